/- Part 3 of a proof: walks of the program. -/
import Derived.Deep.RegionLaw
import Derived.BigRegion
import Derived.BigQuiet
import Derived.Deep.QuietTactic
import Derived.Test.YtodcnkbblippnaaGreatDoorPk02
namespace Go.Proofs.YtodcnkbblippnaaGreatDoor
set_option maxRecDepth 100000
set_option maxHeartbeats 32000000
set_option linter.defProp false
open Go.Proofs.Tryz
section
open Go.RowKit
attribute [local go_sem ↓] Go.wp_at_zero Go.wp_at_succ
def YA(w:World)(b:Nat)(D:DS)(F:Nat->FC)(Ft:Nat->Prop)(h:Db w b D F Ft)(name:ByteArray)(p n:Int):
 Af 82 #[A5 b,.string name,A0 p,A0 n] w (Aj (.tuple #[.string ⟨(F6 D F name p n).1.toArray⟩,A0 (F6 D F name p n).2]) λw'=>w=w'):=by
 obtain⟨vd,vs,vc,vals,VB,hr,hft⟩:=h;have c0:=hr.Ag.c0;have hd:=A1 hr.A4;obtain⟨a,cap,rfl,hc1,aJ,L⟩:=hr.A4.Cg;unfold maxLen at aJ;rcases IW D.A4 name with⟨h1,h2⟩|⟨k,hk,h1,h2,h3⟩
 ·have q:Hid (F6 D F name p n=([],8)):=by unfold Hid F6;rw[h2]
  have hfi:B4 D.A4 name<0:=by omega
  go_enter func82,ntmps82
  go_wp2_with (go_at_call 77;refine(Dx _ _ _ _ hd.o).mono ?_;rintro e w'⟨rfl,rfl⟩);go_ret2;rw[q.o];exact⟨rfl,rfl⟩
 ·obtain⟨aA,z⟩:=hr.cj k hk;obtain⟨a',E,hv,aG,aL⟩:=z.Cg;unfold maxLen at aL;rw[hv]at aA z;have aH:=aA.c0;have O:=A1 z;obtain⟨g,rfl,hn,hp⟩:=L k hk;have aE:=A1 h1;have aM:=A1 h2;obtain⟨bs,z⟩:∃bs,(F (D.A4[k]'hk).2).1=bs:=⟨_,rfl⟩;have aN:=A1 z;rw[z]at aH aG O;have hlen:(bs.length:Int)<=9223372036854775807:=by omega
  have q:Hid (F6 D F name p n=if p<0\/n<0\/p>bs.length\/n>bs.length-p then ([],9) else ((bs.drop p.toNat).take n.toNat,0)):=by
   unfold Hid F6;rw[aM.o];dsimp only;rw[aN.o]
  by_cases aF:0<=p/\0<=n/\p<=bs.length/\n<=bs.length-p
  ·obtain⟨o1,o2,o3,o4⟩:=aF;obtain⟨d,rfl⟩:=LN o1;obtain⟨n',rfl⟩:=LN o2;have q2:Hid (F6 D F name d n'=((bs.drop d).take n',0)):=by
    unfold Hid;rw[q.o,Ae (by omega)];simp
   (have o5:d<=bs.length:=by omega);(have o6:n'<=bs.length-d:=by omega);obtain⟨_,_,he,_,_,_,W,H⟩:=B9 O.o;cases he;by_cases aD:E=d
   ·(have aK:n'=0:=by omega);subst aK;have cv:∀(x:Option Addr) (c:Nat),(convert 127 9 (.slice x 0 c)).run Tryz.prog w=.ok (.string ⟨#[]⟩) w:=by
     intro x c;cases x with
     | none=>
      rw[run_convert_bytes_string (P:=Tryz.prog) w 127 9 5 none 0 c underlying127 underlying5 underlying9];rfl
     | some ad=>exact O2 (P:=Tryz.prog) w 127 9 5 ad c [] underlying127 underlying5 underlying9 (by simp)
    subst aD
    go_enter func82,ntmps82
    go_wp2_with (go_at_call 77;refine(Dx _ _ _ _ hd.o).mono ?_;rintro e w'⟨rfl,rfl⟩;rw[aE.o]);go_ret2;rw[q2.o];exact⟨by simp,rfl⟩
   ·obtain⟨I,aI⟩:∃I,a'=some (Ac I 0):=by
     cases ha:a' with
     | none=>have:=(W ha).2;omega
     | some ad=>obtain⟨g',rfl⟩:=H ad ha;exact⟨g',rfl⟩
    subst aI;have cv:(convert 127 9 (.slice (some (Ac I d)) n' (E-d))).run Tryz.prog w=.ok (.string ⟨((bs.drop d).take n').toArray⟩) w:=by
     (have hl:((bs.drop d).take n').length=n':=by simp;omega)
     have:=O2 (P:=Tryz.prog) w 127 9 5 (Ac I d) (E-d) ((bs.drop d).take n') underlying127 underlying5 underlying9 (by
      intro j hj;(have aB:d+j<bs.length:=by simp at hj;omega);(have Y:((Ac I d):Addr).add j=(Ac I (d+j)):=by unfold Addr.add;split<;>simp_all);rw[Y];have:=BF O.o (g:=I) rfl (j:=d+j) (u:=.int .u8 (bs[d+j]'aB).toNat) (by simp[E3,List.getElem?_eq_getElem aB])
      simpa using this)
     rw[hl]at this;exact this
    go_enter func82,ntmps82
    go_wp2_with (go_at_call 77;refine(Dx _ _ _ _ hd.o).mono ?_;rintro e w'⟨rfl,rfl⟩;rw[aE.o]);go_ret2;rw[q2.o];exact⟨rfl,rfl⟩
  ·have q2:Hid (F6 D F name p n=([],9)):=by
    unfold Hid;rw[q.o,Ai (by omega)]
   go_enter func82,ntmps82
   go_wp2_with (go_at_call 77;refine(Dx _ _ _ _ hd.o).mono ?_;rintro e w'⟨rfl,rfl⟩;rw[aE.o])
   all_goals (go_ret2;rw[q2.o];exact⟨rfl,rfl⟩)
def C4.b4{w w':World}{b:Nat}{D:DS}{F:Nat->FC}{vd vs vc:Value}{L:List Value}{aA:Nat->Value}{S:Nat->Prop}(h:C4 w b D F vd vs vc L aA){f:Nat}(hf:D.Au f){vb':Value}{bs':List UInt8}{s':Int}(h1:CZ w' f vb' s')(h2:FP w' vb' bs')(hc:A3 S w w')(hS:∀k,S k->k=f\/(aA f).ownBlock=some k)(hv:∀g,vb'.ownBlock=some g->(aA f).ownBlock=some g\/w.heap.size<=g):
 C4 w' b D (upd F f (bs',s')) vd vs vc L (λx=>if x=f then vb' else aA x):=by
 obtain⟨aD,aB⟩:=h.BN f hf;have H:∀(k:Nat) (c:Array Value) (e:Nat),w.heap[k]?=some (Obj.cells c e (0,0))->e≠129->e≠5->w'.heap[k]?=w.heap[k]?:=λk c e H Y aF=>
  hc.Ap k (Bz H) (λd=>by
   rcases hS k d with d|d
   ·exact BT H aD Y d
   ·obtain⟨c',z⟩:=Be aB d
    exact BT H z aF rfl)
 refine⟨?_,?_,?_,?_,?_,?_,?_⟩
 ·have:=h.Ag;unfold AN at this ⊢;rw[H b _ _ this (by decide) (by decide)];exact this
 ·exact Az h.A4 λg E=>by obtain⟨c,z⟩:=Be h.A4 E;exact H g _ _ z (by decide) (by decide)
 ·exact Az h.AP λg E=>by obtain⟨c,z⟩:=Be h.AP E;exact H g _ _ z (by decide) (by decide)
 ·exact Az h.Ak λg E=>by obtain⟨c,z⟩:=Be h.Ak E;exact H g _ _ z (by decide) (by decide)
 ·intro i hi;obtain⟨v,h1,h2⟩:=h.Da i hi;exact⟨v,h1,Az h2 λg E=>by obtain⟨c,z⟩:=Be h2 E;exact H g _ _ z (by decide) (by decide)⟩
 ·intro f2 I;by_cases Y:f2=f
  ·subst Y;simp only[upd,Ch];exact⟨h1,h2⟩
  ·obtain⟨g1,g2⟩:=h.BN f2 I;simp only[upd,Y,C7];refine⟨g1.ay (hc.Ap f2 (Bz g1) (λd=>?_)),Az g2 λg E=>hc.Ap g (AI g2 E) (λd=>?_)⟩
   ·rcases hS _ d with d|d
    ·exact Y d
    ·obtain⟨c',z⟩:=Be aB d;exact BT g1 z (by decide) rfl
   ·rcases hS _ d with d|d
    ·obtain⟨c',z⟩:=Be g2 E;exact BT z aD (by decide) d
    ·exact Y (h.Gi f2 f g I hf E d)
 ·have key:∀f2 g,D.Au f2->f2≠f->(aA f2).ownBlock=some g->vb'.ownBlock=some g->False:=by
   intro f2 g h3 aE h4 h5;rcases hv g h5 with h6|h6
   ·exact aE (h.Gi f2 f g h3 hf h4 h6)
   ·have:=AI (h.BN f2 h3).2 h4;omega
  intro f1 f2 g k1 k2 W O;by_cases a1:f1=f<;>by_cases a2:f2=f
  ·rw[a1,a2]
  ·simp only[a1,Ch]at W;simp only[a2,C7]at O;exact(key f2 g k2 a2 O W).elim
  ·simp only[a2,Ch]at O;simp only[a1,C7]at W;exact(key f1 g k1 a1 W O).elim
  ·simp only[a1,C7]at W;simp only[a2,C7]at O;exact h.Gi f1 f2 g k1 k2 W O
def C9.b4{b:Nat}{D:DS}{L H E:Value}{d:List Value}{z:Nat->Value}{f:Nat}{vb':Value}{N:Nat}(O:D.Au f)(W:∀g,vb'.ownBlock=some g->(z f).ownBlock=some g\/N<=g){k:Nat}(h:C9 b D L H E d (λx=>if x=f then vb' else z x) k):C9 b D L H E d z k\/N<=k:=by
 cases h using C9.bL with
 | Ag=>exact .inl .Ag
 | dir e=>exact .inl (.A4 e)
 | A8 e=>exact .inl (.AP e)
 | Ak e=>exact .inl (.Ak e)
 | Da h e=>exact .inl (.Da h e)
 | BN h=>exact .inl (.BN h)
 | byt h e=>
  rename_i f2;by_cases I:f2=f
  ·simp only[I,Ch]at e;rcases W k e with h|h
   ·exact .inl (.bB O h)
   ·exact .inr h
  ·simp only[I,C7]at e;exact .inl (.bB h e)
def C4.Ck{w:World}{b:Nat}{D:DS}{F:Nat->FC}{I O vc:Value}{z:List Value}{H:Nat->Value}(h:C4 w b D F I O vc z H)(k:Nat)(E:k<D.A4.length):
 ∃g cap a' d,I=.slice (some ⟨g,0,none⟩) D.A4.length cap/\H (D.A4[k]'E).2=.slice a' (F (D.A4[k]'E).2).1.length d/\D.A4.length<=cap/\cap<=maxLen/\(F (D.A4[k]'E).2).1.length<=d/\d<=maxLen:=by
 obtain⟨a,cap,hv,Y,L,hc⟩:=h.A4.Cg;obtain⟨g,rfl,_,_⟩:=hc k E;obtain⟨a',d,h3,W,h5⟩:=(h.cj k E).2.Cg;exact⟨g,cap,a',d,hv,h3,Y,L,W,h5⟩
structure Qg (w:World) (b:Nat) (g k f n cap l cap':Nat) (a':Option Addr) (name:ByteArray) (A8:Int):Prop where
 d:A7 w b 0 (AM g n cap)
 n:A7 w g (k*2) (.string name)
 p:A7 w g (k*2+1) (A5 f)
 f0:A7 w f 0 (.slice a' l cap')
 f1:A7 w f 1 (A0 A8)
 fz:∀o,w.frozen? (Ac f o)=false
 gf:¬g=f
 fg:¬f=g
 gb:¬g=b
 bg:¬b=g
 fb:¬f=b
 bf:¬b=f
def C4.dA{w:World}{b:Nat}{D:DS}{F:Nat->FC}{O Y vc:Value}{H:List Value}{L:Nat->Value}(h:C4 w b D F O Y vc H L)(k:Nat)(d:k<D.A4.length){g cap z:Nat}{a':Option Addr}(h1:O=AM g D.A4.length cap)(W:L (D.A4[k]'d).2=.slice a' (F (D.A4[k]'d).2).1.length z):
 Qg w b g k (D.A4[k]'d).2 D.A4.length cap (F (D.A4[k]'d).2).1.length z a' (D.A4[k]'d).1 (F (D.A4[k]'d).2).2:=by
 subst h1;obtain⟨E,hb⟩:=h.cj k d;rw[W]at E;obtain⟨c,I⟩:=Be h.A4 (g:=g) rfl
 exact⟨h.Ag.c0,BF h.A4 rfl (Pg _ k d),BF h.A4 rfl (Pe _ k d),E.c0,E.c1,E.fz,λe=>BT I E (by decide) e,λe=>BT I E (by decide) e.symm,
  λe=>BT I h.Ag (by decide) e,λe=>BT I h.Ag (by decide) e.symm,λe=>BT E h.Ag (by decide) e,λe=>BT E h.Ag (by decide) e.symm⟩
def CG(D:DS)(F:Nat->FC)(name:ByteArray):Int×DS×(Nat->FC):=match lookup D.A4 name with
 | none=>(8,D,F)
 | some f=>((bg D.n).2.1,{D with n:=(bg D.n).2.2},if (bg D.n).2.1=0 then upd F f ((F f).1,(F f).1.length) else F)
def WR(w:World)(b:Nat)(D:DS)(F:Nat->FC)(Ft:Nat->Prop)(h:Db w b D F Ft)(name:ByteArray):
 Af 85 #[A5 b,.string name] w (Aj (A0 (CG D F name).1) λw'=>Dr w Ft w' b (CG D F name).2.1 (CG D F name).2.2):=by
 obtain⟨vd,vs,vc,vals,aJ,hr,Y⟩:=h;have c0:=hr.Ag.c0;have hd:=A1 hr.A4;have aE:=A1 hr.Ag;have aH:=A1 hr;rcases IW D.A4 name with⟨h1,h2⟩|⟨k,z,h1,h2,h3⟩
 ·have q:Hid (CG D F name=(8,D,F)):=by unfold Hid CG;rw[h2]
  have hfi:B4 D.A4 name<0:=by omega
  go_enter func85,ntmps85
  go_wp2_with (go_at_call 77;refine(Dx _ _ _ _ hd.o).mono ?_;rintro e w'⟨rfl,rfl⟩);go_ret;rw[q.o];exact⟨rfl,Dr.bx (A3.I _ _) aH.o λk z=>.inl (Y k z)⟩
 ·have q:Hid (CG D F name=((bg D.n).2.1,{D with n:=(bg D.n).2.2},if (bg D.n).2.1=0 then upd F (D.A4[k]'z).2 ((F (D.A4[k]'z).2).1,(F (D.A4[k]'z).2).1.length) else F)):=by unfold Hid CG;rw[h2]
  have aK:=A1 h1;by_cases L:(bg D.n).2.1=0
  ·(have aD:((bg D.n).2.1==0)=true:=by simpa using L);have O:=A1 <| L;clear L;have hk0:=C2 k;(have hk1:(k:Int)<(D.A4.length:Int):=by omega);obtain⟨g,cap,a',aA,rfl,hv,z1,z2,z3,z4⟩:=aH.o.Ck k z;have aI:=A1 hv;unfold maxLen at z2 z4;clear hv;obtain⟨f,hf⟩:∃f,(D.A4[k]'z).2=f:=⟨_,rfl⟩;have I:Hid (D.Au f):=.inl ⟨_,BY z,hf⟩
   have fin:Hid (∀w1,AN w1 b (AM g D.A4.length cap) vs vc (bg D.n).2.2->A3 (One b) w w1->Qg w1 b g k f D.A4.length cap (F f).1.length aA a' (D.A4[k]'z).1 (F f).2/\
    Dr w Ft (w1.sC f 1 (A0 (F f).1.length)).drew b {D with n:=(bg D.n).2.2} (upd F f ((F f).1,(F f).1.length))):=by
    intro w1 W H;have r1:=aH.o.ag W H;subst hf;refine⟨r1.dA k z rfl aI.o,?_⟩;obtain⟨aG,aF⟩:=r1.cj k z;have r2:=r1.b4 (S:=One (D.A4[k]'z).2) (w':=(w1.sC ((D.A4[k]'z).2) 1 (A0 (F (D.A4[k]'z).2).1.length)).drew) (f:=(D.A4[k]'z).2) I.o (vb':=aJ (D.A4[k]'z).2) (bs':=(F (D.A4[k]'z).2).1) (s':=(F (D.A4[k]'z).2).1.length)
     (aG.s1 _) (by
      refine Ou aF (a:=(Ac ((D.A4[k]'z).2) 1)) ?_ _;intro e;obtain⟨c,hh⟩:=Be aF e
      exact BT hh aG (by decide) rfl) (((A3.I (One _) w1).aq rfl 1 _).af) (λk z=>.inl z) (λg hg=>.inl hg)
    refine Dr.bx ?_ r2 ?_
    ·exact((H.aa (S':=Ft) λk _ z=>by cases z;exact Y b .Ag).aq (Y _ (.BN I.o)) 1 _).af
    ·intro x hx;rcases C9.b4 (N:=w.heap.size) (vb':=aJ (D.A4[k]'z).2) (f:=(D.A4[k]'z).2) I.o (λg hg=>.inl hg) hx.n with h|h
     ·exact .inl (Y x h)
     ·exact .inr h
   rw[hf]at q;clear hf aI
   go_enter func85,ntmps85
   go_wp2_with (first
    | (go_at_call 77;refine(Dx _ _ _ _ hd.o).mono ?_;rintro e w'⟨rfl,rfl⟩;rw[aK.o])
    | (go_at_call 121;refine(GU _ _ _ _ _ _ aE.o).mono ?_;rintro e w1⟨rfl,W,H⟩))
   obtain⟨E,aB⟩:=fin.o w1 W H;have aL:=A1 aB;have x1:=E.d;have x2:=E.p;have x3:=E.f0;have x4:=E.f1;have x5:=E.fz;have x7:=E.fg;clear aB E;go_region_held3 (λw'=>w'.cell? ⟨b,0,none⟩=some (.slice (some ⟨g,0,none⟩) D.A4.length cap)/\w'.cell? ⟨g,k*2+1,none⟩=some (.pointer (some ⟨f,0,none⟩))/\w'.cell? ⟨f,0,none⟩=some (.slice a' (F f).1.length aA)) (refine⟨?_,?_,?_⟩<;>go_simp) (fail);go_wp2;go_ret;rw[q.o,Ai O.o];exact⟨rfl,aL.o⟩
  ·(have aD:((bg D.n).2.1==0)=false:=by simpa using L);have O:=A1 <| L
   go_enter func85,ntmps85
   go_wp2_with (first
    | (go_at_call 77;refine(Dx _ _ _ _ hd.o).mono ?_;rintro e w'⟨rfl,rfl⟩;rw[aK.o])
    | (go_at_call 121;refine(GU _ _ _ _ _ _ aE.o).mono ?_;rintro e w1⟨rfl,W,H⟩))
   go_ret;rw[q.o,Ae O.o];exact⟨rfl,aH.o.bP Y W H⟩
def C4.af{w:World}{b:Nat}{D:DS}{F:Nat->FC}{I E z:Value}{d:List Value}{H:Nat->Value}(h:C4 w b D F I E z d H):C4 w.drew b D F I E z d H:=
 ⟨h.Ag,h.A4,h.AP,h.Ak,h.Da,h.BN,h.Gi⟩
def Db.af{w:World}{b:Nat}{D:DS}{F:Nat->FC}{Ft:Nat->Prop}(h:Db w b D F Ft):Db w.drew b D F Ft:=by
 obtain⟨O,H,E,d,L,I,z⟩:=h;exact⟨O,H,E,d,L,I.af,z⟩
def A26(s:ByteArray):byteCells s=E3 s.data.toList:=rfl
def MB(s:ByteArray)(m:Nat):(s.extract 0 m).data.toList=s.data.toList.take m:=by
 simp[ByteArray.data_extract]
def G2(D:DS)(F:Nat->FC):Int:=max (D.n.AG-B6 F D.A4) 0
def BB(D:DS)(F:Nat->FC)(f:Nat)(data:ByteArray)(d:Int)(e:Int):Int×DS×(Nat->FC):=
 if d>G2 D F then
  (if e=0 then 6 else e,if e=0 then {D with n:={D.n with Bm:=wrap64 (D.n.Bm+1),fulls:=wrap64 (D.n.fulls+1)}} else D,upd F f ((F f).1++data.data.toList.take (G2 D F).toNat,(F f).2))
 else (e,D,upd F f ((F f).1++data.data.toList.take d.toNat,(F f).2))
def Bp(D:DS)(F:Nat->FC)(name data:ByteArray):Int×DS×(Nat->FC):=match lookup D.A4 name with
 | none=>(8,D,F)
 | some f=>
  let r:=bg D.n
  let D1:={D with n:=r.2.2}
  if r.1 then BB D1 F f data data.size r.2.1
  else if r.2.2.AF=false/\0<data.size then BB D1 F f data (r.2.2.Bv % data.size) r.2.1
  else (r.2.1,D1,F)
def A3D{w w2 W Y:World}{b:Nat}{D:DS}{F:Nat->FC}{vd vs vc v3:Value}{z:List Value}{L:Nat->Value}{Ft:Nat->Prop}{f:Nat}{n2:DN}{news:List UInt8}(hc:A3 Ft w w2)(h2:C4 w2 b D F vd vs vc z L)(d:∀k,C9 b D vd vs vc z L k->Ft k)(hf:D.Au f)(hW:AN W b vd vs vc n2)(H:A3 (One b) w2 W)(hA:App W Y 5 1 (L f) v3 ((F f).1.length+news.length) (E3 (F f).1++E3 news)):
 CZ Y f (L f) (F f).2/\Dr w Ft (Y.setCell ⟨f,0,none⟩ v3) b {D with n:=n2} (upd F f ((F f).1++news,(F f).2)):=by
 have rW:=h2.ag hW H;obtain⟨I,aD⟩:=rW.BN f hf
 have E:=I.ay (hA.CC.block f (Bz I) (λe=>by
  obtain⟨c,hh⟩:=Be aD e.symm
  exact BT hh I (by decide) rfl))
 refine⟨E,?_⟩;have O:FP Y v3 ((F f).1++news):=by
  have:=hA.AB;unfold FP;rw[A25,B1];exact this
 have aA:FP (Y.setCell ⟨f,0,none⟩ v3) v3 ((F f).1++news):=by
  refine Ou O (a:=⟨f,0,none⟩) ?_ _;intro e;obtain⟨c,hh⟩:=Be O e;exact BT hh E (by decide) rfl
 have aB:=(hA.Ak (S:=λk=>k=f\/(L f).ownBlock=some k) (λk hk=>.inr hk)).aq (.inl rfl) 0 v3;have hv:∀g,v3.ownBlock=some g->(L f).ownBlock=some g\/W.heap.size<=g:=by
  intro g hg;rcases hA.Ck with h|h
  ·exact .inl (h.symm.trans hg)
  ·rw[hg]at h;cases h;exact .inr (As _)
 have r3:=rW.b4 hf (E.s0 v3) aA aB (λk hk=>hk) hv;have s1:=hc.Ao;have s2:=H.Ao;refine Dr.bx ?_ r3 ?_
 ·refine(hc.Aw H (S':=One b) λx hx _=>by cases hx;exact d b .Ag).Aw aB ?_;rintro x (rfl|hx) _
  ·exact d _ (.BN hf)
  ·exact d _ (.bB hf hx)
 ·intro x hx;rcases C9.b4 (N:=w.heap.size) (vb':=v3) (f:=f) hf (λg hg=>(hv g hg).imp id λh=>by omega) hx.n with h|h
  ·exact .inl (d x h)
  ·exact .inr h
def A3F(w:World)(b:Nat)(D:DS)(F:Nat->FC)(Ft:Nat->Prop)(h:Db w b D F Ft)(name data:ByteArray)(hroom : -4611686018427387904<=D.n.AG/\D.n.AG<=9223372036854775807)(hu:B6 F D.A4<=4611686018427387904)(hp:0<=D.n.Bv/\D.n.Bv<=9223372036854775807)(hl:∀f,lookup D.A4 name=some f->(F f).1.length+data.size<=70368744177664):
 Af 84 #[A5 b,.string name,.string data] w (Aj (A0 (Bp D F name data).1) λw'=>Dr w Ft w' b (Bp D F name data).2.1 (Bp D F name data).2.2):=by
 obtain⟨vd,vs,vc,aO,bM,hr,a2⟩:=h;have c0:=hr.Ag.c0;have hd:=A1 hr.A4;have aN:=A1 hr.Ag;have bV:=A1 hr;rcases IW D.A4 name with⟨h1,h2⟩|⟨k,hk,h1,h2,h3⟩
 ·have q:Hid (Bp D F name data=(8,D,F)):=by unfold Hid Bp;rw[h2]
  have hfi:B4 D.A4 name<0:=by omega
  go_enter func84,ntmps84
  go_wp2_with (go_at_call 77;refine(Dx _ _ _ _ hd.o).mono ?_;rintro e w'⟨rfl,rfl⟩);go_ret;rw[q.o];exact⟨rfl,Dr.bx (A3.I _ _) bV.o λk hk=>.inl (a2 k hk)⟩
 ·obtain⟨g,cap,a',aE,rfl,hv,z1,z2,z3,z4⟩:=hr.Ck k hk;generalize hf:(D.A4[k]'hk).2=f at hv h2 z3;have hl1:=hl f h2;have bO:=A1 hv;unfold maxLen at z2 z4;have a3:Hid (D.Au f):=.inl ⟨_,BY hk,hf⟩;have a6:=A1 h1;have H2:=A1 h2;have bD:=A1 hu;have bB:=A1 a2;obtain⟨i0,hi,aR,aT,aS⟩:=E9 Tryz.infoByte;have hk0:=C2 k;have hk1:(k:Int)<(D.A4.length:Int):=by omega
  have bC:Hid (∀w1,AN w1 b (AM g D.A4.length cap) vs vc (bg D.n).2.2->A3 (One b) w w1->
   C4 w1 b {D with n:=(bg D.n).2.2} F (AM g D.A4.length cap) vs vc aO bM/\Db w1 b {D with n:=(bg D.n).2.2} F Ft):=by
   intro w1 z Y;have r1:=hr.ag z Y;exact⟨r1,_,_,_,_,_,r1,λk hk=>a2 k hk.n⟩
  have A2:Hid (∀w1 O,AN w1 b (AM g D.A4.length cap) vs vc (bg D.n).2.2->A3 (One b) w w1->A3 Ab w1.drew O->
   C4 O b {D with n:=(bg D.n).2.2} F (AM g D.A4.length cap) vs vc aO bM/\A3 Ft w O/\Qg O b g k f D.A4.length cap (F f).1.length aE a' (D.A4[k]'hk).1 (F f).2/\AN O b (AM g D.A4.length cap) vs vc (bg D.n).2.2):=by
   intro w1 O z Y aB;have r1:=(hr.ag z Y).af;have r2:=r1.aP λx hx=>aB.Ap x (r1.lt hx) (λh=>h);refine⟨r2,?_,?_,r2.Ag⟩
   ·exact((Y.aa (S':=Ft) λk _ hk=>by cases hk;exact a2 b .Ag).af).Aw aB (λx hx=>hx.elim)
   ·subst hf;exact r2.dA k hk rfl bO.o
  have a4:Hid (-4611686018427387904<=(bg D.n).2.2.AG/\(bg D.n).2.2.AG<=9223372036854775807/\0<=(bg D.n).2.2.Bv/\(bg D.n).2.2.Bv<=9223372036854775807):=by
   unfold Hid bg;dsimp only;split
   ·exact⟨hroom.1,hroom.2,hp.1,hp.2⟩
   ·split
    ·exact⟨hroom.1,hroom.2,hp.1,hp.2⟩
    ·split<;>exact⟨hroom.1,hroom.2,hp.1,hp.2⟩
  have q:Hid (Bp D F name data=(let r:=bg D.n
   let D1:={D with n:=r.2.2}
   if r.1 then BB D1 F f data data.size r.2.1
   else if r.2.2.AF=false/\0<data.size then BB D1 F f data (r.2.2.Bv % data.size) r.2.1
   else (r.2.1,D1,F))):=by unfold Hid Bp;rw[h2]
  obtain⟨I,bE⟩:∃I,(bg D.n).2.2=I:=⟨_,rfl⟩;obtain⟨e1,bQ⟩:∃e1,(bg D.n).2.1=e1:=⟨_,rfl⟩;obtain⟨d1,bU⟩:∃d1,(bg D.n).1=d1:=⟨_,rfl⟩;have bA:Hid (bg D.n=(d1,e1,I)):=by unfold Hid;rw[<-bE,<-bQ,<-bU]
  rw[bE]at bC A2 a4;have a7:Hid (∀(W:World),AN W b (AM g D.A4.length cap) vs vc D.n->Af 121 #[A5 b] W (Aj (.tuple #[.bool d1,A0 e1]) λw'=>AN w' b (AM g D.A4.length cap) vs vc I/\A3 (One b) W w')):=by
   intro W hW;have:=GU W b _ _ _ _ hW;rw[bA.o]at this;exact this
  rw[bA.o]at q;obtain⟨r1,r2,r3,r4⟩:=a4.o;have hun:(0:Int)<=B6 F D.A4:=Gv _;have hul:(B6 F D.A4:Int)<=4611686018427387904:=by have:=bD.o;omega
  have hw:IntKind.i64.wrap (I.AG-(B6 F D.A4:Int))=I.AG-(B6 F D.A4:Int):=by simp only[Jo];omega
  obtain⟨L,hL⟩:∃L,(if I.AG-(B6 F D.A4:Int)<0 then 0 else I.AG-(B6 F D.A4:Int))=L:=⟨_,rfl⟩;have bR:0<=L:=by rw[<-hL];split<;>omega
  have hLm:L<=9223372036854775807:=by rw[<-hL];split<;>omega
  have aQ:Hid (G2 {D with n:=I} F=L):=by unfold Hid G2;show max (I.AG-(B6 F D.A4:Int)) 0=L;rw[<-hL];split<;>omega
  have bJ:Hid (∀(O W:World) (n2:DN),C4 O b {D with n:=I} F (AM g D.A4.length cap) vs vc aO bM->AN W b (AM g D.A4.length cap) vs vc n2->A3 (One b) O W->W.ownsRow 0 5 1 (.slice a' (F f).1.length aE) (F f).1.length (E3 (F f).1)):=by
   intro O W n2 h2 hW hc;have:=((h2.ag hW hc).BN f a3.o).2;rw[bO.o]at this;exact this
  have bL:Hid (∀(O W w3:World) (n2:DN) (s:ByteArray) (b3:Option Addr) (aA:Nat),C4 O b {D with n:=I} F (AM g D.A4.length cap) vs vc aO bM->A3 Ft w O->AN W b (AM g D.A4.length cap) vs vc n2->A3 (One b) O W->
   App W w3 5 1 (.slice a' (F f).1.length aE) (.slice b3 ((F f).1.length+s.size) aA) ((F f).1.length+s.size) (E3 (F f).1++byteCells s)->
   CZ w3 f (.slice a' (F f).1.length aE) (F f).2/\Dr w Ft (w3.sC f 0 (.slice b3 ((F f).1.length+s.size) aA)) b {D with n:=n2} (upd F f ((F f).1++s.data.toList,(F f).2))):=by
   intro O W w3 n2 s b3 aA h2 hc hW bT hA;have:=A3D (n2:=n2) (f:=f) (v3:=.slice b3 ((F f).1.length+s.size) aA) (news:=s.data.toList) hc h2 (λk hk=>bB.o k hk.n) a3.o hW bT (by rw[bO.o];simpa[A26] using hA);rw[bO.o]at this;exact this
  obtain⟨l,rfl⟩:=LN bR;have BE:(if e1=0 then True else True):=by split<;>trivial
  cases d1 with
  | true=>
   by_cases a1:(l:Int)<(data.size:Int)
   ·by_cases he:e1=0
    ·(have bH:(e1==0)=true:=by simpa using he);have aM:=A1 he;(have a5:l<=data.size:=by omega);(have aI:(data.extract 0 l).size=l:=by simp;omega)
     go_enter func84,ntmps84
     go_wp2_with (first
      | (go_at_call 77;refine(Dx _ _ _ _ hd.o).mono ?_;rintro e w'⟨rfl,rfl⟩;rw[a6.o])
      | (go_at_call 121;refine(a7.o _ aN.o).mono ?_;rintro e w1⟨rfl,z,Y⟩))
     obtain⟨bN,aY⟩:=bC.o w1 z Y;have aL:=A1 aY;have aU:=z.c3;go_region_held3 (λw'=>w'.cell? ⟨b,3,none⟩=some (A0 I.AG)) (first|exact(AN.Ak (w:=w1.drew) z aB (λh=>h)).c3|go_simp) ((go_at_call 90;refine(Ky _ b _ F Ft aL.o.af bD.o).mono ?_;rintro e O⟨rfl,aB⟩));obtain⟨aV,aX,aD,aP⟩:=A2.o w1 O z Y aB;have aG:=A1 aV;have aK:=A1 aX;have aF:=A1 aP;have x1:=aD.d;have x2:=aD.p;have x3:=aD.f0;have x8:=aD.gb;have x9:=aD.bf;have aZ:=aD.fb;have y8:=aP.c8;have y9:=aP.c9;have yz:=aP.fz;go_wp2;have aH:=A1 (bJ.o O ((O.sC b 8 (A0 (wrap64 (I.Bm+1)))).sC b 9 (A0 (wrap64 (I.fulls+1)))).drew {I with Bm:=wrap64 (I.Bm+1),fulls:=wrap64 (I.fulls+1)} aG.o ((aF.o.s8 _).s9 _) ((((A3.I (One b) O).aq rfl 8 _).aq rfl 9 _).af));(have aJ:((F f).1.length+(data.extract 0 l).size)*1<=140737488355328:=by rw[aI];omega);go_region_law
      ((refine Ju ?_ (.tmp 90) (.tmp 93) 127 9 ?_ 5 i0 _ 1 1 underlying127 hi aR aT aS rfl N7 (.slice a' (F f).1.length aE) (F f).1.length (E3 (F f).1) ?_ aH.o (.string (data.extract 0 l)) (data.extract 0 l).size (byteCells (data.extract 0 l)) ?_ (N4 _ underlying9 (data.extract 0 l)) aJ ?_;(· rfl);(· rfl);(· rfl);(· rfl);intro b3 aA w3 hA;have E:=A1 (bL.o O ((O.sC b 8 (A0 (wrap64 (I.Bm+1)))).sC b 9 (A0 (wrap64 (I.fulls+1)))).drew w3 {I with Bm:=wrap64 (I.Bm+1),fulls:=wrap64 (I.fulls+1)} (data.extract 0 l) b3 aA aG.o aK.o ((aF.o.s8 _).s9 _) ((((A3.I (One b) O).aq rfl 8 _).aq rfl 9 _).af) hA);have aW:=E.o.1.fz;have a0:=E.o.1.c0))
     go_wp2;go_ret;have q1:=q.o;have q2:BB {D with n:=I} F f data (data.size:Int) e1=(6,{D with n:={I with Bm:=wrap64 (I.Bm+1),fulls:=wrap64 (I.fulls+1)}},upd F f ((F f).1++data.data.toList.take l,(F f).2)):=by
      unfold BB;rw[aQ.o,Ai a1,Ai aM.o,Ai aM.o,Ez]
     have H:=E.o.2;rw[MB,aI]at H;rw[q1,q2];exact⟨rfl,H⟩
    ·(have bH:(e1==0)=false:=by simpa using he);have aM:=A1 he;(have a5:l<=data.size:=by omega);(have aI:(data.extract 0 l).size=l:=by simp;omega)
     go_enter func84,ntmps84
     go_wp2_with (first
      | (go_at_call 77;refine(Dx _ _ _ _ hd.o).mono ?_;rintro e w'⟨rfl,rfl⟩;rw[a6.o])
      | (go_at_call 121;refine(a7.o _ aN.o).mono ?_;rintro e w1⟨rfl,z,Y⟩))
     obtain⟨bN,aY⟩:=bC.o w1 z Y;have aL:=A1 aY;have aU:=z.c3;go_region_held3 (λw'=>w'.cell? ⟨b,3,none⟩=some (A0 I.AG)) (first|exact(AN.Ak (w:=w1.drew) z aB (λh=>h)).c3|go_simp) ((go_at_call 90;refine(Ky _ b _ F Ft aL.o.af bD.o).mono ?_;rintro e O⟨rfl,aB⟩));obtain⟨aV,aX,aD,aP⟩:=A2.o w1 O z Y aB;have aG:=A1 aV;have aK:=A1 aX;have aF:=A1 aP;have x1:=aD.d;have x2:=aD.p;have x3:=aD.f0;have x8:=aD.gb;have x9:=aD.bf;have aZ:=aD.fb;go_wp2;have aH:=A1 (bJ.o O O.drew I aG.o aF.o ((A3.I (One b) O).af));(have aJ:((F f).1.length+(data.extract 0 l).size)*1<=140737488355328:=by rw[aI];omega);go_region_law
      ((refine Ju ?_ (.tmp 90) (.tmp 93) 127 9 ?_ 5 i0 _ 1 1 underlying127 hi aR aT aS rfl N7 (.slice a' (F f).1.length aE) (F f).1.length (E3 (F f).1) ?_ aH.o (.string (data.extract 0 l)) (data.extract 0 l).size (byteCells (data.extract 0 l)) ?_ (N4 _ underlying9 (data.extract 0 l)) aJ ?_;(· rfl);(· rfl);(· rfl);(· rfl);intro b3 aA w3 hA;have E:=A1 (bL.o O O.drew w3 I (data.extract 0 l) b3 aA aG.o aK.o aF.o ((A3.I (One b) O).af) hA);have aW:=E.o.1.fz;have a0:=E.o.1.c0))
     go_wp2;go_ret;have q1:=q.o;have q2:BB {D with n:=I} F f data (data.size:Int) e1=(e1,{D with n:=I},upd F f ((F f).1++data.data.toList.take l,(F f).2)):=by
      unfold BB;rw[aQ.o,Ai a1,Ae aM.o,Ae aM.o,Ez]
     have H:=E.o.2;rw[MB,aI]at H;rw[q1,q2];exact⟨rfl,H⟩
   ·(have bG:(data.size:Int)<=l:=by omega)
    go_enter func84,ntmps84
    go_wp2_with (first
     | (go_at_call 77;refine(Dx _ _ _ _ hd.o).mono ?_;rintro e w'⟨rfl,rfl⟩;rw[a6.o])
     | (go_at_call 121;refine(a7.o _ aN.o).mono ?_;rintro e w1⟨rfl,z,Y⟩))
    obtain⟨bN,aY⟩:=bC.o w1 z Y;have aL:=A1 aY;have aU:=z.c3;go_region_held3 (λw'=>w'.cell? ⟨b,3,none⟩=some (A0 I.AG)) (first|exact(AN.Ak (w:=w1.drew) z aB (λh=>h)).c3|go_simp) ((go_at_call 90;refine(Ky _ b _ F Ft aL.o.af bD.o).mono ?_;rintro e O⟨rfl,aB⟩));obtain⟨aV,aX,aD,aP⟩:=A2.o w1 O z Y aB;have aG:=A1 aV;have aK:=A1 aX;have aF:=A1 aP;have x1:=aD.d;have x2:=aD.p;have x3:=aD.f0;have x8:=aD.gb;have x9:=aD.bf;have aZ:=aD.fb;go_wp2;have aH:=A1 (bJ.o O O.drew I aG.o aF.o ((A3.I (One b) O).af));(have aJ:((F f).1.length+data.size)*1<=140737488355328:=by omega);go_region_law
     ((refine Ju ?_ (.tmp 90) (.tmp 93) 127 9 ?_ 5 i0 _ 1 1 underlying127 hi aR aT aS rfl N7 (.slice a' (F f).1.length aE) (F f).1.length (E3 (F f).1) ?_ aH.o (.string data) data.size (byteCells data) ?_ (N4 _ underlying9 data) aJ ?_;(· rfl);(· rfl);(· rfl);(· rfl);intro b3 aA w3 hA;have E:=A1 (bL.o O O.drew w3 I data b3 aA aG.o aK.o aF.o ((A3.I (One b) O).af) hA);have aW:=E.o.1.fz;have a0:=E.o.1.c0))
    go_wp2;go_ret;have q1:=q.o;have q2:BB {D with n:=I} F f data (data.size:Int) e1=(e1,{D with n:=I},upd F f ((F f).1++data.data.toList,(F f).2)):=by
     unfold BB;rw[aQ.o,Ae (by omega),Ez,Er (by show data.data.toList.length<=data.data.size;rw[LQ];exact As _)]
    have H:=E.o.2;rw[q1,q2];exact⟨rfl,H⟩
  | false=>
   have bF:Hid (e1=5/\I.AF=I.AF):=by
    have:=bA.o;unfold Hid;unfold bg at this;dsimp only at this;split at this
    ·cases this;exact⟨rfl,rfl⟩
    ·split at this
     ·cases this
     ·split at this
      ·cases this;exact⟨rfl,rfl⟩
      ·cases this
   by_cases hC:I.AF=false/\0<data.size
   ·obtain⟨a9,bI⟩:=hC;(have bK:(0:Int)<(data.size:Int):=by omega);obtain⟨m,hm⟩:=LN (LO I.Bv (b:=(data.size:Int)) (by omega));(have hml:(m:Int)<(data.size:Int):=by rw[<-hm];exact Qb _ bK);have qC:Hid (Bp D F name data=BB {D with n:=I} F f data (m:Int) e1):=by
     have:=q.o;rw[<-hm];unfold Hid;rw[this];simp only[Qe,C7,a9,bI,and_self,Ch]
    (have aM:Hid (¬e1=0):=by have:=bF.o.1;unfold Hid;omega);(have bH:(e1==0)=false:=by have:=bF.o.1;simp[this]);by_cases a1:(l:Int)<(m:Int)
    ·(have a5:l<=data.size:=by omega);(have aI:(data.extract 0 l).size=l:=by simp;omega)
     go_enter func84,ntmps84
     go_wp2_with (first
      | (go_at_call 77;refine(Dx _ _ _ _ hd.o).mono ?_;rintro e w'⟨rfl,rfl⟩;rw[a6.o])
      | (go_at_call 121;refine(a7.o _ aN.o).mono ?_;rintro e w1⟨rfl,z,Y⟩;have bP:=z.c7;have a8:=z.bY))
     obtain⟨bN,aY⟩:=bC.o w1 z Y;have aL:=A1 aY;have aU:=z.c3;go_region_held3 (λw'=>w'.cell? ⟨b,3,none⟩=some (A0 I.AG)) (first|exact(AN.Ak (w:=w1.drew) z aB (λh=>h)).c3|go_simp) ((go_at_call 90;refine(Ky _ b _ F Ft aL.o.af bD.o).mono ?_;rintro e O⟨rfl,aB⟩));obtain⟨aV,aX,aD,aP⟩:=A2.o w1 O z Y aB;have aG:=A1 aV;have aK:=A1 aX;have aF:=A1 aP;have x1:=aD.d;have x2:=aD.p;have x3:=aD.f0;have x8:=aD.gb;have x9:=aD.bf;have aZ:=aD.fb;go_wp2;have aH:=A1 (bJ.o O O.drew I aG.o aF.o ((A3.I (One b) O).af));(have aJ:((F f).1.length+(data.extract 0 l).size)*1<=140737488355328:=by rw[aI];omega);go_region_law
      ((refine Ju ?_ (.tmp 90) (.tmp 93) 127 9 ?_ 5 i0 _ 1 1 underlying127 hi aR aT aS rfl N7 (.slice a' (F f).1.length aE) (F f).1.length (E3 (F f).1) ?_ aH.o (.string (data.extract 0 l)) (data.extract 0 l).size (byteCells (data.extract 0 l)) ?_ (N4 _ underlying9 (data.extract 0 l)) aJ ?_;(· rfl);(· rfl);(· rfl);(· rfl);intro b3 aA w3 hA;have E:=A1 (bL.o O O.drew w3 I (data.extract 0 l) b3 aA aG.o aK.o aF.o ((A3.I (One b) O).af) hA);have aW:=E.o.1.fz;have a0:=E.o.1.c0))
     go_wp2;go_ret;have q1:=qC.o;have q2:BB {D with n:=I} F f data (m:Int) e1=(e1,{D with n:=I},upd F f ((F f).1++data.data.toList.take l,(F f).2)):=by
      unfold BB;rw[aQ.o,Ai a1,Ae aM.o,Ae aM.o,Ez]
     have H:=E.o.2;rw[MB,aI]at H;rw[q1,q2];exact⟨rfl,H⟩
    ·(have bG:(m:Int)<=l:=by omega);(have a5:m<=data.size:=by omega);(have aI:(data.extract 0 m).size=m:=by simp;omega)
     go_enter func84,ntmps84
     go_wp2_with (first
      | (go_at_call 77;refine(Dx _ _ _ _ hd.o).mono ?_;rintro e w'⟨rfl,rfl⟩;rw[a6.o])
      | (go_at_call 121;refine(a7.o _ aN.o).mono ?_;rintro e w1⟨rfl,z,Y⟩;have bP:=z.c7;have a8:=z.bY))
     obtain⟨bN,aY⟩:=bC.o w1 z Y;have aL:=A1 aY;have aU:=z.c3;go_region_held3 (λw'=>w'.cell? ⟨b,3,none⟩=some (A0 I.AG)) (first|exact(AN.Ak (w:=w1.drew) z aB (λh=>h)).c3|go_simp) ((go_at_call 90;refine(Ky _ b _ F Ft aL.o.af bD.o).mono ?_;rintro e O⟨rfl,aB⟩));obtain⟨aV,aX,aD,aP⟩:=A2.o w1 O z Y aB;have aG:=A1 aV;have aK:=A1 aX;have aF:=A1 aP;have x1:=aD.d;have x2:=aD.p;have x3:=aD.f0;have x8:=aD.gb;have x9:=aD.bf;have aZ:=aD.fb;go_wp2;have aH:=A1 (bJ.o O O.drew I aG.o aF.o ((A3.I (One b) O).af));(have aJ:((F f).1.length+(data.extract 0 m).size)*1<=140737488355328:=by rw[aI];omega);go_region_law
      ((refine Ju ?_ (.tmp 90) (.tmp 93) 127 9 ?_ 5 i0 _ 1 1 underlying127 hi aR aT aS rfl N7 (.slice a' (F f).1.length aE) (F f).1.length (E3 (F f).1) ?_ aH.o (.string (data.extract 0 m)) (data.extract 0 m).size (byteCells (data.extract 0 m)) ?_ (N4 _ underlying9 (data.extract 0 m)) aJ ?_;(· rfl);(· rfl);(· rfl);(· rfl);intro b3 aA w3 hA;have E:=A1 (bL.o O O.drew w3 I (data.extract 0 m) b3 aA aG.o aK.o aF.o ((A3.I (One b) O).af) hA);have aW:=E.o.1.fz;have a0:=E.o.1.c0))
     go_wp2;go_ret;have q1:=qC.o;have q2:BB {D with n:=I} F f data (m:Int) e1=(e1,{D with n:=I},upd F f ((F f).1++data.data.toList.take m,(F f).2)):=by
      unfold BB;rw[aQ.o,Ae (by omega),Ez]
     have H:=E.o.2;rw[MB,aI]at H;rw[q1,q2];exact⟨rfl,H⟩
   ·have qC:Hid (Bp D F name data=(e1,{D with n:=I},F)):=by
     have:=q.o;unfold Hid;rw[this];simp only[Qe,C7,hC]
    by_cases a9:I.AF=true
    ·go_enter func84,ntmps84
     go_wp2_with (first
      | (go_at_call 77;refine(Dx _ _ _ _ hd.o).mono ?_;rintro e w'⟨rfl,rfl⟩;rw[a6.o])
      | (go_at_call 121;refine(a7.o _ aN.o).mono ?_;rintro e w1⟨rfl,z,Y⟩;have a8:=z.bY))
     go_ret;rw[qC.o];exact⟨rfl,bV.o.bP bB.o z Y⟩
    ·(have bS:I.AF=false:=by simpa using a9);have bI:(data.size:Int)<=0:=by
      have:¬0<data.size:=λh=>hC ⟨bS,h⟩;omega
     go_enter func84,ntmps84
     go_wp2_with (first
      | (go_at_call 77;refine(Dx _ _ _ _ hd.o).mono ?_;rintro e w'⟨rfl,rfl⟩;rw[a6.o])
      | (go_at_call 121;refine(a7.o _ aN.o).mono ?_;rintro e w1⟨rfl,z,Y⟩;have a8:=z.bY))
     go_ret;rw[qC.o];exact⟨rfl,bV.o.bP bB.o z Y⟩
def Po{w w1 w3 w5:World}{b:Nat}{D:DS}{F:Nat->FC}{vd vs vc vl W:Value}{H:List Value}{aE:Nat->Value}{Ft:Nat->Prop}{n1:DN}{es:List AO}(hr:C4 w b D F vd vs vc H aE)(d:∀k,C9 b D vd vs vc H aE k->Ft k)(aH:AN w1 b vd vs vc n1)(aB:A3 (One b) w w1)(Y:A3 (λ_=>False) w1 w3)(e3:D3 w3 vl es)(aD:∀g,vl.ownBlock=some g->w1.heap.size<=g)(aA:∀f,Dg f es->D.Au f)(aF:AN w5 b vl vs W n1)(aI:w5.ownsRow 0 120 1 W (D.Av.length+1) (H++[vl]))(L:A3 (λk=>k=b\/vc.ownBlock=some k) w3 w5)(hv:∀g,W.ownBlock=some g->vc.ownBlock=some g\/w3.heap.size<=g):
 Dr w Ft w5 b {D with A4:=es,Av:=D.Av++[es],n:=n1} F:=by
 have s1:=aB.Ao;have s3:=Y.Ao;have r1:=hr.ag aH aB;have r3:=r1.aP λk O=>Y.Ap k (r1.lt O) (λh=>h)
 have e5:=Az e3 λg hg=>L.Ap g (AI e3 hg) (by
  obtain⟨c,hh⟩:=Be e3 hg;rintro (e|e)
  ·exact BT hh r3.Ag (by decide) e
  ·obtain⟨c',aG⟩:=Be r3.Ak e
   exact BT hh aG (by decide) rfl)
 have r5:=r3.cu (F':=F) (VB':=aE) (es:=es) aF aI e5 L (λk O=>O) (λf E=>⟨rfl,rfl⟩) (λf E=>.inl (aA f E));have I:∀f,({D with A4:=es,Av:=D.Av++[es],n:=n1}:DS).Au f->D.Au f:=by
  rintro f (E|E|⟨c,z,E⟩)
  ·exact aA f E
  ·exact .inr (.inl E)
  ·rcases AV.1 z with z|z
   ·exact .inr (.inr ⟨c,z,E⟩)
   ·simp at z;subst z;exact aA f E
 refine Dr.bx ?_ r5 ?_
 ·have a:=(aB.aa (S':=Ft) λk _ O=>by cases O;exact d b .Ag).Aw Y (λx hx=>hx.elim);refine a.Aw L ?_;rintro x (e|e) _
  ·subst e;exact d x .Ag
  ·exact d x (.Ak e)
 ·intro k O;cases O using C9.bL with
  | Ag=>exact .inl (d b .Ag)
  | dir e=>right;have:=aD _ e;omega
  | A8 e=>exact .inl (d k (.AP e))
  | Ak e=>
   rcases hv k e with h|h
   ·exact .inl (d k (.Ak h))
   ·right;omega
  | Da hm e=>
   rcases AV.1 hm with hm|hm
   ·exact .inl (d k (.Da hm e))
   ·simp at hm;subst hm;right;have:=aD _ e;omega
  | BN E=>exact .inl (d _ (.BN (I _ E)))
  | byt E e=>exact .inl (d _ (.bB (I _ E) e))
def Pn{w I L:World}{b:Nat}{D:DS}{F:Nat->FC}{W O H:Value}{d:List Value}{aA:Nat->Value}{n1:DN}(hr:C4 w b D F W O H d aA)(E:AN I b W O H n1)(Y:A3 (One b) w I)(z:A3 (λ_=>False) I L):
 AN L b W O H n1/\L.ownsRow 0 120 1 H D.Av.length d:=by
 have r1:=hr.ag E Y;exact⟨E.Ak z (λh=>h),Az r1.Ak λg hg=>z.Ap g (AI r1.Ak hg) (λh=>h)⟩
def App.bE{w w':World}{e size n:Nat}{z:Value}{xs:List Value}(h:App w w' e size (.slice none 0 0) z n xs):A3 Ab w w':=h.Ak (λk d=>by simp[Value.ownBlock]at d)
def App.AU{w w':World}{e size n:Nat}{z:Value}{xs:List Value}(h:App w w' e size (.slice none 0 0) z n xs):∀g,z.ownBlock=some g->w.heap.size<=g:=by
 intro g d;rcases h.Ck with h|h
 ·rw[h]at d;cases d
 ·rw[h]at d;cases d;exact As _
def App.cr{z w w':World}{e size n:Nat}{v H:Value}{xs:List Value}(h:App w w' e size v H n xs)(I:A3 (λ_=>False) z w)(L:∀g,v.ownBlock=some g->z.heap.size<=g):
 A3 (λ_=>False) z w'/\∀g,H.ownBlock=some g->z.heap.size<=g:=by
 refine⟨I.CC h.CC λk O hlt=>by have:=L k O;omega,λg d=>?_⟩;rcases h.Ck with E|E
 ·rw[E]at d;exact L g d
 ·rw[E]at d;cases d;exact I.Ao
def Dh(D:DS)(name:ByteArray):Int×DS:=
 if B4 D.A4 name<0 then (8,D) else
  let es:=D.A4.take (B4 D.A4 name).toNat++D.A4.drop ((B4 D.A4 name).toNat+1)
  ((bg D.n).2.1,if (bg D.n).1 then {D with A4:=es,Av:=D.Av++[es],n:=(bg D.n).2.2} else {D with n:=(bg D.n).2.2})
def Yn(w:World)(b:Nat)(D:DS)(F:Nat->FC)(Ft:Nat->Prop)(h:Db w b D F Ft)(name:ByteArray)(hs:D.A4.length<1099511627776/\D.Av.length<1099511627776):
 Af 193 #[A5 b,.string name] w (Aj (A0 (Dh D name).1) λw'=>Dr w Ft w' b (Dh D name).2 F):=by
 obtain⟨vd,vs,vc,vals,VB,hr,aJ⟩:=h;obtain⟨hs1,aO⟩:=hs;have aB:=A1 hr;have aU:=A1 aJ;have c0:=hr.Ag.c0;have hd:=A1 hr.A4;have aI:=A1 hr.Ag;rcases Pd D.A4 name with⟨h1,h2⟩|⟨k,hk,h1,h2⟩
 ·have q:Hid (Dh D name=(8,D)):=by unfold Hid Dh;rw[Ai (by omega)]
  have hfi:B4 D.A4 name<0:=by omega
  go_enter func193,ntmps193
  go_wp2_with (go_at_call 77;refine(Dx _ _ _ _ hd.o).mono ?_;rintro e w'⟨rfl,rfl⟩);go_ret;rw[q.o];exact⟨rfl,Dr.bx (A3.I _ _) aB.o λk hk=>.inl (aJ k hk)⟩
 ·have q:Hid (Dh D name=((bg D.n).2.1,if (bg D.n).1 then {D with A4:=D.A4.take k++D.A4.drop (k+1),Av:=D.Av++[D.A4.take k++D.A4.drop (k+1)],n:=(bg D.n).2.2} else {D with n:=(bg D.n).2.2})):=by
   unfold Hid Dh;rw[Ae (by omega),h1];rfl
  have aW:=A1 h1;by_cases aE:(bg D.n).1=true
  ·obtain⟨i0,hi,W,aA,Y⟩:=E9 Tryz.cS;obtain⟨a,cap,rfl,z1,z2,aH⟩:=aB.o.A4.Cg;obtain⟨g,rfl,_,_⟩:=aH k hk;unfold maxLen at z2;have aP:Hid (∀z,AN z b (AM g D.A4.length cap) vs vc (bg D.n).2.2->A3 (One b) w z->z.ownsRow 0 125 2 (AM g k cap) k ((C3 D.A4).take (k*2))/\D3 z (AM g D.A4.length cap) D.A4):=λz g1 g2=>
    ⟨Sl (aB.o.ag g1 g2).A4 (by omega),(aB.o.ag g1 g2).A4⟩
   have aN:∀u∈(C3 D.A4).take (k*2),u.oneCell'=true:=λu hu=>Pf _ u (HQ hu);have aD:=A1 aN;have aS:Hid (∀f,Dg f (D.A4.take k++D.A4.drop (k+1))->D.Au f):=by
    rintro f⟨e,he,rfl⟩;rcases AV.1 he with he|he
    ·exact .inl ⟨e,HQ he,rfl⟩
    ·exact .inl ⟨e,LB he,rfl⟩
   (have aK:(D.A4.take k++D.A4.drop (k+1)).length=k+(D.A4.length-(k+1)):=by simp;omega);have a5:Hid (∀(E O:World) (v2 v3:Value),App E O 125 2 v2 v3 (k+(D.A4.length-(k+1))) ((C3 D.A4).take (k*2)++C3 (D.A4.drop (k+1)))->D3 O v3 (D.A4.take k++D.A4.drop (k+1))):=by
    intro E O v2 v3 h;unfold D3;rw[aK,Lb,<-A1V];exact h.AB
   by_cases aV:cap=k+1
   ·subst aV;(have hz:D.A4.length=k+1:=by omega);have aY:Hid (∀z E:World,D3 z (AM g D.A4.length (k+1)) D.A4->A3 Ab z E->Src Tryz.prog 2 92 (AM g 0 0) 0 [] E):=
     λz E _ _=>Jb E underlying92 _ 0 _ [] rfl (by simp) (by simp)
    have aX:Hid (∀(E O:World) (v2 v3:Value),App E O 125 2 v2 v3 (k+0) ((C3 D.A4).take (k*2)++[])->D3 O v3 (D.A4.take k++D.A4.drop (k+1))):=by
     intro E O v2 v3 h;refine a5.o E O v2 v3 ?_;rw[Ji (by omega),show D.A4.length-(k+1)=0 from by omega];exact h
    clear hz
    go_enter func193,ntmps193
    go_wp2_with (first
     | (go_at_call 77;refine(Dx _ _ _ _ hd.o).mono ?_;rintro e w'⟨rfl,rfl⟩;rw[aW.o])
     | (go_at_call 121;refine(GU _ _ _ _ _ _ aI.o).mono ?_;rintro e z⟨rfl,d,H⟩;have aZ:=d.c0;have aL:=A1 (aP.o z d H))
     | (at_builtin;refine D5 rfl (.const (.slice none 0 0)) (.tmp 28) 92 92 rfl 125 i0 _ 2 24 underlying92 hi W aA Y rfl (by decide) (.slice none 0 0) 0 [] (by rfl) (CL _ 0 125 2) (AM g k (k+1)) k ((C3 D.A4).take (k*2)) (by rfl) (Src.bO underlying92 aL.o.1 aD.o) (by omega) ?_;intro a2 aT E L;simp only[GH,Et]at L;have aF:=A1 L.AB;have a4:=(d.Ak L.bE (λh=>h)).c0;have aG:=A1 (aY.o z E aL.o.2 L.bE))
     | (at_builtin;refine D5 rfl (.tmp 31) (.tmp 38) 92 92 rfl 125 i0 _ 2 24 underlying92 hi W aA Y rfl (by decide) _ k ((C3 D.A4).take (k*2)) (by rfl) aF.o _ _ _ (by rfl) aG.o (by omega) ?_;intro a3 aM O hB;have I:=A1 (hB.cr L.bE L.AU);have hm:=A1 (Pn aB.o d H I.o.1))
     | (go_at_call 122;refine(LX _ b _ vs vc _ _ _ _ _ _ hm.o.1 hm.o.2 aO).mono ?_;rintro e w5⟨rfl,a1,k1,k2,k3,k4⟩))
    go_ret;rw[q.o,aE];have e3:=aX.o _ _ _ _ hB;exact⟨rfl,Po aB.o aU.o d H I.o.1 e3 I.o.2 aS.o k1 k2 k3 k4⟩
   ·have aY:Hid (∀z E:World,D3 z (AM g D.A4.length cap) D.A4->A3 Ab z E->Src Tryz.prog 2 92 (.slice (some (Ac g ((k+1)*2))) (D.A4.length-(k+1)) (cap-(k+1))) (D.A4.length-(k+1)) (C3 (D.A4.drop (k+1))) E):=by
     intro z E h1 a0;have h2:=Az h1 λx hx=>a0.Ap x (AI h1 hx) (λh=>h);refine Jb E underlying92 _ _ _ _ (by rw[A1W,Cw]) ?_ (Pf _);intro j u hu;rw[<-A1X,Iy]at hu;(have aR:((Ac g ((k+1)*2)):Addr).add j=(Ac g ((k+1)*2+j)):=by unfold Addr.add;split<;>simp_all);rw[aR];exact BF h2 rfl hu
    go_enter func193,ntmps193
    go_wp2_with (first
     | (go_at_call 77;refine(Dx _ _ _ _ hd.o).mono ?_;rintro e w'⟨rfl,rfl⟩;rw[aW.o])
     | (go_at_call 121;refine(GU _ _ _ _ _ _ aI.o).mono ?_;rintro e z⟨rfl,d,H⟩;have aZ:=d.c0;have aL:=A1 (aP.o z d H))
     | (at_builtin;refine D5 rfl (.const (.slice none 0 0)) (.tmp 28) 92 92 rfl 125 i0 _ 2 24 underlying92 hi W aA Y rfl (by decide) (.slice none 0 0) 0 [] (by rfl) (CL _ 0 125 2) (AM g k cap) k ((C3 D.A4).take (k*2)) (by rfl) (Src.bO underlying92 aL.o.1 aD.o) (by omega) ?_;intro a2 aT E L;simp only[GH,Et]at L;have aF:=A1 L.AB;have a4:=(d.Ak L.bE (λh=>h)).c0;have aG:=A1 (aY.o z E aL.o.2 L.bE))
     | (at_builtin;refine D5 rfl (.tmp 31) (.tmp 38) 92 92 rfl 125 i0 _ 2 24 underlying92 hi W aA Y rfl (by decide) _ k ((C3 D.A4).take (k*2)) (by rfl) aF.o _ _ _ (by rfl) aG.o (by omega) ?_;intro a3 aM O hB;have I:=A1 (hB.cr L.bE L.AU);have hm:=A1 (Pn aB.o d H I.o.1))
     | (go_at_call 122;refine(LX _ b _ vs vc _ _ _ _ _ _ hm.o.1 hm.o.2 aO).mono ?_;rintro e w5⟨rfl,a1,k1,k2,k3,k4⟩))
    go_ret;rw[q.o,aE];have e3:=a5.o _ _ _ _ hB;exact⟨rfl,Po aB.o aU.o d H I.o.1 e3 I.o.2 aS.o k1 k2 k3 k4⟩
  ·(have aQ:(bg D.n).1=false:=by simpa using aE)
   go_enter func193,ntmps193
   go_wp2_with (first|(go_at_call 77;refine(Dx _ _ _ _ hd.o).mono ?_;rintro e w'⟨rfl,rfl⟩;rw[aW.o])|(go_at_call 121;refine(GU _ _ _ _ _ _ aI.o).mono ?_;rintro e z⟨rfl,d,H⟩));go_ret;rw[q.o,aQ];exact⟨rfl,aB.o.bP aJ d H⟩
def Dm(es:List AO)(i:Nat)(name:ByteArray):Nat->List AO
 | 0=>[]
 | k+1=>Dm es i name k++(match es[k]? with
  | some e=>if k≠i/\e.1≠name then [e] else []
  | none=>[])
def Ma(es:List AO)(i:Nat)(name:ByteArray)(k:Nat):∀e∈Dm es i name k,e∈es:=by
 induction k with
 | zero=>intro e h;cases h
 | succ k ih=>
  intro e h;simp only[Dm]at h;rcases AV.1 h with h|h
  ·exact ih e h
  ·split at h
   ·rename_i x d;split at h
    ·simp at h;subst h;exact LC d
    ·cases h
   ·cases h
def Oa(es:List AO)(i:Nat)(name:ByteArray)(k:Nat):(Dm es i name k).length<=k:=by
 induction k with
 | zero=>simp[Dm]
 | succ k ih=>
  simp only[Dm,B1];split
  ·split<;>simp<;>omega
  ·simp;omega
def RH(es:List AO)(i:Nat)(name:ByteArray)(k:Nat)(d:k<es.length)(h:k≠i/\(es[k]'d).1≠name):Dm es i name (k+1)=Dm es i name k++[es[k]'d]:=by
 simp only[Dm,E5 d];rw[Ai h]
def Ob(es:List AO)(i:Nat)(name:ByteArray)(k:Nat)(d:k<es.length)(h:¬(k≠i/\(es[k]'d).1≠name)):Dm es i name (k+1)=Dm es i name k:=by
 simp only[Dm,E5 d];rw[Ae h,FA]
def CV(D:DS)(old name:ByteArray):Int×DS:=match lookup D.A4 old with
 | none=>(8,D)
 | some f=>if name=ByteArray.empty then (8,D) else
  let es:=Dm D.A4 (B4 D.A4 old).toNat name D.A4.length++[(name,f)]
  ((bg D.n).2.1,if (bg D.n).1 then {D with A4:=es,Av:=D.Av++[es],n:=(bg D.n).2.2} else {D with n:=(bg D.n).2.2})
def Yd(w:World)(b:Nat)(D:DS)(F:Nat->FC)(Ft:Nat->Prop)(h:Db w b D F Ft)(old name:ByteArray)(hs:D.A4.length<1099511627776/\D.Av.length<1099511627776):
 Af 242 #[A5 b,.string old,.string name] w λe w'=>e=.returned (A0 (CV D old name).1)/\Dr w Ft w' b (CV D old name).2 F:=by
 obtain⟨vd,vs,vc,vals,VB,hr,aD⟩:=h;obtain⟨hs1,aV⟩:=hs;have aH:=A1 hr;have aY:=A1 aD;have c0:=hr.Ag.c0;have hd:=A1 hr.A4;have aS:=A1 hr.Ag;rcases IW D.A4 old with⟨h1,h2⟩|⟨k,H,h1,h2,h3⟩
 ·have q:Hid (CV D old name=(8,D)):=by unfold Hid CV;rw[h2]
  have hfi:B4 D.A4 old<0:=by omega
  go_enter func242,ntmps242
  go_wp2_with (go_at_call 77;refine(Dx _ _ _ _ hd.o).mono ?_;rintro e w'⟨rfl,rfl⟩);go_ret;rw[q.o];exact⟨rfl,Dr.bx (A3.I _ _) aH.o λk H=>.inl (aD k H)⟩
 ·have aU:=A1 h1;by_cases hn:name.toList.isEmpty=true
  ·(have q:Hid (CV D old name=(8,D)):=by unfold Hid CV;rw[h2];exact Ai ((isEmpty_iff _).1 hn))
   go_enter func242,ntmps242
   go_wp2_with (go_at_call 77;refine(Dx _ _ _ _ hd.o).mono ?_;rintro e w'⟨rfl,rfl⟩;rw[aU.o]);go_ret;rw[q.o];exact⟨rfl,Dr.bx (A3.I _ _) aH.o λk H=>.inl (aD k H)⟩
  ·(have hn':name.toList.isEmpty=false:=by simpa using hn);have q:Hid (CV D old name=((bg D.n).2.1,if (bg D.n).1 then {D with A4:=Dm D.A4 k name D.A4.length++[(name,(D.A4[k]'H).2)],Av:=D.Av++[Dm D.A4 k name D.A4.length++[(name,(D.A4[k]'H).2)]],n:=(bg D.n).2.2} else {D with n:=(bg D.n).2.2})):=by
    unfold Hid CV;rw[h2];dsimp only;rw[Ae (λe=>hn ((isEmpty_iff _).2 e)),h1];rfl
   by_cases aJ:(bg D.n).1=true
   ·obtain⟨i0,hi,aL,aQ,aP⟩:=E9 Tryz.cS;obtain⟨a,cap,rfl,z1,z2,aG⟩:=aH.o.A4.Cg;obtain⟨g,rfl,_,_⟩:=aG k H;unfold maxLen at z2
    have cells:Hid (∀Y wr,AN Y b (.slice (some (Ac g 0)) D.A4.length cap) vs vc (bg D.n).2.2->A3 (One b) w Y->A3 Ab Y wr->A7 wr b 0 (.slice (some (Ac g 0)) D.A4.length cap)/\
     ∀j (hj:j<D.A4.length),A7 wr g (j*2) (.string (D.A4[j]'hj).1)/\A7 wr g (j*2+1) (A5 ((D.A4[j]'hj).2))):=by
     intro Y wr g1 g2 g3;have r1:=aH.o.ag g1 g2;have r3:=r1.aP λx hx=>g3.Ap x (r1.lt hx) (λh=>h);exact⟨r3.Ag.c0,λj hj=>⟨BF r3.A4 rfl (Pg _ j hj),BF r3.A4 rfl (Pe _ j hj)⟩⟩
    go_enter func242,ntmps242
    go_wp2_with (first
     | (go_at_call 77;refine(Dx _ _ _ _ hd.o).mono ?_;rintro e w'⟨rfl,rfl⟩;rw[aU.o])
     | (go_at_call 121;refine(GU _ _ _ _ _ _ aS.o).mono ?_;rintro e Y⟨rfl,E,L⟩;have c01:=E.c0))
    go_loopw [10,35] (λv i wr=>∃j:Nat,j<=D.A4.length/\i=A0 j/\A3 Ab Y wr/\D3 wr v (Dm D.A4 k name j)/\Hid (∀x,v.ownBlock=some x->Y.heap.size<=x)) (λ_ i _=>D.A4.length-(intOf i).toNat)
    case atStart=>exact⟨0,Cq _,rfl,A3.I _ _,CL _ _ _ _,λx hx=>by simp[Value.ownBlock]at hx⟩
    case round=>
     obtain⟨j,hj,rfl,I,aW,aA⟩:=hrel;have aB:=A1 aW;obtain⟨cb,ce⟩:=cells.o Y wr E L I;by_cases d:j<D.A4.length
     ·obtain⟨cn,cp⟩:=ce j d;by_cases W:j=k
      ·(have aK:((j:Int)!=(k:Int))=false:=by simp[W]);have q2:=A1 (Ob D.A4 k name j d (λh=>h.1 W));have aR:=A1 W;go_wp2;go_roundw
       case rel=>exact⟨j+1,by omega,by go_num,I,by rw[q2.o];exact aB.o,aA⟩
       case measure=>simp[intOf];omega
      ·(have aK:((j:Int)!=(k:Int))=true:=by rw[bne_iff_ne];omega);have aR:=A1 W;by_cases O:(D.A4[j]'d).1=name
       ·have aN:=(PF _ _).2 O;have q2:=A1 (Ob D.A4 k name j d (λh=>h.2 O));go_wp2;go_roundw
        case rel=>exact⟨j+1,by omega,by go_num,I,by rw[q2.o];exact aB.o,aA⟩
        case measure=>simp[intOf];omega
       ·have aN:=(UH _ _).2 O;have q2:=A1 (RH D.A4 k name j d ⟨aR.o,O⟩);have aI:=A1 (aB.o.alloc (.cells #[.string (D.A4[j]'d).1,A5 ((D.A4[j]'d).2)] 125));have aF:=A1 (Src.bb (size:=2) underlying92 wr #[.string (D.A4[j]'d).1,A5 ((D.A4[j]'d).2)] 125 wr.heap.size rfl 1 1 rfl (by simp[Value.oneCell']));have aX:=Oa D.A4 k name j;go_wp2_with (at_builtin;refine D5 rfl (.tmp 53) (.tmp 61) 92 92 rfl 125 i0 _ 2 24 underlying92 hi aL aQ aP rfl (by decide) _ _ _ (by rfl) aI.o _ 1 _ (by rfl) aF.o (by omega) ?_;intro a3 aE w3 hB;have z:=A1 (hB.cr (I.ai _) aA.o));go_roundw
        case rel=>
         refine⟨j+1,by omega,by go_num,z.o.1,?_,z.o.2⟩;rw[q2.o];have:=hB.AB;unfold D3;rw[Lb,B1];exact this
        case measure=>simp[intOf];omega
     ·obtain⟨cn,cp⟩:=ce k H;(have aT:j=D.A4.length:=by omega);have aO:=aB.o;rw[aT]at aO;have aI:=A1 (aO.alloc (.cells #[.string name,A5 ((D.A4[k]'H).2)] 125));have aF:=A1 (Src.bb (size:=2) underlying92 wr #[.string name,A5 ((D.A4[k]'H).2)] 125 wr.heap.size rfl 1 1 rfl (by simp[Value.oneCell']));have aX:=Oa D.A4 k name D.A4.length
      go_wp2_with (first
       | (at_builtin;refine D5 rfl (.tmp 65) (.tmp 76) 92 92 rfl 125 i0 _ 2 24 underlying92 hi aL aQ aP rfl (by decide) _ _ _ (by rfl) aI.o _ 1 _ (by rfl) aF.o (by omega) ?_;intro a3 aE w3 hB;have z:=A1 (hB.cr (I.ai _) aA.o);have hm:=A1 (Pn aH.o E L z.o.1))
       | (go_at_call 122;refine(LX _ b _ vs vc _ _ _ _ _ _ hm.o.1 hm.o.2 aV).mono ?_;rintro e w5⟨rfl,vc',k1,k2,k3,k4⟩))
      go_ret;rw[q.o,aJ];have e3:D3 w3 (.slice a3 ((Dm D.A4 k name D.A4.length).length+1) aE) (Dm D.A4 k name D.A4.length++[(name,(D.A4[k]'H).2)]):=by
       have:=hB.AB;unfold D3;rw[Lb,B1];exact this
      refine⟨rfl,Po aH.o aY.o E L z.o.1 e3 z.o.2 ?_ k1 k2 k3 k4⟩;rintro f⟨e,he,rfl⟩;rcases AV.1 he with he|he
      ·exact .inl ⟨e,Ma _ _ _ _ e he,rfl⟩
      ·simp at he;subst he;exact .inl ⟨_,BY H,rfl⟩
   ·(have aM:(bg D.n).1=false:=by simpa using aJ)
    go_enter func242,ntmps242
    go_wp2_with (first|(go_at_call 77;refine(Dx _ _ _ _ hd.o).mono ?_;rintro e w'⟨rfl,rfl⟩;rw[aU.o])|(go_at_call 121;refine(GU _ _ _ _ _ _ aS.o).mono ?_;rintro e Y⟨rfl,E,L⟩));go_ret;rw[q.o,aM];exact⟨rfl,aH.o.bP aD E L⟩
def less(a b:ByteArray):Bool:=Op.bytesLess a.toList b.toList
def FG(l:List ByteArray):List Value:=l.map Value.string
def Ex(l:List ByteArray)(x:ByteArray):Nat->Nat
 | 0=>0
 | k+1=>match l[k]? with
  | some y=>if less x y then Ex l x k else k+1
  | none=>k+1
def ins(l:List ByteArray)(x:ByteArray):List ByteArray:=l.take (Ex l x l.length)++x::l.drop (Ex l x l.length)
def EJ(es:List AO):Nat->List ByteArray
 | 0=>[]
 | k+1=>match es[k]? with
  | some e=>ins (EJ es k) e.1
  | none=>EJ es k
def dList(es:List AO):List ByteArray:=EJ es es.length
def TP(l:List ByteArray)(x:ByteArray)(k:Nat):Ex l x k<=k:=by
 induction k with
 | zero=>simp[Ex]
 | succ k ih=>
  simp only[Ex];split
  ·split<;>omega
  ·omega
def A1k(l:List ByteArray)(x:ByteArray):(ins l x).length=l.length+1:=by
 have:=TP l x l.length;simp[ins];omega
def MI(es:List AO)(k:Nat)(hk:k<=es.length):(EJ es k).length=k:=by
 induction k with
 | zero=>rfl
 | succ k ih=>
  simp only[EJ,E5 (show k<es.length by omega)];rw[A1k,ih (by omega)]
def MH(es:List AO)(k:Nat)(d:k<es.length):EJ es (k+1)=ins (EJ es k) (es[k]'d).1:=by
 simp only[EJ,E5 d]
def TO(l:List ByteArray)(x:ByteArray)(k:Nat)(d:k<l.length)(h:less x (l[k]'d)=true):Ex l x (k+1)=Ex l x k:=by
 simp only[Ex,E5 d];rw[Ai h]
def TN(l:List ByteArray)(x:ByteArray)(k:Nat)(d:k<l.length)(h:less x (l[k]'d)=false):Ex l x (k+1)=k+1:=by
 simp only[Ex,E5 d];rw[Ae (by simp[h])]
def X6(l:List ByteArray)(x:ByteArray)(m:Nat)(h:m<l.length):
 ((FG (l.take (m+1)++x::l.drop (m+1))).set (m+1) (.string (l[m]'h))).set m (.string x)=FG (l.take m++x::l.drop m):=by
 have z:=DB h;have H:=Fy h;have E:(l.take m).length=m:=by simp;omega
 rw[z,H];unfold FG;simp only[Eg,He,Cc,Fz,Et];have d:(List.map Value.string (l.take m)).length=m:=by simpa using E
 rw[Kd _ _ (by omega),d,show m+1-m=1 from by omega];simp only[Vs,List.set_cons_zero];rw[Kd _ _ (by omega),d,Vm];rfl
def ON(w:World)(b:Nat)(D:DS)(F:Nat->FC)(Ft:Nat->Prop)(h:Db w b D F Ft)(hs:D.A4.length<1099511627776):
 Af 76 #[A5 b] w λe w'=>∃v,e=.returned v/\w'.ownsRow 0 9 1 v D.A4.length (FG (dList D.A4))/\A3 Ab w w'/\(∀g,v.ownBlock=some g->w.heap.size<=g):=by
 obtain⟨vd,vs,vc,vals,VB,hr,hft⟩:=h;have bC:=A1 hr;have c0:=hr.Ag.c0;obtain⟨i0,hi,aL,aS,aP⟩:=E9 Tryz.eZ;obtain⟨a,cap,rfl,z1,z2,aB⟩:=bC.o.A4.Cg;unfold maxLen at z2;have a2:i0.bytes*D.A4.length<=281474976710656:=by rw[aP];omega
 have a5:D.A4.length<=maxLen:=by unfold maxLen;omega
 have a4:=A1 a2;have a7:=A1 a5
 go_enter func76,ntmps76
 go_wp2_with (at_make;refine wpList_make_own _ rfl _ _ 121 rfl 0 9 i0 _ 1 underlying121 hi aL aS _ _ _ D.A4.length rfl rfl rfl a4.o a7.o (Cq _) ?_;intro w1 aD aO;have c01:=aO.cell c0 (by simp);have aT:=A1 aD);go_loopw [3,18] (λv i wr=>∃k:Nat,k<=D.A4.length/\i=A0 k/\A3 Ab w wr/\Hid (wr.ownsRow 0 9 1 v k (FG (EJ D.A4 k)))/\Hid (∀x,v.oB x->w.heap.size<=x)) (λ_ i _=>D.A4.length-(intOf i).toNat)
 case atStart=>exact⟨0,Cq _,rfl,(A3.I _ w).CC aO (λk hk=>by cases hk),aT.o,λx hx=>by cases hx;exact As _⟩
 case round=>
  obtain⟨k,hk,rfl,L,aN,aR⟩:=hrel;by_cases d:k<D.A4.length
  ·obtain⟨g,rfl,hn,hp⟩:=aB k d;have aK:g<w.heap.size:=GV w _ hn;have a1:A7 wr g (k*2) (.string (D.A4[k]'d).1):=(DT (L.Ap g aK (λh=>h))).trans hn;have hp':A7 wr g (k*2+1) (A5 ((D.A4[k]'d).2)):=(DT (L.Ap g aK (λh=>h))).trans hp;have hsz:=L.Ao;have W:=A1 ((aN.o.alloc (.cells #[.string (D.A4[k]'d).1,A5 ((D.A4[k]'d).2)] 125)).alloc (.cells #[.string (D.A4[k]'d).1] 9));have aM:=A1 (Src.bb (size:=1) underlying121 (wr.alloc (.cells #[.string (D.A4[k]'d).1,A5 ((D.A4[k]'d).2)] 125)) #[.string (D.A4[k]'d).1] 9 (wr.heap.size+1) (by simp) 1 1 rfl (by simp[Value.oneCell']));generalize hx:(D.A4[k]'d).1=x at a1 W aM;have bB:=A1 hx;go_wp2_with (at_builtin;refine D5 rfl (.tmp 22) (.tmp 25) 121 121 rfl 9 i0 _ 1 16 underlying121 hi aL aS aP rfl (by decide) _ _ _ (by rfl) W.o _ 1 _ (by rfl) aM.o (by omega) ?_;intro a3 z w3 hB);have hl:=A1 (MI D.A4 k hk);obtain⟨l,aA⟩:∃l,EJ D.A4 k=l:=⟨_,rfl⟩;have bA:=A1 aA;(have a8:l.length=k:=by rw[<-aA];exact hl.o);have aF:w3.ownsRow 0 9 1 (.slice a3 (k+1) z) (k+1) (FG (l.take k++x::l.drop k)):=by
    have:=hB.AB;rw[aA]at this;rw[Er (by omega),Ji (by omega)];simpa[FG] using this
   have aW:=A1 aF;have aU:=A1 (hB.cr ((L.ai _).ai _) aR.o);(have hmax:z<=maxLen:=by obtain⟨_,_,he,h1,h2,_⟩:=B9 aF;cases he;exact h2);obtain⟨H,a0⟩:∃H,a3=some (Ac H 0):=by
    obtain⟨_,_,he,h1,h2,h3,_⟩:=B9 aF;cases he;exact h3 (by omega)
   have aI:=A1 a8;subst a0;have a6:=A1 aU.o.1;have O:=A1 (aU.o.2);have fin:Hid (∀(wq:World) (j:Nat),j<=k->Ex l x k=j->wq.ownsRow 0 9 1 (AM H (k+1) z) (k+1) (FG (l.take j++x::l.drop j))->wq.ownsRow 0 9 1 (AM H (k+1) z) (k+1) (FG (EJ D.A4 (k+1)))):=by
    intro wq j hj hp h;rw[MH D.A4 k d,bA.o,bB.o,ins,aI.o,hp];exact h
   go_loopw [6] (λi wq=>∃j:Nat,j<=k/\i=A0 j/\Hid (A3 Ab w wq)/\Hid (wq.ownsRow 0 9 1 (AM H (k+1) z) (k+1) (FG (l.take j++x::l.drop j)))/\Hid (Ex l x k=Ex l x j)) (λi _=>(intOf i).toNat)
   case atStart=>exact⟨k,As _,rfl,a6,aW,rfl⟩
   case round=>
    obtain⟨j,hj,rfl,aE,E,aH⟩:=hrel;by_cases aY:j=0
    ·subst aY;rw[show ((0:Nat):Int)=0 from rfl];go_wp2;go_quiet (fail);go_wp2;go_roundw
     case rel=>
      refine⟨k+1,by omega,by go_num,aE.o.ba _,?_,O.o⟩;exact fin.o _ 0 (by omega) (by rw[aH.o];rfl) E.o
     case measure=>simp[intOf];omega
    ·(have hj1:(0:Int)<(j:Int):=by omega);(have hj2:0<j:=by omega);(have I:j-1<l.length:=by have:=aI.o;omega);(have aX:j<=l.length:=by have:=aI.o;omega);obtain⟨y,hy⟩:∃y,l[j-1]'I=y:=⟨_,rfl⟩
     have g1:A7 wr H (j-1) (.string y):=BF E.o rfl (by
      unfold FG;rw[Eg,Iz (by simp;omega)]
      simp[List.getElem?_take,I,hy];omega)
     have g2:A7 wr H j (.string x):=BF E.o rfl (by
      unfold FG;rw[Eg,Hx (by simp;omega)]
      simp[Nat.min_eq_left aX])
     have gz:∀o,wr.frozen? (Ac H o)=false:=λo=>Gc E.o rfl o;by_cases aG:less x y=true
     ·have aQ:Op.bytesLess x.toList y.toList=true:=aG;have aJ:=A1 aG;have aV:=A1 hy;go_wp2;go_quiet (fail);go_wp2;go_region;go_wp2;go_roundw
      case rel=>
       refine⟨j-1,by omega,by go_num,?_,?_,?_⟩
       ·have h1:=((aE.o.bq (p:=(Ac H j)) (λh=>by have:=O.o H rfl;simp at h;omega) (.string y)).bq (p:=(Ac H (j-1))) (λh=>by have:=O.o H rfl;simp at h;omega) (.string x));exact⟨h1.os,h1.Fg,h1.Fk,h1.Ao,h1.Ap⟩
       ·have s1:=(E.o.stored j (.string y)).1;have s2:=(s1.stored (j-1) (.string x)).1;have e:=X6 l x (j-1) I;rw[show j-1+1=j from by omega,aV.o]at e;rw[e]at s2;exact s2
       ·have:=TO l x (j-1) I (by rw[aV.o];exact aJ.o);rw[show j-1+1=j from by omega]at this;unfold Hid;rw[aH.o];exact this
      case measure=>simp[intOf];omega
     ·(have Y:less x y=false:=by simpa using aG);have aQ:Op.bytesLess x.toList y.toList=false:=Y;have aJ:=A1 Y;have aV:=A1 hy;go_wp2;go_quiet (fail);go_wp2;go_roundw
      case rel=>
       refine⟨k+1,by omega,by go_num,aE.o.ba _,?_,O.o⟩;refine fin.o _ j hj ?_ E.o;have:=TN l x (j-1) I (by rw[aV.o];exact aJ.o);rw[show j-1+1=j from by omega]at this;rw[aH.o];exact this
      case measure=>simp[intOf];omega
  ·(have a9:k=D.A4.length:=by omega);have aZ:=A1 a9;go_wp2;go_ret;refine⟨_,rfl,?_,L,aR.o⟩;have:=aN.o;rw[aZ.o]at this;exact this
def Fj(c:Int)(n:Nat):Nat:=((if c<0 then -(c+1) else c) % ((n:Int)+1)).toNat
def JF(c:Int)(n:Nat):Fj c n<=n:=by
 unfold Fj;have h1:=LO (if c<0 then -(c+1) else c) (b:=(n:Int)+1) (by omega);have h2:=Qb (if c<0 then -(c+1) else c) (b:=(n:Int)+1) (by omega);omega
def Sg(c:Int)(n:Int)(w:World)(d : -9223372036854775808<=c/\c<=9223372036854775807)(z:0<=n/\n<=4611686018427387904):
 Af 75 #[A0 c,A0 n] w (Aj (A0 (Fj c n.toNat)) λw'=>w=w'):=by
 obtain⟨h1,h2⟩:=d;obtain⟨h,h4⟩:=z;by_cases d:c<0
 ·have q:Hid ((Fj c n.toNat:Int) = -((c+1).tmod (n+1))):=by
   unfold Hid Fj;rw[Ai d,Q8 h,Q8 (LO _ (by omega)),<-A4z (by omega),Qa]
  go_enter func75,ntmps75
  go_wp2;go_ret;rw[q.o];exact⟨rfl,rfl⟩
 ·have q:Hid ((Fj c n.toNat:Int)=c % (n+1)):=by
   unfold Hid Fj;rw[Ae d,Q8 h,Q8 (LO _ (by omega))]
  go_enter func75,ntmps75
  go_wp2;go_ret;rw[q.o];exact⟨rfl,rfl⟩
def Km(w:World)(v:Value)(h:List Int):Prop:=
 ∃E cap,v=.slice E h.length cap/\h.length<=9223372036854775807/\∀j (H:j<h.length),∃z d,E=some ⟨z,d,none⟩/\z<w.heap.size/\w.cell? ⟨z,d+j,none⟩=some (.int .i64 (h[j]'H))
def Fq(c:FC)(t:Int):FC:=
 let m:=c.2.toNat+Fj t (c.1.length-c.2.toNat)
 (c.1.take m,(c.1.take m).length)
def DP(dir:List AO)(d:List Int)(names:List ByteArray)(F:Nat->FC):Nat->(Nat->FC)
 | 0=>F
 | k+1=>let G:=DP dir d names F k
  match names[k]? with
  | none=>G
  | some name=>match lookup dir name with
   | some f=>upd G f (Fq (G f) (d.getD k 0))
   | none=>G
def G3(D:DS)(d:Int):List AO:=match Fj d D.Av.length with
 | 0=>D.AP
 | k+1=>D.Av.getD k []
def Fp(D:DS)(F:Nat->FC)(h:Int)(d:List Int):DS×(Nat->FC):=
 let dir:=G3 D h
 ({A4:=dir,AP:=dir,Av:=[],n:={D.n with AF:=false,BX:=0,BV:=0}},DP dir d (dList dir) F dir.length)
def A1j(l:List ByteArray)(x y:ByteArray):y∈ins l x↔y=x\/y∈l:=by
 unfold ins;constructor
 ·intro h;rcases AV.1 h with h|h
  ·exact .inr (HQ h)
  ·rcases BQ.1 h with h|h
   ·exact .inl h
   ·exact .inr (LB h)
 ·rintro (rfl|h)
  ·simp
  ·rw[<-DM (Ex l x l.length) l]at h;rcases AV.1 h with h|h
   ·exact AV.2 (.inl h)
   ·exact AV.2 (.inr (Bw _ h))
def A2c(es:List AO)(k:Nat)(z:k<=es.length)(y:ByteArray):y∈EJ es k↔∃e∈es.take k,e.1=y:=by
 induction k with
 | zero=>simp[EJ]
 | succ k ih=>
  have h:=DB (l:=es) (i:=k) z;rw[MH es k z,A1j,ih (by omega)];constructor
  ·rintro (rfl|⟨e,d,rfl⟩)
   ·exact⟨es[k],by rw[h];exact AV.2 (.inr (Iv.2 rfl)),rfl⟩
   ·exact⟨e,by rw[h];exact AV.2 (.inl d),rfl⟩
  ·rintro⟨e,d,rfl⟩;rw[h]at d;rcases AV.1 d with d|d
   ·exact .inr ⟨e,d,rfl⟩
   ·simp at d;subst d;exact .inl rfl
def A2a(es:List AO)(y:ByteArray):y∈dList es↔∃e∈es,e.1=y:=by
 have:=A2c es es.length (As _) y
 rwa [Cl]at this
def C4.ek{w w':World}{b:Nat}{D:DS}{F:Nat->FC}{vd Y vc vl:Value}{z:List Value}{aB:Nat->Value}{es:List AO}(h:C4 w b D F vd Y vc z aB)(hl:(vl=Y/\es=D.AP)\/∃k,∃E:k<D.Av.length,z[k]?=some vl/\es=D.Av[k]'E)(hb:AN w' b vl Y vc D.n)(hc:A3 (One b) w w'):
 C4 w' b {D with A4:=es} F vl Y vc z aB/\∀k,C9 b {D with A4:=es} vl Y vc z aB k->C9 b D vd Y vc z aB k:=by
 have E:∀(k:Nat) (c:Array Value) (e:Nat),w.heap[k]?=some (Obj.cells c e (0,0))->e≠95->w'.heap[k]?=w.heap[k]?:=λk c e E he=>
  hc.Ap k (Bz E) (BT E h.Ag he)
 have aA:D3 w vl es:=by
  rcases hl with⟨rfl,rfl⟩|⟨k,E,W,rfl⟩
  ·exact h.AP
  ·obtain⟨v,O,h3⟩:=h.Da k E;rw[W]at O;cases O;exact h3
 have aE:∀f,Dg f es->D.Au f:=by
  intro f H;rcases hl with⟨_,rfl⟩|⟨k,E,_,rfl⟩
  ·exact .inr (.inl H)
  ·exact .inr (.inr ⟨_,BY E,H⟩)
 have d:∀f,({D with A4:=es}:DS).Au f->D.Au f:=by
  rintro f (H|H|H)
  ·exact aE f H
  ·exact .inr (.inl H)
  ·exact .inr (.inr H)
 refine⟨⟨hb,?_,?_,?_,?_,?_,λf f' g H aD=>h.Gi f f' g (d f H) (d f' aD)⟩,?_⟩
 ·exact Az aA λg I=>by obtain⟨c,L⟩:=Be aA I;exact E g _ _ L (by decide)
 ·exact Az h.AP λg I=>by obtain⟨c,L⟩:=Be h.AP I;exact E g _ _ L (by decide)
 ·exact Az h.Ak λg I=>by obtain⟨c,L⟩:=Be h.Ak I;exact E g _ _ L (by decide)
 ·intro i hi;obtain⟨v,W,O⟩:=h.Da i hi;exact⟨v,W,Az O λg I=>by obtain⟨c,L⟩:=Be O I;exact E g _ _ L (by decide)⟩
 ·intro f H;obtain⟨W,O⟩:=h.BN f (d f H);refine⟨W.ay (E f _ _ W (by decide)),Az O λg I=>by obtain⟨c,L⟩:=Be O I;exact E g _ _ L (by decide)⟩
 ·intro k E;cases E using C9.bL with
  | Ag=>exact .Ag
  | dir e=>
   rcases hl with⟨rfl,_⟩|⟨j,_,W,_⟩
   ·exact .AP e
   ·exact .Da (LC W) e
  | A8 e=>exact .AP e
  | Ak e=>exact .Ak e
  | Da hm e=>exact .Da hm e
  | BN H=>exact .BN (d _ H)
  | byt H e=>exact .bB (d _ H) e
def Db.cq{w w':World}{b:Nat}{D:DS}{F:Nat->FC}{Ft:Nat->Prop}(h:Db w b D F Ft)(d:w'.heap=w.heap):Db w' b D F Ft:=h.aP λk _=>by rw[d]
def A3.cq{S:Nat->Prop}{a w w':World}(h:A3 S a w)(d:w'.heap=w.heap)(H:w'.os=w.os)(E:w'.tape=w.tape)(I:w'.output=w.output):A3 S a w':=
 ⟨H.trans h.os,E.trans h.Fg,I.trans h.Fk,by rw[d];exact h.Ao,λk z L=>by rw[d];exact h.Ap k z L⟩
end
end Go.Proofs.YtodcnkbblippnaaGreatDoor
