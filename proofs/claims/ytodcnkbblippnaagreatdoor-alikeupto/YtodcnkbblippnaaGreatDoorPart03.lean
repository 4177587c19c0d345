/- Part 3 of a proof: walks of the program. -/
import Derived.Deep.RegionLaw
import Derived.BigRegion
import Derived.BigQuiet
import Derived.Deep.QuietTactic
import Derived.Test.YtodcnkbblippnaaGreatDoorPart02
namespace Go.Proofs.YtodcnkbblippnaaGreatDoor
set_option maxRecDepth 100000
set_option maxHeartbeats 32000000
set_option linter.defProp false
open Go.Proofs.Tryz
section
open Go.RowKit
attribute [local go_sem ↓] Go.wp_at_zero Go.wp_at_succ
def XV(w:World)(b:Nat)(D:DS)(F:Nat->FC)(Ft:Nat->Prop)(h:Da w b D F Ft)(name:ByteArray)(p n:Int):
 Ag 82 #[A5 b,.string name,A0 p,A0 n] w (Al (.tuple #[.string ⟨(F4 D F name p n).1.toArray⟩,A0 (F4 D F name p n).2]) λw'=>w=w'):=by
 obtain⟨vd,vs,vc,vals,VB,hr,hft⟩:=h;have c0:=hr.Af.c0;have hd:=A1 hr.A4;obtain⟨a,cap,rfl,hc1,aI,L⟩:=hr.A4.Ce;unfold maxLen at aI;rcases J1 D.A4 name with⟨h1,h2⟩|⟨k,hk,h1,h2,h3⟩
 ·have q:Hid (F4 D F name p n=([],8)):=by unfold Hid F4;rw[h2]
  have hfi:B2 D.A4 name<0:=by omega
  go_enter func82,ntmps82
  go_wp2_with (go_at_call 77;refine(Du _ _ _ _ hd.o).mono ?_;rintro e w'⟨rfl,rfl⟩);go_ret2;rw[q.o];exact⟨rfl,rfl⟩
 ·obtain⟨Y,d⟩:=hr.cp k hk;obtain⟨a',z,hv,aF,aK⟩:=d.Ce;unfold maxLen at aK;rw[hv]at Y d;have aG:=Y.c0;have O:=A1 d;obtain⟨g,rfl,hn,hp⟩:=L k hk;have aD:=A1 h1;have aL:=A1 h2;obtain⟨bs,d⟩:∃bs,(F (D.A4[k]'hk).2).1=bs:=⟨_,rfl⟩;have aM:=A1 d;rw[d]at aG aF O;have hlen:(bs.length:Int)<=9223372036854775807:=by omega
  have q:Hid (F4 D F name p n=if p<0\/n<0\/p>bs.length\/n>bs.length-p then ([],9) else ((bs.drop p.toNat).take n.toNat,0)):=by
   unfold Hid F4;rw[aL.o];dsimp only;rw[aM.o]
  by_cases aE:0<=p/\0<=n/\p<=bs.length/\n<=bs.length-p
  ·obtain⟨o1,o2,o3,o4⟩:=aE;obtain⟨p',rfl⟩:=LG o1;obtain⟨E,rfl⟩:=LG o2;have q2:Hid (F4 D F name p' E=((bs.drop p').take E,0)):=by
    unfold Hid;rw[q.o,Ad (by omega)];simp
   (have o5:p'<=bs.length:=by omega);(have o6:E<=bs.length-p':=by omega);obtain⟨_,_,he,_,_,_,W,H⟩:=B8 O.o;cases he;by_cases aB:z=p'
   ·(have aJ:E=0:=by omega);subst aJ;have cv:∀(x:Option Addr) (c:Nat),(convert 127 9 (.slice x 0 c)).run Tryz.prog w=.ok (.string ⟨#[]⟩) w:=by
     intro x c;cases x with
     | none=>
      rw[run_convert_bytes_string (P:=Tryz.prog) w 127 9 5 none 0 c underlying127 underlying5 underlying9];rfl
     | some ad=>exact NO (P:=Tryz.prog) w 127 9 5 ad c [] underlying127 underlying5 underlying9 (by simp)
    subst aB
    go_enter func82,ntmps82
    go_wp2_with (go_at_call 77;refine(Du _ _ _ _ hd.o).mono ?_;rintro e w'⟨rfl,rfl⟩;rw[aD.o]);go_ret2;rw[q2.o];exact⟨by simp,rfl⟩
   ·obtain⟨I,aH⟩:∃I,a'=some (Aa I 0):=by
     cases ha:a' with
     | none=>have:=(W ha).2;omega
     | some ad=>obtain⟨g',rfl⟩:=H ad ha;exact⟨g',rfl⟩
    subst aH;have cv:(convert 127 9 (.slice (some (Aa I p')) E (z-p'))).run Tryz.prog w=.ok (.string ⟨((bs.drop p').take E).toArray⟩) w:=by
     (have hl:((bs.drop p').take E).length=E:=by simp;omega)
     have:=NO (P:=Tryz.prog) w 127 9 5 (Aa I p') (z-p') ((bs.drop p').take E) underlying127 underlying5 underlying9 (by
      intro j hj;(have aA:p'+j<bs.length:=by simp at hj;omega);(have X:((Aa I p'):Addr).add j=(Aa I (p'+j)):=by unfold Addr.add;split<;>simp_all);rw[X];have:=BC O.o (g:=I) rfl (j:=p'+j) (u:=.int .u8 (bs[p'+j]'aA).toNat) (by simp[E0,List.getElem?_eq_getElem aA])
      simpa using this)
     rw[hl]at this;exact this
    go_enter func82,ntmps82
    go_wp2_with (go_at_call 77;refine(Du _ _ _ _ hd.o).mono ?_;rintro e w'⟨rfl,rfl⟩;rw[aD.o]);go_ret2;rw[q2.o];exact⟨rfl,rfl⟩
  ·have q2:Hid (F4 D F name p n=([],9)):=by
    unfold Hid;rw[q.o,Ah (by omega)]
   go_enter func82,ntmps82
   go_wp2_with (go_at_call 77;refine(Du _ _ _ _ hd.o).mono ?_;rintro e w'⟨rfl,rfl⟩;rw[aD.o])
   all_goals (go_ret2;rw[q2.o];exact⟨rfl,rfl⟩)
def BY.b5{w w':World}{b:Nat}{D:DS}{F:Nat->FC}{vd vs vc:Value}{L:List Value}{Y:Nat->Value}{S:Nat->Prop}(h:BY w b D F vd vs vc L Y){f:Nat}(hf:D.Au f){vb':Value}{bs':List UInt8}{s':Int}(h1:CY w' f vb' s')(h2:FI w' vb' bs')(hc:A3 S w w')(hS:∀k,S k->k=f\/(Y f).ownBlock=some k)(hv:∀g,vb'.ownBlock=some g->(Y f).ownBlock=some g\/w.heap.size<=g):
 BY w' b D (upd F f (bs',s')) vd vs vc L (λx=>if x=f then vb' else Y x):=by
 obtain⟨aB,aA⟩:=h.BM f hf;have H:∀(k:Nat) (c:Array Value) (e:Nat),w.heap[k]?=some (Obj.cells c e (0,0))->e≠129->e≠5->w'.heap[k]?=w.heap[k]?:=λk c e H X aE=>
  hc.Ao k (By H) (λd=>by
   rcases hS k d with d|d
   ·exact BS H aB X d
   ·obtain⟨c',z⟩:=Be aA d
    exact BS H z aE rfl)
 refine⟨?_,?_,?_,?_,?_,?_,?_⟩
 ·have:=h.Af;unfold AK at this ⊢;rw[H b _ _ this (by decide) (by decide)];exact this
 ·exact Ay h.A4 λg E=>by obtain⟨c,z⟩:=Be h.A4 E;exact H g _ _ z (by decide) (by decide)
 ·exact Ay h.AO λg E=>by obtain⟨c,z⟩:=Be h.AO E;exact H g _ _ z (by decide) (by decide)
 ·exact Ay h.Aj λg E=>by obtain⟨c,z⟩:=Be h.Aj E;exact H g _ _ z (by decide) (by decide)
 ·intro i hi;obtain⟨v,h1,h2⟩:=h.D8 i hi;exact⟨v,h1,Ay h2 λg E=>by obtain⟨c,z⟩:=Be h2 E;exact H g _ _ z (by decide) (by decide)⟩
 ·intro f2 I;by_cases X:f2=f
  ·subst X;simp only[upd,Cg];exact⟨h1,h2⟩
  ·obtain⟨g1,g2⟩:=h.BM f2 I;simp only[upd,X,C4];refine⟨g1.aH (hc.Ao f2 (By g1) (λd=>?_)),Ay g2 λg E=>hc.Ao g (AB g2 E) (λd=>?_)⟩
   ·rcases hS _ d with d|d
    ·exact X d
    ·obtain⟨c',z⟩:=Be aA d;exact BS g1 z (by decide) rfl
   ·rcases hS _ d with d|d
    ·obtain⟨c',z⟩:=Be g2 E;exact BS z aB (by decide) d
    ·exact X (h.Gc f2 f g I hf E d)
 ·have key:∀f2 g,D.Au f2->f2≠f->(Y f2).ownBlock=some g->vb'.ownBlock=some g->False:=by
   intro f2 g h3 aD h4 h5;rcases hv g h5 with h6|h6
   ·exact aD (h.Gc f2 f g h3 hf h4 h6)
   ·have:=AB (h.BM f2 h3).2 h4;omega
  intro f1 f2 g k1 k2 W O;by_cases a1:f1=f<;>by_cases a2:f2=f
  ·rw[a1,a2]
  ·simp only[a1,Cg]at W;simp only[a2,C4]at O;exact(key f2 g k2 a2 O W).elim
  ·simp only[a2,Cg]at O;simp only[a1,C4]at W;exact(key f1 g k1 a1 W O).elim
  ·simp only[a1,C4]at W;simp only[a2,C4]at O;exact h.Gc f1 f2 g k1 k2 W O
def C7.b5{b:Nat}{D:DS}{L H E:Value}{d:List Value}{z:Nat->Value}{f:Nat}{vb':Value}{N:Nat}(O:D.Au f)(W:∀g,vb'.ownBlock=some g->(z f).ownBlock=some g\/N<=g){k:Nat}(h:C7 b D L H E d (λx=>if x=f then vb' else z x) k):C7 b D L H E d z k\/N<=k:=by
 cases h using C7.bL with
 | Af=>exact .inl .Af
 | dir e=>exact .inl (.A4 e)
 | Ac e=>exact .inl (.AO e)
 | Aj e=>exact .inl (.Aj e)
 | D8 h e=>exact .inl (.D8 h e)
 | BM h=>exact .inl (.BM h)
 | byt h e=>
  rename_i f2;by_cases I:f2=f
  ·simp only[I,Cg]at e;rcases W k e with h|h
   ·exact .inl (.bB O h)
   ·exact .inr h
  ·simp only[I,C4]at e;exact .inl (.bB h e)
def BY.Cj{w:World}{b:Nat}{D:DS}{F:Nat->FC}{I O vc:Value}{z:List Value}{H:Nat->Value}(h:BY w b D F I O vc z H)(k:Nat)(E:k<D.A4.length):
 ∃g cap a' d,I=.slice (some ⟨g,0,none⟩) D.A4.length cap/\H (D.A4[k]'E).2=.slice a' (F (D.A4[k]'E).2).1.length d/\D.A4.length<=cap/\cap<=maxLen/\(F (D.A4[k]'E).2).1.length<=d/\d<=maxLen:=by
 obtain⟨a,cap,hv,X,L,hc⟩:=h.A4.Ce;obtain⟨g,rfl,_,_⟩:=hc k E;obtain⟨a',d,h3,W,Y⟩:=(h.cp k E).2.Ce;exact⟨g,cap,a',d,hv,h3,X,L,W,Y⟩
structure Q4 (w:World) (b:Nat) (g k f n cap l cap':Nat) (a':Option Addr) (name:ByteArray) (Ac:Int):Prop where
 d:A7 w b 0 (AJ g n cap)
 n:A7 w g (k*2) (.string name)
 p:A7 w g (k*2+1) (A5 f)
 f0:A7 w f 0 (.slice a' l cap')
 f1:A7 w f 1 (A0 Ac)
 fz:∀o,w.frozen? (Aa f o)=false
 gf:¬g=f
 fg:¬f=g
 gb:¬g=b
 bg:¬b=g
 fb:¬f=b
 bf:¬b=f
def BY.dB{w:World}{b:Nat}{D:DS}{F:Nat->FC}{O X vc:Value}{H:List Value}{L:Nat->Value}(h:BY w b D F O X vc H L)(k:Nat)(d:k<D.A4.length){g cap z:Nat}{a':Option Addr}(Y:O=AJ g D.A4.length cap)(W:L (D.A4[k]'d).2=.slice a' (F (D.A4[k]'d).2).1.length z):
 Q4 w b g k (D.A4[k]'d).2 D.A4.length cap (F (D.A4[k]'d).2).1.length z a' (D.A4[k]'d).1 (F (D.A4[k]'d).2).2:=by
 subst Y;obtain⟨E,hb⟩:=h.cp k d;rw[W]at E;obtain⟨c,I⟩:=Be h.A4 (g:=g) rfl
 exact⟨h.Af.c0,BC h.A4 rfl (OU _ k d),BC h.A4 rfl (OS _ k d),E.c0,E.c1,E.fz,λe=>BS I E (by decide) e,λe=>BS I E (by decide) e.symm,
  λe=>BS I h.Af (by decide) e,λe=>BS I h.Af (by decide) e.symm,λe=>BS E h.Af (by decide) e,λe=>BS E h.Af (by decide) e.symm⟩
def CA(D:DS)(F:Nat->FC)(name:ByteArray):Int×DS×(Nat->FC):=match lookup D.A4 name with
 | none=>(8,D,F)
 | some f=>((bg D.n).2.1,{D with n:=(bg D.n).2.2},if (bg D.n).2.1=0 then upd F f ((F f).1,(F f).1.length) else F)
def Wf(w:World)(b:Nat)(D:DS)(F:Nat->FC)(Ft:Nat->Prop)(h:Da w b D F Ft)(name:ByteArray):
 Ag 85 #[A5 b,.string name] w (Al (A0 (CA D F name).1) λw'=>Dq w Ft w' b (CA D F name).2.1 (CA D F name).2.2):=by
 obtain⟨vd,vs,vc,vals,aJ,hr,X⟩:=h;have c0:=hr.Af.c0;have hd:=A1 hr.A4;have aE:=A1 hr.Af;have aH:=A1 hr;rcases J1 D.A4 name with⟨h1,h2⟩|⟨k,z,h1,h2,h3⟩
 ·have q:Hid (CA D F name=(8,D,F)):=by unfold Hid CA;rw[h2]
  have hfi:B2 D.A4 name<0:=by omega
  go_enter func85,ntmps85
  go_wp2_with (go_at_call 77;refine(Du _ _ _ _ hd.o).mono ?_;rintro e w'⟨rfl,rfl⟩);go_ret;rw[q.o];exact⟨rfl,Dq.bx (A3.I _ _) aH.o λk z=>.inl (X k z)⟩
 ·have q:Hid (CA D F name=((bg D.n).2.1,{D with n:=(bg D.n).2.2},if (bg D.n).2.1=0 then upd F (D.A4[k]'z).2 ((F (D.A4[k]'z).2).1,(F (D.A4[k]'z).2).1.length) else F)):=by unfold Hid CA;rw[h2]
  have aK:=A1 h1;by_cases L:(bg D.n).2.1=0
  ·(have aD:((bg D.n).2.1==0)=true:=by simpa using L);have O:=A1 <| L;clear L;have hk0:=C3 k;(have hk1:(k:Int)<(D.A4.length:Int):=by omega);obtain⟨g,cap,a',aA,rfl,hv,z1,z2,z3,z4⟩:=aH.o.Cj k z;have aI:=A1 hv;unfold maxLen at z2 z4;clear hv;obtain⟨f,hf⟩:∃f,(D.A4[k]'z).2=f:=⟨_,rfl⟩;have I:Hid (D.Au f):=.inl ⟨_,BV z,hf⟩
   have fin:Hid (∀Y,AK Y b (AJ g D.A4.length cap) vs vc (bg D.n).2.2->A3 (One b) w Y->Q4 Y b g k f D.A4.length cap (F f).1.length aA a' (D.A4[k]'z).1 (F f).2/\
    Dq w Ft (Y.sC f 1 (A0 (F f).1.length)).drew b {D with n:=(bg D.n).2.2} (upd F f ((F f).1,(F f).1.length))):=by
    intro Y W H;have r1:=aH.o.ag W H;subst hf;refine⟨r1.dB k z rfl aI.o,?_⟩;obtain⟨aG,aF⟩:=r1.cp k z;have r2:=r1.b5 (S:=One (D.A4[k]'z).2) (w':=(Y.sC ((D.A4[k]'z).2) 1 (A0 (F (D.A4[k]'z).2).1.length)).drew) (f:=(D.A4[k]'z).2) I.o (vb':=aJ (D.A4[k]'z).2) (bs':=(F (D.A4[k]'z).2).1) (s':=(F (D.A4[k]'z).2).1.length)
     (aG.s1 _) (by
      refine O8 aF (a:=(Aa ((D.A4[k]'z).2) 1)) ?_ _;intro e;obtain⟨c,hh⟩:=Be aF e
      exact BS hh aG (by decide) rfl) (((A3.I (One _) Y).ao rfl 1 _).af) (λk z=>.inl z) (λg hg=>.inl hg)
    refine Dq.bx ?_ r2 ?_
    ·exact((H.aa (S':=Ft) λk _ z=>by cases z;exact X b .Af).ao (X _ (.BM I.o)) 1 _).af
    ·intro x hx;rcases C7.b5 (N:=w.heap.size) (vb':=aJ (D.A4[k]'z).2) (f:=(D.A4[k]'z).2) I.o (λg hg=>.inl hg) hx.n with h|h
     ·exact .inl (X x h)
     ·exact .inr h
   rw[hf]at q;clear hf aI
   go_enter func85,ntmps85
   go_wp2_with (first
    | (go_at_call 77;refine(Du _ _ _ _ hd.o).mono ?_;rintro e w'⟨rfl,rfl⟩;rw[aK.o])
    | (go_at_call 121;refine(GM _ _ _ _ _ _ aE.o).mono ?_;rintro e Y⟨rfl,W,H⟩))
   obtain⟨E,aB⟩:=fin.o Y W H;have aL:=A1 aB;have x1:=E.d;have x2:=E.p;have x3:=E.f0;have x4:=E.f1;have x5:=E.fz;have x7:=E.fg;clear aB E;go_region_held3 (λw'=>w'.cell? ⟨b,0,none⟩=some (.slice (some ⟨g,0,none⟩) D.A4.length cap)/\w'.cell? ⟨g,k*2+1,none⟩=some (.pointer (some ⟨f,0,none⟩))/\w'.cell? ⟨f,0,none⟩=some (.slice a' (F f).1.length aA)) (refine⟨?_,?_,?_⟩<;>go_simp) (fail);go_wp2;go_ret;rw[q.o,Ah O.o];exact⟨rfl,aL.o⟩
  ·(have aD:((bg D.n).2.1==0)=false:=by simpa using L);have O:=A1 <| L
   go_enter func85,ntmps85
   go_wp2_with (first
    | (go_at_call 77;refine(Du _ _ _ _ hd.o).mono ?_;rintro e w'⟨rfl,rfl⟩;rw[aK.o])
    | (go_at_call 121;refine(GM _ _ _ _ _ _ aE.o).mono ?_;rintro e Y⟨rfl,W,H⟩))
   go_ret;rw[q.o,Ad O.o];exact⟨rfl,aH.o.bP X W H⟩
def BY.af{w:World}{b:Nat}{D:DS}{F:Nat->FC}{I E z:Value}{d:List Value}{H:Nat->Value}(h:BY w b D F I E z d H):BY w.drew b D F I E z d H:=
 ⟨h.Af,h.A4,h.AO,h.Aj,h.D8,h.BM,h.Gc⟩
def Da.af{w:World}{b:Nat}{D:DS}{F:Nat->FC}{Ft:Nat->Prop}(h:Da w b D F Ft):Da w.drew b D F Ft:=by
 obtain⟨O,H,E,d,L,I,z⟩:=h;exact⟨O,H,E,d,L,I.af,z⟩
def A19(s:ByteArray):byteCells s=E0 s.data.toList:=rfl
def Mn(s:ByteArray)(m:Nat):(s.extract 0 m).data.toList=s.data.toList.take m:=by
 simp[ByteArray.data_extract]
def FU(D:DS)(F:Nat->FC):Int:=max (D.n.AH-B4 F D.A4) 0
def BA(D:DS)(F:Nat->FC)(f:Nat)(data:ByteArray)(d:Int)(e:Int):Int×DS×(Nat->FC):=
 if d>FU D F then
  (if e=0 then 6 else e,if e=0 then {D with n:={D.n with Bt:=wrap64 (D.n.Bt+1),fulls:=wrap64 (D.n.fulls+1)}} else D,upd F f ((F f).1++data.data.toList.take (FU D F).toNat,(F f).2))
 else (e,D,upd F f ((F f).1++data.data.toList.take d.toNat,(F f).2))
def Bp(D:DS)(F:Nat->FC)(name data:ByteArray):Int×DS×(Nat->FC):=match lookup D.A4 name with
 | none=>(8,D,F)
 | some f=>
  let r:=bg D.n
  let D1:={D with n:=r.2.2}
  if r.1 then BA D1 F f data data.size r.2.1
  else if r.2.2.AX=false/\0<data.size then BA D1 F f data (r.2.2.BJ % data.size) r.2.1
  else (r.2.1,D1,F)
def A2E{w w2 W X:World}{b:Nat}{D:DS}{F:Nat->FC}{vd vs vc v3:Value}{z:List Value}{L:Nat->Value}{Ft:Nat->Prop}{f:Nat}{n2:DN}{news:List UInt8}(hc:A3 Ft w w2)(h2:BY w2 b D F vd vs vc z L)(d:∀k,C7 b D vd vs vc z L k->Ft k)(Y:D.Au f)(hW:AK W b vd vs vc n2)(H:A3 (One b) w2 W)(hA:App W X 5 1 (L f) v3 ((F f).1.length+news.length) (E0 (F f).1++E0 news)):
 CY X f (L f) (F f).2/\Dq w Ft (X.setCell ⟨f,0,none⟩ v3) b {D with n:=n2} (upd F f ((F f).1++news,(F f).2)):=by
 have rW:=h2.ag hW H;obtain⟨I,aD⟩:=rW.BM f Y
 have E:=I.aH (hA.Cy.block f (By I) (λe=>by
  obtain⟨c,hh⟩:=Be aD e.symm
  exact BS hh I (by decide) rfl))
 refine⟨E,?_⟩;have O:FI X v3 ((F f).1++news):=by
  have:=hA.AA;unfold FI;rw[A18,AY];exact this
 have aA:FI (X.setCell ⟨f,0,none⟩ v3) v3 ((F f).1++news):=by
  refine O8 O (a:=⟨f,0,none⟩) ?_ _;intro e;obtain⟨c,hh⟩:=Be O e;exact BS hh E (by decide) rfl
 have aB:=(hA.Aj (S:=λk=>k=f\/(L f).ownBlock=some k) (λk hk=>.inr hk)).ao (.inl rfl) 0 v3;have hv:∀g,v3.ownBlock=some g->(L f).ownBlock=some g\/W.heap.size<=g:=by
  intro g hg;rcases hA.Cj with h|h
  ·exact .inl (h.symm.trans hg)
  ·rw[hg]at h;cases h;exact .inr (As _)
 have r3:=rW.b5 Y (E.s0 v3) aA aB (λk hk=>hk) hv;have s1:=hc.Ak;have s2:=H.Ak;refine Dq.bx ?_ r3 ?_
 ·refine(hc.Ap H (S':=One b) λx hx _=>by cases hx;exact d b .Af).Ap aB ?_;rintro x (rfl|hx) _
  ·exact d _ (.BM Y)
  ·exact d _ (.bB Y hx)
 ·intro x hx;rcases C7.b5 (N:=w.heap.size) (vb':=v3) (f:=f) Y (λg hg=>(hv g hg).imp id λh=>by omega) hx.n with h|h
  ·exact .inl (d x h)
  ·exact .inr h
def A2G(w:World)(b:Nat)(D:DS)(F:Nat->FC)(Ft:Nat->Prop)(h:Da w b D F Ft)(name data:ByteArray)(hroom : -4611686018427387904<=D.n.AH/\D.n.AH<=9223372036854775807)(hu:B4 F D.A4<=4611686018427387904)(hp:0<=D.n.BJ/\D.n.BJ<=9223372036854775807)(hl:∀f,lookup D.A4 name=some f->(F f).1.length+data.size<=70368744177664):
 Ag 84 #[A5 b,.string name,.string data] w (Al (A0 (Bp D F name data).1) λw'=>Dq w Ft w' b (Bp D F name data).2.1 (Bp D F name data).2.2):=by
 obtain⟨vd,vs,vc,aN,bL,hr,a1⟩:=h;have c0:=hr.Af.c0;have hd:=A1 hr.A4;have aM:=A1 hr.Af;have bU:=A1 hr;rcases J1 D.A4 name with⟨h1,h2⟩|⟨k,hk,h1,h2,h3⟩
 ·have q:Hid (Bp D F name data=(8,D,F)):=by unfold Hid Bp;rw[h2]
  have hfi:B2 D.A4 name<0:=by omega
  go_enter func84,ntmps84
  go_wp2_with (go_at_call 77;refine(Du _ _ _ _ hd.o).mono ?_;rintro e w'⟨rfl,rfl⟩);go_ret;rw[q.o];exact⟨rfl,Dq.bx (A3.I _ _) bU.o λk hk=>.inl (a1 k hk)⟩
 ·obtain⟨g,cap,a',aD,rfl,hv,z1,z2,z3,z4⟩:=hr.Cj k hk;generalize hf:(D.A4[k]'hk).2=f at hv h2 z3;have hl1:=hl f h2;have bN:=A1 hv;unfold maxLen at z2 z4;have a2:Hid (D.Au f):=.inl ⟨_,BV hk,hf⟩;have a5:=A1 h1;have H2:=A1 h2;have bC:=A1 hu;have bA:=A1 a1;obtain⟨i0,hi,aQ,aS,aR⟩:=E7 Tryz.infoByte;have hk0:=C3 k;have hk1:(k:Int)<(D.A4.length:Int):=by omega
  have bB:Hid (∀w1,AK w1 b (AJ g D.A4.length cap) vs vc (bg D.n).2.2->A3 (One b) w w1->
   BY w1 b {D with n:=(bg D.n).2.2} F (AJ g D.A4.length cap) vs vc aN bL/\Da w1 b {D with n:=(bg D.n).2.2} F Ft):=by
   intro w1 z X;have r1:=hr.ag z X;exact⟨r1,_,_,_,_,_,r1,λk hk=>a1 k hk.n⟩
  have A2:Hid (∀w1 O,AK w1 b (AJ g D.A4.length cap) vs vc (bg D.n).2.2->A3 (One b) w w1->A3 Ab w1.drew O->
   BY O b {D with n:=(bg D.n).2.2} F (AJ g D.A4.length cap) vs vc aN bL/\A3 Ft w O/\Q4 O b g k f D.A4.length cap (F f).1.length aD a' (D.A4[k]'hk).1 (F f).2/\AK O b (AJ g D.A4.length cap) vs vc (bg D.n).2.2):=by
   intro w1 O z X aA;have r1:=(hr.ag z X).af;have r2:=r1.aP λx hx=>aA.Ao x (r1.lt hx) (λh=>h);refine⟨r2,?_,?_,r2.Af⟩
   ·exact((X.aa (S':=Ft) λk _ hk=>by cases hk;exact a1 b .Af).af).Ap aA (λx hx=>hx.elim)
   ·subst hf;exact r2.dB k hk rfl bN.o
  have a3:Hid (-4611686018427387904<=(bg D.n).2.2.AH/\(bg D.n).2.2.AH<=9223372036854775807/\0<=(bg D.n).2.2.BJ/\(bg D.n).2.2.BJ<=9223372036854775807):=by
   unfold Hid bg;dsimp only;split
   ·exact⟨hroom.1,hroom.2,hp.1,hp.2⟩
   ·split
    ·exact⟨hroom.1,hroom.2,hp.1,hp.2⟩
    ·split<;>exact⟨hroom.1,hroom.2,hp.1,hp.2⟩
  have q:Hid (Bp D F name data=(let r:=bg D.n
   let D1:={D with n:=r.2.2}
   if r.1 then BA D1 F f data data.size r.2.1
   else if r.2.2.AX=false/\0<data.size then BA D1 F f data (r.2.2.BJ % data.size) r.2.1
   else (r.2.1,D1,F))):=by unfold Hid Bp;rw[h2]
  obtain⟨I,bD⟩:∃I,(bg D.n).2.2=I:=⟨_,rfl⟩;obtain⟨e1,bP⟩:∃e1,(bg D.n).2.1=e1:=⟨_,rfl⟩;obtain⟨d1,bT⟩:∃d1,(bg D.n).1=d1:=⟨_,rfl⟩;have a9:Hid (bg D.n=(d1,e1,I)):=by unfold Hid;rw[<-bD,<-bP,<-bT]
  rw[bD]at bB A2 a3;have a6:Hid (∀(W:World),AK W b (AJ g D.A4.length cap) vs vc D.n->Ag 121 #[A5 b] W (Al (.tuple #[.bool d1,A0 e1]) λw'=>AK w' b (AJ g D.A4.length cap) vs vc I/\A3 (One b) W w')):=by
   intro W hW;have:=GM W b _ _ _ _ hW;rw[a9.o]at this;exact this
  rw[a9.o]at q;obtain⟨r1,r2,r3,r4⟩:=a3.o;have hun:(0:Int)<=B4 F D.A4:=Gp _;have hul:(B4 F D.A4:Int)<=4611686018427387904:=by have:=bC.o;omega
  have hw:IntKind.i64.wrap (I.AH-(B4 F D.A4:Int))=I.AH-(B4 F D.A4:Int):=by simp only[Jr];omega
  obtain⟨L,hL⟩:∃L,(if I.AH-(B4 F D.A4:Int)<0 then 0 else I.AH-(B4 F D.A4:Int))=L:=⟨_,rfl⟩;have bQ:0<=L:=by rw[<-hL];split<;>omega
  have hLm:L<=9223372036854775807:=by rw[<-hL];split<;>omega
  have aP:Hid (FU {D with n:=I} F=L):=by unfold Hid FU;show max (I.AH-(B4 F D.A4:Int)) 0=L;rw[<-hL];split<;>omega
  have bI:Hid (∀(O W:World) (n2:DN),BY O b {D with n:=I} F (AJ g D.A4.length cap) vs vc aN bL->AK W b (AJ g D.A4.length cap) vs vc n2->A3 (One b) O W->W.ownsRow 0 5 1 (.slice a' (F f).1.length aD) (F f).1.length (E0 (F f).1)):=by
   intro O W n2 h2 hW hc;have:=((h2.ag hW hc).BM f a2.o).2;rw[bN.o]at this;exact this
  have bK:Hid (∀(O W w3:World) (n2:DN) (s:ByteArray) (b3:Option Addr) (Y:Nat),BY O b {D with n:=I} F (AJ g D.A4.length cap) vs vc aN bL->A3 Ft w O->AK W b (AJ g D.A4.length cap) vs vc n2->A3 (One b) O W->
   App W w3 5 1 (.slice a' (F f).1.length aD) (.slice b3 ((F f).1.length+s.size) Y) ((F f).1.length+s.size) (E0 (F f).1++byteCells s)->
   CY w3 f (.slice a' (F f).1.length aD) (F f).2/\Dq w Ft (w3.sC f 0 (.slice b3 ((F f).1.length+s.size) Y)) b {D with n:=n2} (upd F f ((F f).1++s.data.toList,(F f).2))):=by
   intro O W w3 n2 s b3 Y h2 hc hW bS hA;have:=A2E (n2:=n2) (f:=f) (v3:=.slice b3 ((F f).1.length+s.size) Y) (news:=s.data.toList) hc h2 (λk hk=>bA.o k hk.n) a2.o hW bS (by rw[bN.o];simpa[A19] using hA);rw[bN.o]at this;exact this
  obtain⟨l,rfl⟩:=LG bQ;have BE:(if e1=0 then True else True):=by split<;>trivial
  cases d1 with
  | true=>
   by_cases a0:(l:Int)<(data.size:Int)
   ·by_cases he:e1=0
    ·(have bG:(e1==0)=true:=by simpa using he);have aL:=A1 he;(have a4:l<=data.size:=by omega);(have aH:(data.extract 0 l).size=l:=by simp;omega)
     go_enter func84,ntmps84
     go_wp2_with (first
      | (go_at_call 77;refine(Du _ _ _ _ hd.o).mono ?_;rintro e w'⟨rfl,rfl⟩;rw[a5.o])
      | (go_at_call 121;refine(a6.o _ aM.o).mono ?_;rintro e w1⟨rfl,z,X⟩))
     obtain⟨bM,aX⟩:=bB.o w1 z X;have aK:=A1 aX;have aT:=z.c3;go_region_held3 (λw'=>w'.cell? ⟨b,3,none⟩=some (A0 I.AH)) (first|exact(AK.Aj (w:=w1.drew) z aA (λh=>h)).c3|go_simp) ((go_at_call 90;refine(Kv _ b _ F Ft aK.o.af bC.o).mono ?_;rintro e O⟨rfl,aA⟩));obtain⟨aU,aW,aB,aO⟩:=A2.o w1 O z X aA;have aF:=A1 aU;have aJ:=A1 aW;have aE:=A1 aO;have x1:=aB.d;have x2:=aB.p;have x3:=aB.f0;have x8:=aB.gb;have x9:=aB.bf;have aY:=aB.fb;have y8:=aO.c8;have y9:=aO.c9;have yz:=aO.fz;go_wp2;have aG:=A1 (bI.o O ((O.sC b 8 (A0 (wrap64 (I.Bt+1)))).sC b 9 (A0 (wrap64 (I.fulls+1)))).drew {I with Bt:=wrap64 (I.Bt+1),fulls:=wrap64 (I.fulls+1)} aF.o ((aE.o.s8 _).s9 _) ((((A3.I (One b) O).ao rfl 8 _).ao rfl 9 _).af));(have aI:((F f).1.length+(data.extract 0 l).size)*1<=140737488355328:=by rw[aH];omega);go_region_law
      ((refine Jy ?_ (.tmp 90) (.tmp 93) 127 9 ?_ 5 i0 _ 1 1 underlying127 hi aQ aS aR rfl MR (.slice a' (F f).1.length aD) (F f).1.length (E0 (F f).1) ?_ aG.o (.string (data.extract 0 l)) (data.extract 0 l).size (byteCells (data.extract 0 l)) ?_ (MO _ underlying9 (data.extract 0 l)) aI ?_;(· rfl);(· rfl);(· rfl);(· rfl);intro b3 Y w3 hA;have E:=A1 (bK.o O ((O.sC b 8 (A0 (wrap64 (I.Bt+1)))).sC b 9 (A0 (wrap64 (I.fulls+1)))).drew w3 {I with Bt:=wrap64 (I.Bt+1),fulls:=wrap64 (I.fulls+1)} (data.extract 0 l) b3 Y aF.o aJ.o ((aE.o.s8 _).s9 _) ((((A3.I (One b) O).ao rfl 8 _).ao rfl 9 _).af) hA);have aV:=E.o.1.fz;have aZ:=E.o.1.c0))
     go_wp2;go_ret;have q1:=q.o;have q2:BA {D with n:=I} F f data (data.size:Int) e1=(6,{D with n:={I with Bt:=wrap64 (I.Bt+1),fulls:=wrap64 (I.fulls+1)}},upd F f ((F f).1++data.data.toList.take l,(F f).2)):=by
      unfold BA;rw[aP.o,Ah a0,Ah aL.o,Ah aL.o,Et]
     have H:=E.o.2;rw[Mn,aH]at H;rw[q1,q2];exact⟨rfl,H⟩
    ·(have bG:(e1==0)=false:=by simpa using he);have aL:=A1 he;(have a4:l<=data.size:=by omega);(have aH:(data.extract 0 l).size=l:=by simp;omega)
     go_enter func84,ntmps84
     go_wp2_with (first
      | (go_at_call 77;refine(Du _ _ _ _ hd.o).mono ?_;rintro e w'⟨rfl,rfl⟩;rw[a5.o])
      | (go_at_call 121;refine(a6.o _ aM.o).mono ?_;rintro e w1⟨rfl,z,X⟩))
     obtain⟨bM,aX⟩:=bB.o w1 z X;have aK:=A1 aX;have aT:=z.c3;go_region_held3 (λw'=>w'.cell? ⟨b,3,none⟩=some (A0 I.AH)) (first|exact(AK.Aj (w:=w1.drew) z aA (λh=>h)).c3|go_simp) ((go_at_call 90;refine(Kv _ b _ F Ft aK.o.af bC.o).mono ?_;rintro e O⟨rfl,aA⟩));obtain⟨aU,aW,aB,aO⟩:=A2.o w1 O z X aA;have aF:=A1 aU;have aJ:=A1 aW;have aE:=A1 aO;have x1:=aB.d;have x2:=aB.p;have x3:=aB.f0;have x8:=aB.gb;have x9:=aB.bf;have aY:=aB.fb;go_wp2;have aG:=A1 (bI.o O O.drew I aF.o aE.o ((A3.I (One b) O).af));(have aI:((F f).1.length+(data.extract 0 l).size)*1<=140737488355328:=by rw[aH];omega);go_region_law
      ((refine Jy ?_ (.tmp 90) (.tmp 93) 127 9 ?_ 5 i0 _ 1 1 underlying127 hi aQ aS aR rfl MR (.slice a' (F f).1.length aD) (F f).1.length (E0 (F f).1) ?_ aG.o (.string (data.extract 0 l)) (data.extract 0 l).size (byteCells (data.extract 0 l)) ?_ (MO _ underlying9 (data.extract 0 l)) aI ?_;(· rfl);(· rfl);(· rfl);(· rfl);intro b3 Y w3 hA;have E:=A1 (bK.o O O.drew w3 I (data.extract 0 l) b3 Y aF.o aJ.o aE.o ((A3.I (One b) O).af) hA);have aV:=E.o.1.fz;have aZ:=E.o.1.c0))
     go_wp2;go_ret;have q1:=q.o;have q2:BA {D with n:=I} F f data (data.size:Int) e1=(e1,{D with n:=I},upd F f ((F f).1++data.data.toList.take l,(F f).2)):=by
      unfold BA;rw[aP.o,Ah a0,Ad aL.o,Ad aL.o,Et]
     have H:=E.o.2;rw[Mn,aH]at H;rw[q1,q2];exact⟨rfl,H⟩
   ·(have bF:(data.size:Int)<=l:=by omega)
    go_enter func84,ntmps84
    go_wp2_with (first
     | (go_at_call 77;refine(Du _ _ _ _ hd.o).mono ?_;rintro e w'⟨rfl,rfl⟩;rw[a5.o])
     | (go_at_call 121;refine(a6.o _ aM.o).mono ?_;rintro e w1⟨rfl,z,X⟩))
    obtain⟨bM,aX⟩:=bB.o w1 z X;have aK:=A1 aX;have aT:=z.c3;go_region_held3 (λw'=>w'.cell? ⟨b,3,none⟩=some (A0 I.AH)) (first|exact(AK.Aj (w:=w1.drew) z aA (λh=>h)).c3|go_simp) ((go_at_call 90;refine(Kv _ b _ F Ft aK.o.af bC.o).mono ?_;rintro e O⟨rfl,aA⟩));obtain⟨aU,aW,aB,aO⟩:=A2.o w1 O z X aA;have aF:=A1 aU;have aJ:=A1 aW;have aE:=A1 aO;have x1:=aB.d;have x2:=aB.p;have x3:=aB.f0;have x8:=aB.gb;have x9:=aB.bf;have aY:=aB.fb;go_wp2;have aG:=A1 (bI.o O O.drew I aF.o aE.o ((A3.I (One b) O).af));(have aI:((F f).1.length+data.size)*1<=140737488355328:=by omega);go_region_law
     ((refine Jy ?_ (.tmp 90) (.tmp 93) 127 9 ?_ 5 i0 _ 1 1 underlying127 hi aQ aS aR rfl MR (.slice a' (F f).1.length aD) (F f).1.length (E0 (F f).1) ?_ aG.o (.string data) data.size (byteCells data) ?_ (MO _ underlying9 data) aI ?_;(· rfl);(· rfl);(· rfl);(· rfl);intro b3 Y w3 hA;have E:=A1 (bK.o O O.drew w3 I data b3 Y aF.o aJ.o aE.o ((A3.I (One b) O).af) hA);have aV:=E.o.1.fz;have aZ:=E.o.1.c0))
    go_wp2;go_ret;have q1:=q.o;have q2:BA {D with n:=I} F f data (data.size:Int) e1=(e1,{D with n:=I},upd F f ((F f).1++data.data.toList,(F f).2)):=by
     unfold BA;rw[aP.o,Ad (by omega),Et,Er (by show data.data.toList.length<=data.data.size;rw[LI];exact As _)]
    have H:=E.o.2;rw[q1,q2];exact⟨rfl,H⟩
  | false=>
   have bE:Hid (e1=5/\I.AX=I.AX):=by
    have:=a9.o;unfold Hid;unfold bg at this;dsimp only at this;split at this
    ·cases this;exact⟨rfl,rfl⟩
    ·split at this
     ·cases this
     ·split at this
      ·cases this;exact⟨rfl,rfl⟩
      ·cases this
   by_cases hC:I.AX=false/\0<data.size
   ·obtain⟨a8,bH⟩:=hC;(have bJ:(0:Int)<(data.size:Int):=by omega);obtain⟨m,hm⟩:=LG (LH I.BJ (b:=(data.size:Int)) (by omega));(have hml:(m:Int)<(data.size:Int):=by rw[<-hm];exact PY _ bJ);have qC:Hid (Bp D F name data=BA {D with n:=I} F f data (m:Int) e1):=by
     have:=q.o;rw[<-hm];unfold Hid;rw[this];simp only[Q2,C4,a8,bH,and_self,Cg]
    (have aL:Hid (¬e1=0):=by have:=bE.o.1;unfold Hid;omega);(have bG:(e1==0)=false:=by have:=bE.o.1;simp[this]);by_cases a0:(l:Int)<(m:Int)
    ·(have a4:l<=data.size:=by omega);(have aH:(data.extract 0 l).size=l:=by simp;omega)
     go_enter func84,ntmps84
     go_wp2_with (first
      | (go_at_call 77;refine(Du _ _ _ _ hd.o).mono ?_;rintro e w'⟨rfl,rfl⟩;rw[a5.o])
      | (go_at_call 121;refine(a6.o _ aM.o).mono ?_;rintro e w1⟨rfl,z,X⟩;have bO:=z.c7;have a7:=z.bY))
     obtain⟨bM,aX⟩:=bB.o w1 z X;have aK:=A1 aX;have aT:=z.c3;go_region_held3 (λw'=>w'.cell? ⟨b,3,none⟩=some (A0 I.AH)) (first|exact(AK.Aj (w:=w1.drew) z aA (λh=>h)).c3|go_simp) ((go_at_call 90;refine(Kv _ b _ F Ft aK.o.af bC.o).mono ?_;rintro e O⟨rfl,aA⟩));obtain⟨aU,aW,aB,aO⟩:=A2.o w1 O z X aA;have aF:=A1 aU;have aJ:=A1 aW;have aE:=A1 aO;have x1:=aB.d;have x2:=aB.p;have x3:=aB.f0;have x8:=aB.gb;have x9:=aB.bf;have aY:=aB.fb;go_wp2;have aG:=A1 (bI.o O O.drew I aF.o aE.o ((A3.I (One b) O).af));(have aI:((F f).1.length+(data.extract 0 l).size)*1<=140737488355328:=by rw[aH];omega);go_region_law
      ((refine Jy ?_ (.tmp 90) (.tmp 93) 127 9 ?_ 5 i0 _ 1 1 underlying127 hi aQ aS aR rfl MR (.slice a' (F f).1.length aD) (F f).1.length (E0 (F f).1) ?_ aG.o (.string (data.extract 0 l)) (data.extract 0 l).size (byteCells (data.extract 0 l)) ?_ (MO _ underlying9 (data.extract 0 l)) aI ?_;(· rfl);(· rfl);(· rfl);(· rfl);intro b3 Y w3 hA;have E:=A1 (bK.o O O.drew w3 I (data.extract 0 l) b3 Y aF.o aJ.o aE.o ((A3.I (One b) O).af) hA);have aV:=E.o.1.fz;have aZ:=E.o.1.c0))
     go_wp2;go_ret;have q1:=qC.o;have q2:BA {D with n:=I} F f data (m:Int) e1=(e1,{D with n:=I},upd F f ((F f).1++data.data.toList.take l,(F f).2)):=by
      unfold BA;rw[aP.o,Ah a0,Ad aL.o,Ad aL.o,Et]
     have H:=E.o.2;rw[Mn,aH]at H;rw[q1,q2];exact⟨rfl,H⟩
    ·(have bF:(m:Int)<=l:=by omega);(have a4:m<=data.size:=by omega);(have aH:(data.extract 0 m).size=m:=by simp;omega)
     go_enter func84,ntmps84
     go_wp2_with (first
      | (go_at_call 77;refine(Du _ _ _ _ hd.o).mono ?_;rintro e w'⟨rfl,rfl⟩;rw[a5.o])
      | (go_at_call 121;refine(a6.o _ aM.o).mono ?_;rintro e w1⟨rfl,z,X⟩;have bO:=z.c7;have a7:=z.bY))
     obtain⟨bM,aX⟩:=bB.o w1 z X;have aK:=A1 aX;have aT:=z.c3;go_region_held3 (λw'=>w'.cell? ⟨b,3,none⟩=some (A0 I.AH)) (first|exact(AK.Aj (w:=w1.drew) z aA (λh=>h)).c3|go_simp) ((go_at_call 90;refine(Kv _ b _ F Ft aK.o.af bC.o).mono ?_;rintro e O⟨rfl,aA⟩));obtain⟨aU,aW,aB,aO⟩:=A2.o w1 O z X aA;have aF:=A1 aU;have aJ:=A1 aW;have aE:=A1 aO;have x1:=aB.d;have x2:=aB.p;have x3:=aB.f0;have x8:=aB.gb;have x9:=aB.bf;have aY:=aB.fb;go_wp2;have aG:=A1 (bI.o O O.drew I aF.o aE.o ((A3.I (One b) O).af));(have aI:((F f).1.length+(data.extract 0 m).size)*1<=140737488355328:=by rw[aH];omega);go_region_law
      ((refine Jy ?_ (.tmp 90) (.tmp 93) 127 9 ?_ 5 i0 _ 1 1 underlying127 hi aQ aS aR rfl MR (.slice a' (F f).1.length aD) (F f).1.length (E0 (F f).1) ?_ aG.o (.string (data.extract 0 m)) (data.extract 0 m).size (byteCells (data.extract 0 m)) ?_ (MO _ underlying9 (data.extract 0 m)) aI ?_;(· rfl);(· rfl);(· rfl);(· rfl);intro b3 Y w3 hA;have E:=A1 (bK.o O O.drew w3 I (data.extract 0 m) b3 Y aF.o aJ.o aE.o ((A3.I (One b) O).af) hA);have aV:=E.o.1.fz;have aZ:=E.o.1.c0))
     go_wp2;go_ret;have q1:=qC.o;have q2:BA {D with n:=I} F f data (m:Int) e1=(e1,{D with n:=I},upd F f ((F f).1++data.data.toList.take m,(F f).2)):=by
      unfold BA;rw[aP.o,Ad (by omega),Et]
     have H:=E.o.2;rw[Mn,aH]at H;rw[q1,q2];exact⟨rfl,H⟩
   ·have qC:Hid (Bp D F name data=(e1,{D with n:=I},F)):=by
     have:=q.o;unfold Hid;rw[this];simp only[Q2,C4,hC]
    by_cases a8:I.AX=true
    ·go_enter func84,ntmps84
     go_wp2_with (first
      | (go_at_call 77;refine(Du _ _ _ _ hd.o).mono ?_;rintro e w'⟨rfl,rfl⟩;rw[a5.o])
      | (go_at_call 121;refine(a6.o _ aM.o).mono ?_;rintro e w1⟨rfl,z,X⟩;have a7:=z.bY))
     go_ret;rw[qC.o];exact⟨rfl,bU.o.bP bA.o z X⟩
    ·(have bR:I.AX=false:=by simpa using a8);have bH:(data.size:Int)<=0:=by
      have:¬0<data.size:=λh=>hC ⟨bR,h⟩;omega
     go_enter func84,ntmps84
     go_wp2_with (first
      | (go_at_call 77;refine(Du _ _ _ _ hd.o).mono ?_;rintro e w'⟨rfl,rfl⟩;rw[a5.o])
      | (go_at_call 121;refine(a6.o _ aM.o).mono ?_;rintro e w1⟨rfl,z,X⟩;have a7:=z.bY))
     go_ret;rw[qC.o];exact⟨rfl,bU.o.bP bA.o z X⟩
def P3{w w1 w3 w5:World}{b:Nat}{D:DS}{F:Nat->FC}{vd vs vc vl W:Value}{H:List Value}{aD:Nat->Value}{Ft:Nat->Prop}{n1:DN}{es:List AL}(hr:BY w b D F vd vs vc H aD)(d:∀k,C7 b D vd vs vc H aD k->Ft k)(aG:AK w1 b vd vs vc n1)(aA:A3 (One b) w w1)(X:A3 (λ_=>False) w1 w3)(e3:D2 w3 vl es)(aB:∀g,vl.ownBlock=some g->w1.heap.size<=g)(Y:∀f,Df f es->D.Au f)(aE:AK w5 b vl vs W n1)(aH:w5.ownsRow 0 120 1 W (D.Av.length+1) (H++[vl]))(L:A3 (λk=>k=b\/vc.ownBlock=some k) w3 w5)(hv:∀g,W.ownBlock=some g->vc.ownBlock=some g\/w3.heap.size<=g):
 Dq w Ft w5 b {D with A4:=es,Av:=D.Av++[es],n:=n1} F:=by
 have s1:=aA.Ak;have s3:=X.Ak;have r1:=hr.ag aG aA;have r3:=r1.aP λk O=>X.Ao k (r1.lt O) (λh=>h)
 have e5:=Ay e3 λg hg=>L.Ao g (AB e3 hg) (by
  obtain⟨c,hh⟩:=Be e3 hg;rintro (e|e)
  ·exact BS hh r3.Af (by decide) e
  ·obtain⟨c',aF⟩:=Be r3.Aj e
   exact BS hh aF (by decide) rfl)
 have r5:=r3.cx (F':=F) (VB':=aD) (es:=es) aE aH e5 L (λk O=>O) (λf E=>⟨rfl,rfl⟩) (λf E=>.inl (Y f E));have I:∀f,({D with A4:=es,Av:=D.Av++[es],n:=n1}:DS).Au f->D.Au f:=by
  rintro f (E|E|⟨c,z,E⟩)
  ·exact Y f E
  ·exact .inr (.inl E)
  ·rcases AU.1 z with z|z
   ·exact .inr (.inr ⟨c,z,E⟩)
   ·simp at z;subst z;exact Y f E
 refine Dq.bx ?_ r5 ?_
 ·have a:=(aA.aa (S':=Ft) λk _ O=>by cases O;exact d b .Af).Ap X (λx hx=>hx.elim);refine a.Ap L ?_;rintro x (e|e) _
  ·subst e;exact d x .Af
  ·exact d x (.Aj e)
 ·intro k O;cases O using C7.bL with
  | Af=>exact .inl (d b .Af)
  | dir e=>right;have:=aB _ e;omega
  | Ac e=>exact .inl (d k (.AO e))
  | Aj e=>
   rcases hv k e with h|h
   ·exact .inl (d k (.Aj h))
   ·right;omega
  | D8 hm e=>
   rcases AU.1 hm with hm|hm
   ·exact .inl (d k (.D8 hm e))
   ·simp at hm;subst hm;right;have:=aB _ e;omega
  | BM E=>exact .inl (d _ (.BM (I _ E)))
  | byt E e=>exact .inl (d _ (.bB (I _ E) e))
def OZ{w I L:World}{b:Nat}{D:DS}{F:Nat->FC}{W O H:Value}{d:List Value}{aA:Nat->Value}{n1:DN}(hr:BY w b D F W O H d aA)(E:AK I b W O H n1)(X:A3 (One b) w I)(z:A3 (λ_=>False) I L):
 AK L b W O H n1/\L.ownsRow 0 120 1 H D.Av.length d:=by
 have Y:=hr.ag E X;exact⟨E.Aj z (λh=>h),Ay Y.Aj λg hg=>z.Ao g (AB Y.Aj hg) (λh=>h)⟩
def App.bE{w w':World}{e size n:Nat}{z:Value}{xs:List Value}(h:App w w' e size (.slice none 0 0) z n xs):A3 Ab w w':=h.Aj (λk d=>by simp[Value.ownBlock]at d)
def App.AS{w w':World}{e size n:Nat}{z:Value}{xs:List Value}(h:App w w' e size (.slice none 0 0) z n xs):∀g,z.ownBlock=some g->w.heap.size<=g:=by
 intro g d;rcases h.Cj with h|h
 ·rw[h]at d;cases d
 ·rw[h]at d;cases d;exact As _
def App.cv{z w w':World}{e size n:Nat}{v H:Value}{xs:List Value}(h:App w w' e size v H n xs)(I:A3 (λ_=>False) z w)(L:∀g,v.ownBlock=some g->z.heap.size<=g):
 A3 (λ_=>False) z w'/\∀g,H.ownBlock=some g->z.heap.size<=g:=by
 refine⟨I.Cy h.Cy λk O hlt=>by have:=L k O;omega,λg d=>?_⟩;rcases h.Cj with E|E
 ·rw[E]at d;exact L g d
 ·rw[E]at d;cases d;exact I.Ak
def Dg(D:DS)(name:ByteArray):Int×DS:=
 if B2 D.A4 name<0 then (8,D) else
  let es:=D.A4.take (B2 D.A4 name).toNat++D.A4.drop ((B2 D.A4 name).toNat+1)
  ((bg D.n).2.1,if (bg D.n).1 then {D with A4:=es,Av:=D.Av++[es],n:=(bg D.n).2.2} else {D with n:=(bg D.n).2.2})
def XK(w:World)(b:Nat)(D:DS)(F:Nat->FC)(Ft:Nat->Prop)(h:Da w b D F Ft)(name:ByteArray)(hs:D.A4.length<1099511627776/\D.Av.length<1099511627776):
 Ag 193 #[A5 b,.string name] w (Al (A0 (Dg D name).1) λw'=>Dq w Ft w' b (Dg D name).2 F):=by
 obtain⟨vd,vs,vc,vals,VB,hr,aI⟩:=h;obtain⟨hs1,aN⟩:=hs;have aA:=A1 hr;have aT:=A1 aI;have c0:=hr.Af.c0;have hd:=A1 hr.A4;have aH:=A1 hr.Af;rcases OQ D.A4 name with⟨h1,h2⟩|⟨k,hk,h1,h2⟩
 ·have q:Hid (Dg D name=(8,D)):=by unfold Hid Dg;rw[Ah (by omega)]
  have hfi:B2 D.A4 name<0:=by omega
  go_enter func193,ntmps193
  go_wp2_with (go_at_call 77;refine(Du _ _ _ _ hd.o).mono ?_;rintro e w'⟨rfl,rfl⟩);go_ret;rw[q.o];exact⟨rfl,Dq.bx (A3.I _ _) aA.o λk hk=>.inl (aI k hk)⟩
 ·have q:Hid (Dg D name=((bg D.n).2.1,if (bg D.n).1 then {D with A4:=D.A4.take k++D.A4.drop (k+1),Av:=D.Av++[D.A4.take k++D.A4.drop (k+1)],n:=(bg D.n).2.2} else {D with n:=(bg D.n).2.2})):=by
   unfold Hid Dg;rw[Ad (by omega),h1];rfl
  have aV:=A1 h1;by_cases aD:(bg D.n).1=true
  ·obtain⟨i0,hi,W,Y,X⟩:=E7 Tryz.cV;obtain⟨a,cap,rfl,z1,z2,aG⟩:=aA.o.A4.Ce;obtain⟨g,rfl,_,_⟩:=aG k hk;unfold maxLen at z2;have aO:Hid (∀z,AK z b (AJ g D.A4.length cap) vs vc (bg D.n).2.2->A3 (One b) w z->z.ownsRow 0 125 2 (AJ g k cap) k ((BX D.A4).take (k*2))/\D2 z (AJ g D.A4.length cap) D.A4):=λz g1 g2=>
    ⟨S3 (aA.o.ag g1 g2).A4 (by omega),(aA.o.ag g1 g2).A4⟩
   have aM:∀u∈(BX D.A4).take (k*2),u.oneCell'=true:=λu hu=>OT _ u (IB hu);have aB:=A1 aM;have aR:Hid (∀f,Df f (D.A4.take k++D.A4.drop (k+1))->D.Au f):=by
    rintro f⟨e,he,rfl⟩;rcases AU.1 he with he|he
    ·exact .inl ⟨e,IB he,rfl⟩
    ·exact .inl ⟨e,Lu he,rfl⟩
   (have aJ:(D.A4.take k++D.A4.drop (k+1)).length=k+(D.A4.length-(k+1)):=by simp;omega);have a4:Hid (∀(E O:World) (v2 v3:Value),App E O 125 2 v2 v3 (k+(D.A4.length-(k+1))) ((BX D.A4).take (k*2)++BX (D.A4.drop (k+1)))->D2 O v3 (D.A4.take k++D.A4.drop (k+1))):=by
    intro E O v2 v3 h;unfold D2;rw[aJ,L6,<-A0Z];exact h.AA
   by_cases aU:cap=k+1
   ·subst aU;(have hz:D.A4.length=k+1:=by omega);have aX:Hid (∀z E:World,D2 z (AJ g D.A4.length (k+1)) D.A4->A3 Ab z E->Src Tryz.prog 2 92 (AJ g 0 0) 0 [] E):=
     λz E _ _=>Je E underlying92 _ 0 _ [] rfl (by simp) (by simp)
    have aW:Hid (∀(E O:World) (v2 v3:Value),App E O 125 2 v2 v3 (k+0) ((BX D.A4).take (k*2)++[])->D2 O v3 (D.A4.take k++D.A4.drop (k+1))):=by
     intro E O v2 v3 h;refine a4.o E O v2 v3 ?_;rw[Jl (by omega),show D.A4.length-(k+1)=0 from by omega];exact h
    clear hz
    go_enter func193,ntmps193
    go_wp2_with (first
     | (go_at_call 77;refine(Du _ _ _ _ hd.o).mono ?_;rintro e w'⟨rfl,rfl⟩;rw[aV.o])
     | (go_at_call 121;refine(GM _ _ _ _ _ _ aH.o).mono ?_;rintro e z⟨rfl,d,H⟩;have aY:=d.c0;have aK:=A1 (aO.o z d H))
     | (at_builtin;refine D4 rfl (.const (.slice none 0 0)) (.tmp 28) 92 92 rfl 125 i0 _ 2 24 underlying92 hi W Y X rfl (by decide) (.slice none 0 0) 0 [] (by rfl) (CD _ 0 125 2) (AJ g k (k+1)) k ((BX D.A4).take (k*2)) (by rfl) (Src.bO underlying92 aK.o.1 aB.o) (by omega) ?_;intro a2 aS E L;simp only[GO,Es]at L;have aE:=A1 L.AA;have a1:=(d.Aj L.bE (λh=>h)).c0;have aF:=A1 (aX.o z E aK.o.2 L.bE))
     | (at_builtin;refine D4 rfl (.tmp 31) (.tmp 38) 92 92 rfl 125 i0 _ 2 24 underlying92 hi W Y X rfl (by decide) _ k ((BX D.A4).take (k*2)) (by rfl) aE.o _ _ _ (by rfl) aF.o (by omega) ?_;intro a3 aL O hB;have I:=A1 (hB.cv L.bE L.AS);have hm:=A1 (OZ aA.o d H I.o.1))
     | (go_at_call 122;refine(LO _ b _ vs vc _ _ _ _ _ _ hm.o.1 hm.o.2 aN).mono ?_;rintro e w5⟨rfl,a0,k1,k2,k3,k4⟩))
    go_ret;rw[q.o,aD];have e3:=aW.o _ _ _ _ hB;exact⟨rfl,P3 aA.o aT.o d H I.o.1 e3 I.o.2 aR.o k1 k2 k3 k4⟩
   ·have aX:Hid (∀z E:World,D2 z (AJ g D.A4.length cap) D.A4->A3 Ab z E->Src Tryz.prog 2 92 (.slice (some (Aa g ((k+1)*2))) (D.A4.length-(k+1)) (cap-(k+1))) (D.A4.length-(k+1)) (BX (D.A4.drop (k+1))) E):=by
     intro z E h1 aZ;have h2:=Ay h1 λx hx=>aZ.Ao x (AB h1 hx) (λh=>h);refine Je E underlying92 _ _ _ _ (by rw[A00,Cu]) ?_ (OT _);intro j u hu;rw[<-A01,ID]at hu;(have aQ:((Aa g ((k+1)*2)):Addr).add j=(Aa g ((k+1)*2+j)):=by unfold Addr.add;split<;>simp_all);rw[aQ];exact BC h2 rfl hu
    go_enter func193,ntmps193
    go_wp2_with (first
     | (go_at_call 77;refine(Du _ _ _ _ hd.o).mono ?_;rintro e w'⟨rfl,rfl⟩;rw[aV.o])
     | (go_at_call 121;refine(GM _ _ _ _ _ _ aH.o).mono ?_;rintro e z⟨rfl,d,H⟩;have aY:=d.c0;have aK:=A1 (aO.o z d H))
     | (at_builtin;refine D4 rfl (.const (.slice none 0 0)) (.tmp 28) 92 92 rfl 125 i0 _ 2 24 underlying92 hi W Y X rfl (by decide) (.slice none 0 0) 0 [] (by rfl) (CD _ 0 125 2) (AJ g k cap) k ((BX D.A4).take (k*2)) (by rfl) (Src.bO underlying92 aK.o.1 aB.o) (by omega) ?_;intro a2 aS E L;simp only[GO,Es]at L;have aE:=A1 L.AA;have a1:=(d.Aj L.bE (λh=>h)).c0;have aF:=A1 (aX.o z E aK.o.2 L.bE))
     | (at_builtin;refine D4 rfl (.tmp 31) (.tmp 38) 92 92 rfl 125 i0 _ 2 24 underlying92 hi W Y X rfl (by decide) _ k ((BX D.A4).take (k*2)) (by rfl) aE.o _ _ _ (by rfl) aF.o (by omega) ?_;intro a3 aL O hB;have I:=A1 (hB.cv L.bE L.AS);have hm:=A1 (OZ aA.o d H I.o.1))
     | (go_at_call 122;refine(LO _ b _ vs vc _ _ _ _ _ _ hm.o.1 hm.o.2 aN).mono ?_;rintro e w5⟨rfl,a0,k1,k2,k3,k4⟩))
    go_ret;rw[q.o,aD];have e3:=a4.o _ _ _ _ hB;exact⟨rfl,P3 aA.o aT.o d H I.o.1 e3 I.o.2 aR.o k1 k2 k3 k4⟩
  ·(have aP:(bg D.n).1=false:=by simpa using aD)
   go_enter func193,ntmps193
   go_wp2_with (first|(go_at_call 77;refine(Du _ _ _ _ hd.o).mono ?_;rintro e w'⟨rfl,rfl⟩;rw[aV.o])|(go_at_call 121;refine(GM _ _ _ _ _ _ aH.o).mono ?_;rintro e z⟨rfl,d,H⟩));go_ret;rw[q.o,aP];exact⟨rfl,aA.o.bP aI d H⟩
def Dk(es:List AL)(i:Nat)(name:ByteArray):Nat->List AL
 | 0=>[]
 | k+1=>Dk es i name k++(match es[k]? with
  | some e=>if k≠i/\e.1≠name then [e] else []
  | none=>[])
def LZ(es:List AL)(i:Nat)(name:ByteArray)(k:Nat):∀e∈Dk es i name k,e∈es:=by
 induction k with
 | zero=>intro e h;cases h
 | succ k ih=>
  intro e h;simp only[Dk]at h;rcases AU.1 h with h|h
  ·exact ih e h
  ·split at h
   ·rename_i x d;split at h
    ·simp at h;subst h;exact Lv d
    ·cases h
   ·cases h
def NV(es:List AL)(i:Nat)(name:ByteArray)(k:Nat):(Dk es i name k).length<=k:=by
 induction k with
 | zero=>simp[Dk]
 | succ k ih=>
  simp only[Dk,AY];split
  ·split<;>simp<;>omega
  ·simp;omega
def Rr(es:List AL)(i:Nat)(name:ByteArray)(k:Nat)(d:k<es.length)(h:k≠i/\(es[k]'d).1≠name):Dk es i name (k+1)=Dk es i name k++[es[k]'d]:=by
 simp only[Dk,E2 d];rw[Ah h]
def NW(es:List AL)(i:Nat)(name:ByteArray)(k:Nat)(d:k<es.length)(h:¬(k≠i/\(es[k]'d).1≠name)):Dk es i name (k+1)=Dk es i name k:=by
 simp only[Dk,E2 d];rw[Ad h,FF]
def CQ(D:DS)(old name:ByteArray):Int×DS:=match lookup D.A4 old with
 | none=>(8,D)
 | some f=>if name=ByteArray.empty then (8,D) else
  let es:=Dk D.A4 (B2 D.A4 old).toNat name D.A4.length++[(name,f)]
  ((bg D.n).2.1,if (bg D.n).1 then {D with A4:=es,Av:=D.Av++[es],n:=(bg D.n).2.2} else {D with n:=(bg D.n).2.2})
def XA(w:World)(b:Nat)(D:DS)(F:Nat->FC)(Ft:Nat->Prop)(h:Da w b D F Ft)(old name:ByteArray)(hs:D.A4.length<1099511627776/\D.Av.length<1099511627776):
 Ag 242 #[A5 b,.string old,.string name] w λe w'=>e=.returned (A0 (CQ D old name).1)/\Dq w Ft w' b (CQ D old name).2 F:=by
 obtain⟨vd,vs,vc,vals,VB,hr,aB⟩:=h;obtain⟨hs1,aU⟩:=hs;have aG:=A1 hr;have aX:=A1 aB;have c0:=hr.Af.c0;have hd:=A1 hr.A4;have aR:=A1 hr.Af;rcases J1 D.A4 old with⟨h1,h2⟩|⟨k,H,h1,h2,h3⟩
 ·have q:Hid (CQ D old name=(8,D)):=by unfold Hid CQ;rw[h2]
  have hfi:B2 D.A4 old<0:=by omega
  go_enter func242,ntmps242
  go_wp2_with (go_at_call 77;refine(Du _ _ _ _ hd.o).mono ?_;rintro e w'⟨rfl,rfl⟩);go_ret;rw[q.o];exact⟨rfl,Dq.bx (A3.I _ _) aG.o λk H=>.inl (aB k H)⟩
 ·have aT:=A1 h1;by_cases hn:name.toList.isEmpty=true
  ·(have q:Hid (CQ D old name=(8,D)):=by unfold Hid CQ;rw[h2];exact Ah ((isEmpty_iff _).1 hn))
   go_enter func242,ntmps242
   go_wp2_with (go_at_call 77;refine(Du _ _ _ _ hd.o).mono ?_;rintro e w'⟨rfl,rfl⟩;rw[aT.o]);go_ret;rw[q.o];exact⟨rfl,Dq.bx (A3.I _ _) aG.o λk H=>.inl (aB k H)⟩
  ·(have hn':name.toList.isEmpty=false:=by simpa using hn);have q:Hid (CQ D old name=((bg D.n).2.1,if (bg D.n).1 then {D with A4:=Dk D.A4 k name D.A4.length++[(name,(D.A4[k]'H).2)],Av:=D.Av++[Dk D.A4 k name D.A4.length++[(name,(D.A4[k]'H).2)]],n:=(bg D.n).2.2} else {D with n:=(bg D.n).2.2})):=by
    unfold Hid CQ;rw[h2];dsimp only;rw[Ad (λe=>hn ((isEmpty_iff _).2 e)),h1];rfl
   by_cases aI:(bg D.n).1=true
   ·obtain⟨i0,hi,aK,aP,aO⟩:=E7 Tryz.cV;obtain⟨a,cap,rfl,z1,z2,aF⟩:=aG.o.A4.Ce;obtain⟨g,rfl,_,_⟩:=aF k H;unfold maxLen at z2
    have cells:Hid (∀X wr,AK X b (.slice (some (Aa g 0)) D.A4.length cap) vs vc (bg D.n).2.2->A3 (One b) w X->A3 Ab X wr->A7 wr b 0 (.slice (some (Aa g 0)) D.A4.length cap)/\
     ∀j (hj:j<D.A4.length),A7 wr g (j*2) (.string (D.A4[j]'hj).1)/\A7 wr g (j*2+1) (A5 ((D.A4[j]'hj).2))):=by
     intro X wr g1 g2 g3;have r1:=aG.o.ag g1 g2;have r3:=r1.aP λx hx=>g3.Ao x (r1.lt hx) (λh=>h);exact⟨r3.Af.c0,λj hj=>⟨BC r3.A4 rfl (OU _ j hj),BC r3.A4 rfl (OS _ j hj)⟩⟩
    go_enter func242,ntmps242
    go_wp2_with (first
     | (go_at_call 77;refine(Du _ _ _ _ hd.o).mono ?_;rintro e w'⟨rfl,rfl⟩;rw[aT.o])
     | (go_at_call 121;refine(GM _ _ _ _ _ _ aR.o).mono ?_;rintro e X⟨rfl,E,L⟩;have c01:=E.c0))
    go_loopw [10,35] (λv i wr=>∃j:Nat,j<=D.A4.length/\i=A0 j/\A3 Ab X wr/\D2 wr v (Dk D.A4 k name j)/\Hid (∀x,v.ownBlock=some x->X.heap.size<=x)) (λ_ i _=>D.A4.length-(intOf i).toNat)
    case atStart=>exact⟨0,Cf _,rfl,A3.I _ _,CD _ _ _ _,λx hx=>by simp[Value.ownBlock]at hx⟩
    case round=>
     obtain⟨j,hj,rfl,I,aV,Y⟩:=hrel;have aA:=A1 aV;obtain⟨cb,ce⟩:=cells.o X wr E L I;by_cases d:j<D.A4.length
     ·obtain⟨cn,cp⟩:=ce j d;by_cases W:j=k
      ·(have aJ:((j:Int)!=(k:Int))=false:=by simp[W]);have q2:=A1 (NW D.A4 k name j d (λh=>h.1 W));have aQ:=A1 W;go_wp2;go_roundw
       case rel=>exact⟨j+1,by omega,by go_num,I,by rw[q2.o];exact aA.o,Y⟩
       case measure=>simp[intOf];omega
      ·(have aJ:((j:Int)!=(k:Int))=true:=by rw[bne_iff_ne];omega);have aQ:=A1 W;by_cases O:(D.A4[j]'d).1=name
       ·have aM:=(Ph _ _).2 O;have q2:=A1 (NW D.A4 k name j d (λh=>h.2 O));go_wp2;go_roundw
        case rel=>exact⟨j+1,by omega,by go_num,I,by rw[q2.o];exact aA.o,Y⟩
        case measure=>simp[intOf];omega
       ·have aM:=(Ul _ _).2 O;have q2:=A1 (Rr D.A4 k name j d ⟨aQ.o,O⟩);have aH:=A1 (aA.o.alloc (.cells #[.string (D.A4[j]'d).1,A5 ((D.A4[j]'d).2)] 125));have aE:=A1 (Src.bb (size:=2) underlying92 wr #[.string (D.A4[j]'d).1,A5 ((D.A4[j]'d).2)] 125 wr.heap.size rfl 1 1 rfl (by simp[Value.oneCell']));have aW:=NV D.A4 k name j;go_wp2_with (at_builtin;refine D4 rfl (.tmp 53) (.tmp 61) 92 92 rfl 125 i0 _ 2 24 underlying92 hi aK aP aO rfl (by decide) _ _ _ (by rfl) aH.o _ 1 _ (by rfl) aE.o (by omega) ?_;intro a3 aD w3 hB;have z:=A1 (hB.cv (I.ak _) Y.o));go_roundw
        case rel=>
         refine⟨j+1,by omega,by go_num,z.o.1,?_,z.o.2⟩;rw[q2.o];have:=hB.AA;unfold D2;rw[L6,AY];exact this
        case measure=>simp[intOf];omega
     ·obtain⟨cn,cp⟩:=ce k H;(have aS:j=D.A4.length:=by omega);have aN:=aA.o;rw[aS]at aN;have aH:=A1 (aN.alloc (.cells #[.string name,A5 ((D.A4[k]'H).2)] 125));have aE:=A1 (Src.bb (size:=2) underlying92 wr #[.string name,A5 ((D.A4[k]'H).2)] 125 wr.heap.size rfl 1 1 rfl (by simp[Value.oneCell']));have aW:=NV D.A4 k name D.A4.length
      go_wp2_with (first
       | (at_builtin;refine D4 rfl (.tmp 65) (.tmp 76) 92 92 rfl 125 i0 _ 2 24 underlying92 hi aK aP aO rfl (by decide) _ _ _ (by rfl) aH.o _ 1 _ (by rfl) aE.o (by omega) ?_;intro a3 aD w3 hB;have z:=A1 (hB.cv (I.ak _) Y.o);have hm:=A1 (OZ aG.o E L z.o.1))
       | (go_at_call 122;refine(LO _ b _ vs vc _ _ _ _ _ _ hm.o.1 hm.o.2 aU).mono ?_;rintro e w5⟨rfl,vc',k1,k2,k3,k4⟩))
      go_ret;rw[q.o,aI];have e3:D2 w3 (.slice a3 ((Dk D.A4 k name D.A4.length).length+1) aD) (Dk D.A4 k name D.A4.length++[(name,(D.A4[k]'H).2)]):=by
       have:=hB.AA;unfold D2;rw[L6,AY];exact this
      refine⟨rfl,P3 aG.o aX.o E L z.o.1 e3 z.o.2 ?_ k1 k2 k3 k4⟩;rintro f⟨e,he,rfl⟩;rcases AU.1 he with he|he
      ·exact .inl ⟨e,LZ _ _ _ _ e he,rfl⟩
      ·simp at he;subst he;exact .inl ⟨_,BV H,rfl⟩
   ·(have aL:(bg D.n).1=false:=by simpa using aI)
    go_enter func242,ntmps242
    go_wp2_with (first|(go_at_call 77;refine(Du _ _ _ _ hd.o).mono ?_;rintro e w'⟨rfl,rfl⟩;rw[aT.o])|(go_at_call 121;refine(GM _ _ _ _ _ _ aR.o).mono ?_;rintro e X⟨rfl,E,L⟩));go_ret;rw[q.o,aL];exact⟨rfl,aG.o.bP aB E L⟩
def less(a b:ByteArray):Bool:=Op.bytesLess a.toList b.toList
def Fy(l:List ByteArray):List Value:=l.map Value.string
def Eo(l:List ByteArray)(x:ByteArray):Nat->Nat
 | 0=>0
 | k+1=>match l[k]? with
  | some y=>if less x y then Eo l x k else k+1
  | none=>k+1
def ins(l:List ByteArray)(x:ByteArray):List ByteArray:=l.take (Eo l x l.length)++x::l.drop (Eo l x l.length)
def EE(es:List AL):Nat->List ByteArray
 | 0=>[]
 | k+1=>match es[k]? with
  | some e=>ins (EE es k) e.1
  | none=>EE es k
def dList(es:List AL):List ByteArray:=EE es es.length
def Tv(l:List ByteArray)(x:ByteArray)(k:Nat):Eo l x k<=k:=by
 induction k with
 | zero=>simp[Eo]
 | succ k ih=>
  simp only[Eo];split
  ·split<;>omega
  ·omega
def A0n(l:List ByteArray)(x:ByteArray):(ins l x).length=l.length+1:=by
 have:=Tv l x l.length;simp[ins];omega
def Mt(es:List AL)(k:Nat)(hk:k<=es.length):(EE es k).length=k:=by
 induction k with
 | zero=>rfl
 | succ k ih=>
  simp only[EE,E2 (show k<es.length by omega)];rw[A0n,ih (by omega)]
def Ms(es:List AL)(k:Nat)(d:k<es.length):EE es (k+1)=ins (EE es k) (es[k]'d).1:=by
 simp only[EE,E2 d]
def Tu(l:List ByteArray)(x:ByteArray)(k:Nat)(d:k<l.length)(h:less x (l[k]'d)=true):Eo l x (k+1)=Eo l x k:=by
 simp only[Eo,E2 d];rw[Ah h]
def Tt(l:List ByteArray)(x:ByteArray)(k:Nat)(d:k<l.length)(h:less x (l[k]'d)=false):Eo l x (k+1)=k+1:=by
 simp only[Eo,E2 d];rw[Ad (by simp[h])]
def Wu(l:List ByteArray)(x:ByteArray)(m:Nat)(h:m<l.length):
 ((Fy (l.take (m+1)++x::l.drop (m+1))).set (m+1) (.string (l[m]'h))).set m (.string x)=Fy (l.take m++x::l.drop m):=by
 have z:=Dn h;have H:=Fw h;have E:(l.take m).length=m:=by simp;omega
 rw[z,H];unfold Fy;simp only[El,Hb,Cc,Fx,Es];have d:(List.map Value.string (l.take m)).length=m:=by simpa using E
 rw[Kf _ _ (by omega),d,show m+1-m=1 from by omega];simp only[Vb,List.set_cons_zero];rw[Kf _ _ (by omega),d,V6];rfl
def Ov(w:World)(b:Nat)(D:DS)(F:Nat->FC)(Ft:Nat->Prop)(h:Da w b D F Ft)(hs:D.A4.length<1099511627776):
 Ag 76 #[A5 b] w λe w'=>∃v,e=.returned v/\w'.ownsRow 0 9 1 v D.A4.length (Fy (dList D.A4))/\A3 Ab w w'/\(∀g,v.ownBlock=some g->w.heap.size<=g):=by
 obtain⟨vd,vs,vc,vals,VB,hr,hft⟩:=h;have bB:=A1 hr;have c0:=hr.Af.c0;obtain⟨i0,hi,aK,aR,aO⟩:=E7 Tryz.eU;obtain⟨a,cap,rfl,z1,z2,aA⟩:=bB.o.A4.Ce;unfold maxLen at z2;have a1:i0.bytes*D.A4.length<=281474976710656:=by rw[aO];omega
 have a4:D.A4.length<=maxLen:=by unfold maxLen;omega
 have a2:=A1 a1;have a6:=A1 a4
 go_enter func76,ntmps76
 go_wp2_with (at_make;refine wpList_make_own _ rfl _ _ 121 rfl 0 9 i0 _ 1 underlying121 hi aK aR _ _ _ D.A4.length rfl rfl rfl a2.o a6.o (Cf _) ?_;intro w1 aB aN;have c01:=aN.cell c0 (by simp);have aS:=A1 aB);go_loopw [3,18] (λv i wr=>∃k:Nat,k<=D.A4.length/\i=A0 k/\A3 Ab w wr/\Hid (wr.ownsRow 0 9 1 v k (Fy (EE D.A4 k)))/\Hid (∀x,v.oB x->w.heap.size<=x)) (λ_ i _=>D.A4.length-(intOf i).toNat)
 case atStart=>exact⟨0,Cf _,rfl,(A3.I _ w).Cy aN (λk hk=>by cases hk),aS.o,λx hx=>by cases hx;exact As _⟩
 case round=>
  obtain⟨k,hk,rfl,L,aM,aQ⟩:=hrel;by_cases d:k<D.A4.length
  ·obtain⟨g,rfl,hn,hp⟩:=aA k d;have aJ:g<w.heap.size:=GN w _ hn;have a0:A7 wr g (k*2) (.string (D.A4[k]'d).1):=(DR (L.Ao g aJ (λh=>h))).trans hn;have hp':A7 wr g (k*2+1) (A5 ((D.A4[k]'d).2)):=(DR (L.Ao g aJ (λh=>h))).trans hp;have hsz:=L.Ak;have W:=A1 ((aM.o.alloc (.cells #[.string (D.A4[k]'d).1,A5 ((D.A4[k]'d).2)] 125)).alloc (.cells #[.string (D.A4[k]'d).1] 9));have aL:=A1 (Src.bb (size:=1) underlying121 (wr.alloc (.cells #[.string (D.A4[k]'d).1,A5 ((D.A4[k]'d).2)] 125)) #[.string (D.A4[k]'d).1] 9 (wr.heap.size+1) (by simp) 1 1 rfl (by simp[Value.oneCell']));generalize hx:(D.A4[k]'d).1=x at a0 W aL;have bA:=A1 hx;go_wp2_with (at_builtin;refine D4 rfl (.tmp 22) (.tmp 25) 121 121 rfl 9 i0 _ 1 16 underlying121 hi aK aR aO rfl (by decide) _ _ _ (by rfl) W.o _ 1 _ (by rfl) aL.o (by omega) ?_;intro a3 z w3 hB);have hl:=A1 (Mt D.A4 k hk);obtain⟨l,Y⟩:∃l,EE D.A4 k=l:=⟨_,rfl⟩;have a9:=A1 Y;(have a7:l.length=k:=by rw[<-Y];exact hl.o);have aE:w3.ownsRow 0 9 1 (.slice a3 (k+1) z) (k+1) (Fy (l.take k++x::l.drop k)):=by
    have:=hB.AA;rw[Y]at this;rw[Er (by omega),Jl (by omega)];simpa[Fy] using this
   have aV:=A1 aE;have aT:=A1 (hB.cv ((L.ak _).ak _) aQ.o);(have hmax:z<=maxLen:=by obtain⟨_,_,he,h1,h2,_⟩:=B8 aE;cases he;exact h2);obtain⟨H,aZ⟩:∃H,a3=some (Aa H 0):=by
    obtain⟨_,_,he,h1,h2,h3,_⟩:=B8 aE;cases he;exact h3 (by omega)
   have aH:=A1 a7;subst aZ;have a5:=A1 aT.o.1;have O:=A1 (aT.o.2);have fin:Hid (∀(wq:World) (j:Nat),j<=k->Eo l x k=j->wq.ownsRow 0 9 1 (AJ H (k+1) z) (k+1) (Fy (l.take j++x::l.drop j))->wq.ownsRow 0 9 1 (AJ H (k+1) z) (k+1) (Fy (EE D.A4 (k+1)))):=by
    intro wq j hj hp h;rw[Ms D.A4 k d,a9.o,bA.o,ins,aH.o,hp];exact h
   go_loopw [6] (λi wq=>∃j:Nat,j<=k/\i=A0 j/\Hid (A3 Ab w wq)/\Hid (wq.ownsRow 0 9 1 (AJ H (k+1) z) (k+1) (Fy (l.take j++x::l.drop j)))/\Hid (Eo l x k=Eo l x j)) (λi _=>(intOf i).toNat)
   case atStart=>exact⟨k,As _,rfl,a5,aV,rfl⟩
   case round=>
    obtain⟨j,hj,rfl,aD,E,aG⟩:=hrel;by_cases aX:j=0
    ·subst aX;rw[show ((0:Nat):Int)=0 from rfl];go_wp2;go_quiet (fail);go_wp2;go_roundw
     case rel=>
      refine⟨k+1,by omega,by go_num,aD.o.ba _,?_,O.o⟩;exact fin.o _ 0 (by omega) (by rw[aG.o];rfl) E.o
     case measure=>simp[intOf];omega
    ·(have hj1:(0:Int)<(j:Int):=by omega);(have hj2:0<j:=by omega);(have I:j-1<l.length:=by have:=aH.o;omega);(have aW:j<=l.length:=by have:=aH.o;omega);obtain⟨y,hy⟩:∃y,l[j-1]'I=y:=⟨_,rfl⟩
     have g1:A7 wr H (j-1) (.string y):=BC E.o rfl (by
      unfold Fy;rw[El,IE (by simp;omega)]
      simp[List.getElem?_take,I,hy];omega)
     have g2:A7 wr H j (.string x):=BC E.o rfl (by
      unfold Fy;rw[El,Hs (by simp;omega)]
      simp[Nat.min_eq_left aW])
     have gz:∀o,wr.frozen? (Aa H o)=false:=λo=>G6 E.o rfl o;by_cases aF:less x y=true
     ·have aP:Op.bytesLess x.toList y.toList=true:=aF;have aI:=A1 aF;have aU:=A1 hy;go_wp2;go_quiet (fail);go_wp2;go_region;go_wp2;go_roundw
      case rel=>
       refine⟨j-1,by omega,by go_num,?_,?_,?_⟩
       ·have h1:=((aD.o.bt (p:=(Aa H j)) (λh=>by have:=O.o H rfl;simp at h;omega) (.string y)).bt (p:=(Aa H (j-1))) (λh=>by have:=O.o H rfl;simp at h;omega) (.string x));exact⟨h1.os,h1.FK,h1.FM,h1.Ak,h1.Ao⟩
       ·have s1:=(E.o.stored j (.string y)).1;have s2:=(s1.stored (j-1) (.string x)).1;have e:=Wu l x (j-1) I;rw[show j-1+1=j from by omega,aU.o]at e;rw[e]at s2;exact s2
       ·have:=Tu l x (j-1) I (by rw[aU.o];exact aI.o);rw[show j-1+1=j from by omega]at this;unfold Hid;rw[aG.o];exact this
      case measure=>simp[intOf];omega
     ·(have X:less x y=false:=by simpa using aF);have aP:Op.bytesLess x.toList y.toList=false:=X;have aI:=A1 X;have aU:=A1 hy;go_wp2;go_quiet (fail);go_wp2;go_roundw
      case rel=>
       refine⟨k+1,by omega,by go_num,aD.o.ba _,?_,O.o⟩;refine fin.o _ j hj ?_ E.o;have:=Tt l x (j-1) I (by rw[aU.o];exact aI.o);rw[show j-1+1=j from by omega]at this;rw[aG.o];exact this
      case measure=>simp[intOf];omega
  ·(have a8:k=D.A4.length:=by omega);have aY:=A1 a8;go_wp2;go_ret;refine⟨_,rfl,?_,L,aQ.o⟩;have:=aM.o;rw[aY.o]at this;exact this
def Fi(c:Int)(n:Nat):Nat:=((if c<0 then -(c+1) else c) % ((n:Int)+1)).toNat
def JJ(c:Int)(n:Nat):Fi c n<=n:=by
 unfold Fi;have h1:=LH (if c<0 then -(c+1) else c) (b:=(n:Int)+1) (by omega);have h2:=PY (if c<0 then -(c+1) else c) (b:=(n:Int)+1) (by omega);omega
def RY(c:Int)(n:Int)(w:World)(d : -9223372036854775808<=c/\c<=9223372036854775807)(z:0<=n/\n<=4611686018427387904):
 Ag 75 #[A0 c,A0 n] w (Al (A0 (Fi c n.toNat)) λw'=>w=w'):=by
 obtain⟨h1,h2⟩:=d;obtain⟨h,h4⟩:=z;by_cases d:c<0
 ·have q:Hid ((Fi c n.toNat:Int) = -((c+1).tmod (n+1))):=by
   unfold Hid Fi;rw[Ah d,PW h,PW (LH _ (by omega)),<-A3R (by omega),Nf]
  go_enter func75,ntmps75
  go_wp2;go_ret;rw[q.o];exact⟨rfl,rfl⟩
 ·have q:Hid ((Fi c n.toNat:Int)=c % (n+1)):=by
   unfold Hid Fi;rw[Ad d,PW h,PW (LH _ (by omega))]
  go_enter func75,ntmps75
  go_wp2;go_ret;rw[q.o];exact⟨rfl,rfl⟩
def Jq(w:World)(v:Value)(h:List Int):Prop:=
 ∃E cap,v=.slice E h.length cap/\h.length<=9223372036854775807/\∀j (H:j<h.length),∃z d,E=some ⟨z,d,none⟩/\z<w.heap.size/\w.cell? ⟨z,d+j,none⟩=some (.int .i64 (h[j]'H))
def Fo(c:FC)(t:Int):FC:=
 let m:=c.2.toNat+Fi t (c.1.length-c.2.toNat)
 (c.1.take m,(c.1.take m).length)
def DO(dir:List AL)(d:List Int)(names:List ByteArray)(F:Nat->FC):Nat->(Nat->FC)
 | 0=>F
 | k+1=>let G:=DO dir d names F k
  match names[k]? with
  | none=>G
  | some name=>match lookup dir name with
   | some f=>upd G f (Fo (G f) (d.getD k 0))
   | none=>G
def FV(D:DS)(d:Int):List AL:=match Fi d D.Av.length with
 | 0=>D.AO
 | k+1=>D.Av.getD k []
def Fm(D:DS)(F:Nat->FC)(h:Int)(d:List Int):DS×(Nat->FC):=
 let dir:=FV D h
 ({A4:=dir,AO:=dir,Av:=[],n:={D.n with AX:=false,Cb:=0,Cr:=0}},DO dir d (dList dir) F dir.length)
def A0m(l:List ByteArray)(x y:ByteArray):y∈ins l x↔y=x\/y∈l:=by
 unfold ins;constructor
 ·intro h;rcases AU.1 h with h|h
  ·exact .inr (IB h)
  ·rcases BR.1 h with h|h
   ·exact .inl h
   ·exact .inr (Lu h)
 ·rintro (rfl|h)
  ·simp
  ·rw[<-DK (Eo l x l.length) l]at h;rcases AU.1 h with h|h
   ·exact AU.2 (.inl h)
   ·exact AU.2 (.inr (Bx _ h))
def A1g(es:List AL)(k:Nat)(z:k<=es.length)(y:ByteArray):y∈EE es k↔∃e∈es.take k,e.1=y:=by
 induction k with
 | zero=>simp[EE]
 | succ k ih=>
  have h:=Dn (l:=es) (i:=k) z;rw[Ms es k z,A0m,ih (by omega)];constructor
  ·rintro (rfl|⟨e,d,rfl⟩)
   ·exact⟨es[k],by rw[h];exact AU.2 (.inr (IA.2 rfl)),rfl⟩
   ·exact⟨e,by rw[h];exact AU.2 (.inl d),rfl⟩
  ·rintro⟨e,d,rfl⟩;rw[h]at d;rcases AU.1 d with d|d
   ·exact .inr ⟨e,d,rfl⟩
   ·simp at d;subst d;exact .inl rfl
def A1e(es:List AL)(y:ByteArray):y∈dList es↔∃e∈es,e.1=y:=by
 have:=A1g es es.length (As _) y
 rwa [C6]at this
def BY.ei{w w':World}{b:Nat}{D:DS}{F:Nat->FC}{vd X vc Y:Value}{z:List Value}{aB:Nat->Value}{es:List AL}(h:BY w b D F vd X vc z aB)(hl:(Y=X/\es=D.AO)\/∃k,∃E:k<D.Av.length,z[k]?=some Y/\es=D.Av[k]'E)(hb:AK w' b Y X vc D.n)(hc:A3 (One b) w w'):
 BY w' b {D with A4:=es} F Y X vc z aB/\∀k,C7 b {D with A4:=es} Y X vc z aB k->C7 b D vd X vc z aB k:=by
 have E:∀(k:Nat) (c:Array Value) (e:Nat),w.heap[k]?=some (Obj.cells c e (0,0))->e≠95->w'.heap[k]?=w.heap[k]?:=λk c e E he=>
  hc.Ao k (By E) (BS E h.Af he)
 have aA:D2 w Y es:=by
  rcases hl with⟨rfl,rfl⟩|⟨k,E,W,rfl⟩
  ·exact h.AO
  ·obtain⟨v,O,h3⟩:=h.D8 k E;rw[W]at O;cases O;exact h3
 have aE:∀f,Df f es->D.Au f:=by
  intro f H;rcases hl with⟨_,rfl⟩|⟨k,E,_,rfl⟩
  ·exact .inr (.inl H)
  ·exact .inr (.inr ⟨_,BV E,H⟩)
 have d:∀f,({D with A4:=es}:DS).Au f->D.Au f:=by
  rintro f (H|H|H)
  ·exact aE f H
  ·exact .inr (.inl H)
  ·exact .inr (.inr H)
 refine⟨⟨hb,?_,?_,?_,?_,?_,λf f' g H aD=>h.Gc f f' g (d f H) (d f' aD)⟩,?_⟩
 ·exact Ay aA λg I=>by obtain⟨c,L⟩:=Be aA I;exact E g _ _ L (by decide)
 ·exact Ay h.AO λg I=>by obtain⟨c,L⟩:=Be h.AO I;exact E g _ _ L (by decide)
 ·exact Ay h.Aj λg I=>by obtain⟨c,L⟩:=Be h.Aj I;exact E g _ _ L (by decide)
 ·intro i hi;obtain⟨v,W,O⟩:=h.D8 i hi;exact⟨v,W,Ay O λg I=>by obtain⟨c,L⟩:=Be O I;exact E g _ _ L (by decide)⟩
 ·intro f H;obtain⟨W,O⟩:=h.BM f (d f H);refine⟨W.aH (E f _ _ W (by decide)),Ay O λg I=>by obtain⟨c,L⟩:=Be O I;exact E g _ _ L (by decide)⟩
 ·intro k E;cases E using C7.bL with
  | Af=>exact .Af
  | dir e=>
   rcases hl with⟨rfl,_⟩|⟨j,_,W,_⟩
   ·exact .AO e
   ·exact .D8 (Lv W) e
  | Ac e=>exact .AO e
  | Aj e=>exact .Aj e
  | D8 hm e=>exact .D8 hm e
  | BM H=>exact .BM (d _ H)
  | byt H e=>exact .bB (d _ H) e
def Da.cu{w w':World}{b:Nat}{D:DS}{F:Nat->FC}{Ft:Nat->Prop}(h:Da w b D F Ft)(d:w'.heap=w.heap):Da w' b D F Ft:=h.aP λk _=>by rw[d]
def A3.cu{S:Nat->Prop}{a w w':World}(h:A3 S a w)(d:w'.heap=w.heap)(H:w'.os=w.os)(E:w'.tape=w.tape)(I:w'.output=w.output):A3 S a w':=
 ⟨H.trans h.os,E.trans h.FK,I.trans h.FM,by rw[d];exact h.Ak,λk z L=>by rw[d];exact h.Ao k z L⟩
end
end Go.Proofs.YtodcnkbblippnaaGreatDoor
