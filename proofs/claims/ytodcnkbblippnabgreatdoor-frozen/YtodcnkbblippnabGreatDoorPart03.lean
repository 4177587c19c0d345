/- Part 3 of a proof: walks of the program. -/
import Derived.Deep.RegionLaw
import Derived.BigRegion
import Derived.BigQuiet
import Derived.Deep.QuietTactic
import Derived.Test.YtodcnkbblippnabGreatDoorPart02
namespace Go.Proofs.YtodcnkbblippnabGreatDoor
set_option maxRecDepth 100000
set_option maxHeartbeats 32000000
set_option linter.defProp false
open Go.Proofs.Tryz
section
open Go.RowKit
attribute [local go_sem ↓] Go.wp_at_zero Go.wp_at_succ
def Xy(w:World)(b:Nat)(D:DS)(F:Nat->FC)(Ft:Nat->Prop)(h:D6 w b D F Ft)(name:ByteArray)(p n:Int):
 Ah 168 #[A5 b,.string name,A0 p,A0 n] w (Am (.tuple #[.string ⟨(EU D F name p n).1.toArray⟩,A0 (EU D F name p n).2]) λw'=>w=w'):=by
 obtain⟨vd,vs,vc,vals,VB,hr,hft⟩:=h;have c0:=hr.Ag.c0;have hd:=A1 hr.A4;obtain⟨a,cap,rfl,hc1,aK,O⟩:=hr.A4.Cf;unfold maxLen at aK;rcases IH D.A4 name with⟨h1,h2⟩|⟨k,hk,h1,h2,h3⟩
 ·have q:Hid (EU D F name p n=([],8)):=by unfold Hid EU;rw[h2]
  have hfi:B2 D.A4 name<0:=by omega
  go_enter func168,ntmps168
  go_wp2_with (go_at_call 24;refine(Dt _ _ _ _ hd.o).mono ?_;rintro e w'⟨rfl,rfl⟩);go_ret2;rw[q.o];exact⟨rfl,rfl⟩
 ·obtain⟨aB,z⟩:=hr.cf k hk;obtain⟨a',E,hv,aH,aM⟩:=z.Cf;unfold maxLen at aM;rw[hv]at aB z;have aI:=aB.c0;have W:=A1 z;obtain⟨g,rfl,hn,hp⟩:=O k hk;have aF:=A1 h1;have aN:=A1 h2;obtain⟨bs,z⟩:∃bs,(F (D.A4[k]'hk).2).1=bs:=⟨_,rfl⟩;have aO:=A1 z;rw[z]at aI aH W;have hlen:(bs.length:Int)<=9223372036854775807:=by omega
  have q:Hid (EU D F name p n=if p<0\/n<0\/p>bs.length\/n>bs.length-p then ([],9) else ((bs.drop p.toNat).take n.toNat,0)):=by
   unfold Hid EU;rw[aN.o];dsimp only;rw[aO.o]
  by_cases aG:0<=p/\0<=n/\p<=bs.length/\n<=bs.length-p
  ·obtain⟨o1,o2,o3,o4⟩:=aG;obtain⟨d,rfl⟩:=Lk o1;obtain⟨H,rfl⟩:=Lk o2;have q2:Hid (EU D F name d H=((bs.drop d).take H,0)):=by
    unfold Hid;rw[q.o,Ac (by omega)];simp
   (have o5:d<=bs.length:=by omega);(have o6:H<=bs.length-d:=by omega);obtain⟨_,_,he,_,_,_,Y,I⟩:=B9 W.o;cases he;by_cases aE:E=d
   ·(have aL:H=0:=by omega);subst aL;have cv:∀(x:Option Addr) (c:Nat),(convert 66 9 (.slice x 0 c)).run Tryz.prog w=.ok (.string ⟨#[]⟩) w:=by
     intro x c;cases x with
     | none=>
      rw[run_convert_bytes_string (P:=Tryz.prog) w 66 9 5 none 0 c underlying66 underlying5 underlying9];rfl
     | some ad=>exact Np (P:=Tryz.prog) w 66 9 5 ad c [] underlying66 underlying5 underlying9 (by simp)
    subst aE
    go_enter func168,ntmps168
    go_wp2_with (go_at_call 24;refine(Dt _ _ _ _ hd.o).mono ?_;rintro e w'⟨rfl,rfl⟩;rw[aF.o]);go_ret2;rw[q2.o];exact⟨by simp,rfl⟩
   ·obtain⟨L,aJ⟩:∃L,a'=some (Ab L 0):=by
     cases ha:a' with
     | none=>have:=(Y ha).2;omega
     | some ad=>obtain⟨g',rfl⟩:=I ad ha;exact⟨g',rfl⟩
    subst aJ;have cv:(convert 66 9 (.slice (some (Ab L d)) H (E-d))).run Tryz.prog w=.ok (.string ⟨((bs.drop d).take H).toArray⟩) w:=by
     (have hl:((bs.drop d).take H).length=H:=by simp;omega)
     have:=Np (P:=Tryz.prog) w 66 9 5 (Ab L d) (E-d) ((bs.drop d).take H) underlying66 underlying5 underlying9 (by
      intro j hj;(have aD:d+j<bs.length:=by simp at hj;omega);(have aA:((Ab L d):Addr).add j=(Ab L (d+j)):=by unfold Addr.add;split<;>simp_all);rw[aA];have:=BF W.o (g:=L) rfl (j:=d+j) (u:=.int .u8 (bs[d+j]'aD).toNat) (by simp[DX,List.getElem?_eq_getElem aD])
      simpa using this)
     rw[hl]at this;exact this
    go_enter func168,ntmps168
    go_wp2_with (go_at_call 24;refine(Dt _ _ _ _ hd.o).mono ?_;rintro e w'⟨rfl,rfl⟩;rw[aF.o]);go_ret2;rw[q2.o];exact⟨rfl,rfl⟩
  ·have q2:Hid (EU D F name p n=([],9)):=by
    unfold Hid;rw[q.o,Af (by omega)]
   go_enter func168,ntmps168
   go_wp2_with (go_at_call 24;refine(Dt _ _ _ _ hd.o).mono ?_;rintro e w'⟨rfl,rfl⟩;rw[aF.o])
   all_goals (go_ret2;rw[q2.o];exact⟨rfl,rfl⟩)
def BY.b4{w w':World}{b:Nat}{D:DS}{F:Nat->FC}{vd vs vc:Value}{L:List Value}{aA:Nat->Value}{S:Nat->Prop}(h:BY w b D F vd vs vc L aA){f:Nat}(hf:D.Aq f){vb':Value}{bs':List UInt8}{s':Int}(h1:CW w' f vb' s')(h2:Fz w' vb' bs')(hc:A3 S w w')(hS:∀k,S k->k=f\/(aA f).ownBlock=some k)(hv:∀g,vb'.ownBlock=some g->(aA f).ownBlock=some g\/w.heap.size<=g):
 BY w' b D (upd F f (bs',s')) vd vs vc L (λx=>if x=f then vb' else aA x):=by
 obtain⟨aD,aB⟩:=h.BI f hf;have H:∀(k:Nat) (c:Array Value) (e:Nat),w.heap[k]?=some (Obj.cells c e (0,0))->e≠68->e≠5->w'.heap[k]?=w.heap[k]?:=λk c e H Y aF=>
  hc.Al k (Bw H) (λd=>by
   rcases hS k d with d|d
   ·exact BR H aD Y d
   ·obtain⟨c',z⟩:=Bd aB d
    exact BR H z aF rfl)
 refine⟨?_,?_,?_,?_,?_,?_,?_⟩
 ·have:=h.Ag;unfold AK at this ⊢;rw[H b _ _ this (by decide) (by decide)];exact this
 ·exact Ay h.A4 λg E=>by obtain⟨c,z⟩:=Bd h.A4 E;exact H g _ _ z (by decide) (by decide)
 ·exact Ay h.AM λg E=>by obtain⟨c,z⟩:=Bd h.AM E;exact H g _ _ z (by decide) (by decide)
 ·exact Ay h.An λg E=>by obtain⟨c,z⟩:=Bd h.An E;exact H g _ _ z (by decide) (by decide)
 ·intro i hi;obtain⟨v,h1,h2⟩:=h.D5 i hi;exact⟨v,h1,Ay h2 λg E=>by obtain⟨c,z⟩:=Bd h2 E;exact H g _ _ z (by decide) (by decide)⟩
 ·intro f2 I;by_cases Y:f2=f
  ·subst Y;simp only[upd,Cg];exact⟨h1,h2⟩
  ·obtain⟨g1,g2⟩:=h.BI f2 I;simp only[upd,Y,C4];refine⟨g1.aI (hc.Al f2 (Bw g1) (λd=>?_)),Ay g2 λg E=>hc.Al g (Az g2 E) (λd=>?_)⟩
   ·rcases hS _ d with d|d
    ·exact Y d
    ·obtain⟨c',z⟩:=Bd aB d;exact BR g1 z (by decide) rfl
   ·rcases hS _ d with d|d
    ·obtain⟨c',z⟩:=Bd g2 E;exact BR z aD (by decide) d
    ·exact Y (h.G7 f2 f g I hf E d)
 ·have key:∀f2 g,D.Aq f2->f2≠f->(aA f2).ownBlock=some g->vb'.ownBlock=some g->False:=by
   intro f2 g h3 aE h4 h5;rcases hv g h5 with h6|h6
   ·exact aE (h.G7 f2 f g h3 hf h4 h6)
   ·have:=Az (h.BI f2 h3).2 h4;omega
  intro f1 f2 g k1 k2 W O;by_cases a1:f1=f<;>by_cases a2:f2=f
  ·rw[a1,a2]
  ·simp only[a1,Cg]at W;simp only[a2,C4]at O;exact(key f2 g k2 a2 O W).elim
  ·simp only[a2,Cg]at O;simp only[a1,C4]at W;exact(key f1 g k1 a1 W O).elim
  ·simp only[a1,C4]at W;simp only[a2,C4]at O;exact h.G7 f1 f2 g k1 k2 W O
def C6.b4{b:Nat}{D:DS}{L H E:Value}{d:List Value}{z:Nat->Value}{f:Nat}{vb':Value}{N:Nat}(O:D.Aq f)(W:∀g,vb'.ownBlock=some g->(z f).ownBlock=some g\/N<=g){k:Nat}(h:C6 b D L H E d (λx=>if x=f then vb' else z x) k):C6 b D L H E d z k\/N<=k:=by
 cases h using C6.bK with
 | Ag=>exact .inl .Ag
 | dir e=>exact .inl (.A4 e)
 | Ad e=>exact .inl (.AM e)
 | An e=>exact .inl (.An e)
 | D5 h e=>exact .inl (.D5 h e)
 | BI h=>exact .inl (.BI h)
 | byt h e=>
  rename_i f2;by_cases I:f2=f
  ·simp only[I,Cg]at e;rcases W k e with h|h
   ·exact .inl (.bA O h)
   ·exact .inr h
  ·simp only[I,C4]at e;exact .inl (.bA h e)
def BY.Cy{w:World}{b:Nat}{D:DS}{F:Nat->FC}{I O vc:Value}{z:List Value}{H:Nat->Value}(h:BY w b D F I O vc z H)(k:Nat)(E:k<D.A4.length):
 ∃g cap a' d,I=.slice (some ⟨g,0,none⟩) D.A4.length cap/\H (D.A4[k]'E).2=.slice a' (F (D.A4[k]'E).2).1.length d/\D.A4.length<=cap/\cap<=maxLen/\(F (D.A4[k]'E).2).1.length<=d/\d<=maxLen:=by
 obtain⟨a,cap,hv,Y,L,hc⟩:=h.A4.Cf;obtain⟨g,rfl,_,_⟩:=hc k E;obtain⟨a',d,h3,W,h5⟩:=(h.cf k E).2.Cf;exact⟨g,cap,a',d,hv,h3,Y,L,W,h5⟩
structure PC (w:World) (b:Nat) (g k f n cap l cap':Nat) (a':Option Addr) (name:ByteArray) (Ad:Int):Prop where
 d:A6 w b 0 (AJ g n cap)
 n:A6 w g (k*2) (.string name)
 p:A6 w g (k*2+1) (A5 f)
 f0:A6 w f 0 (.slice a' l cap')
 f1:A6 w f 1 (A0 Ad)
 fz:∀o,w.frozen? (Ab f o)=false
 gf:¬g=f
 fg:¬f=g
 gb:¬g=b
 bg:¬b=g
 fb:¬f=b
 bf:¬b=f
def BY.ds{w:World}{b:Nat}{D:DS}{F:Nat->FC}{O Y vc:Value}{H:List Value}{L:Nat->Value}(h:BY w b D F O Y vc H L)(k:Nat)(d:k<D.A4.length){g cap z:Nat}{a':Option Addr}(h1:O=AJ g D.A4.length cap)(W:L (D.A4[k]'d).2=.slice a' (F (D.A4[k]'d).2).1.length z):
 PC w b g k (D.A4[k]'d).2 D.A4.length cap (F (D.A4[k]'d).2).1.length z a' (D.A4[k]'d).1 (F (D.A4[k]'d).2).2:=by
 subst h1;obtain⟨E,hb⟩:=h.cf k d;rw[W]at E;obtain⟨c,I⟩:=Bd h.A4 (g:=g) rfl
 exact⟨h.Ag.c0,BF h.A4 rfl (OD _ k d),BF h.A4 rfl (OB _ k d),E.c0,E.c1,E.fz,λe=>BR I E (by decide) e,λe=>BR I E (by decide) e.symm,
  λe=>BR I h.Ag (by decide) e,λe=>BR I h.Ag (by decide) e.symm,λe=>BR E h.Ag (by decide) e,λe=>BR E h.Ag (by decide) e.symm⟩
def Cw(D:DS)(F:Nat->FC)(name:ByteArray):Int×DS×(Nat->FC):=match lookup D.A4 name with
 | none=>(8,D,F)
 | some f=>((bg D.n).2.1,{D with n:=(bg D.n).2.2},if (bg D.n).2.1=0 then upd F f ((F f).1,(F f).1.length) else F)
def VL(w:World)(b:Nat)(D:DS)(F:Nat->FC)(Ft:Nat->Prop)(h:D6 w b D F Ft)(name:ByteArray):
 Ah 115 #[A5 b,.string name] w (Am (A0 (Cw D F name).1) λw'=>Dm w Ft w' b (Cw D F name).2.1 (Cw D F name).2.2):=by
 obtain⟨vd,vs,vc,vals,aJ,hr,Y⟩:=h;have c0:=hr.Ag.c0;have hd:=A1 hr.A4;have aE:=A1 hr.Ag;have aH:=A1 hr;rcases IH D.A4 name with⟨h1,h2⟩|⟨k,z,h1,h2,h3⟩
 ·have q:Hid (Cw D F name=(8,D,F)):=by unfold Hid Cw;rw[h2]
  have hfi:B2 D.A4 name<0:=by omega
  go_enter func115,ntmps115
  go_wp2_with (go_at_call 24;refine(Dt _ _ _ _ hd.o).mono ?_;rintro e w'⟨rfl,rfl⟩);go_ret;rw[q.o];exact⟨rfl,Dm.bx (A3.I _ _) aH.o λk z=>.inl (Y k z)⟩
 ·have q:Hid (Cw D F name=((bg D.n).2.1,{D with n:=(bg D.n).2.2},if (bg D.n).2.1=0 then upd F (D.A4[k]'z).2 ((F (D.A4[k]'z).2).1,(F (D.A4[k]'z).2).1.length) else F)):=by unfold Hid Cw;rw[h2]
  have aK:=A1 h1;by_cases L:(bg D.n).2.1=0
  ·(have aD:((bg D.n).2.1==0)=true:=by simpa using L);have O:=A1 <| L;clear L;have hk0:=Ce k;(have hk1:(k:Int)<(D.A4.length:Int):=by omega);obtain⟨g,cap,a',aA,rfl,hv,z1,z2,z3,z4⟩:=aH.o.Cy k z;have aI:=A1 hv;unfold maxLen at z2 z4;clear hv;obtain⟨f,hf⟩:∃f,(D.A4[k]'z).2=f:=⟨_,rfl⟩;have I:Hid (D.Aq f):=.inl ⟨_,BV z,hf⟩
   have fin:Hid (∀w1,AK w1 b (AJ g D.A4.length cap) vs vc (bg D.n).2.2->A3 (One b) w w1->PC w1 b g k f D.A4.length cap (F f).1.length aA a' (D.A4[k]'z).1 (F f).2/\
    Dm w Ft (w1.sC f 1 (A0 (F f).1.length)).drew b {D with n:=(bg D.n).2.2} (upd F f ((F f).1,(F f).1.length))):=by
    intro w1 W H;have r1:=aH.o.ag W H;subst hf;refine⟨r1.ds k z rfl aI.o,?_⟩;obtain⟨aG,aF⟩:=r1.cf k z;have r2:=r1.b4 (S:=One (D.A4[k]'z).2) (w':=(w1.sC ((D.A4[k]'z).2) 1 (A0 (F (D.A4[k]'z).2).1.length)).drew) (f:=(D.A4[k]'z).2) I.o (vb':=aJ (D.A4[k]'z).2) (bs':=(F (D.A4[k]'z).2).1) (s':=(F (D.A4[k]'z).2).1.length)
     (aG.s1 _) (by
      refine NO aF (a:=(Ab ((D.A4[k]'z).2) 1)) ?_ _;intro e;obtain⟨c,hh⟩:=Bd aF e
      exact BR hh aG (by decide) rfl) (((A3.I (One _) w1).aq rfl 1 _).af) (λk z=>.inl z) (λg hg=>.inl hg)
    refine Dm.bx ?_ r2 ?_
    ·exact((H.ad (S':=Ft) λk _ z=>by cases z;exact Y b .Ag).aq (Y _ (.BI I.o)) 1 _).af
    ·intro x hx;rcases C6.b4 (N:=w.heap.size) (vb':=aJ (D.A4[k]'z).2) (f:=(D.A4[k]'z).2) I.o (λg hg=>.inl hg) hx.n with h|h
     ·exact .inl (Y x h)
     ·exact .inr h
   rw[hf]at q;clear hf aI
   go_enter func115,ntmps115
   go_wp2_with (first
    | (go_at_call 24;refine(Dt _ _ _ _ hd.o).mono ?_;rintro e w'⟨rfl,rfl⟩;rw[aK.o])
    | (go_at_call 25;refine(GH _ _ _ _ _ _ aE.o).mono ?_;rintro e w1⟨rfl,W,H⟩))
   obtain⟨E,aB⟩:=fin.o w1 W H;have aL:=A1 aB;have x1:=E.d;have x2:=E.p;have x3:=E.f0;have x4:=E.f1;have x5:=E.fz;have x7:=E.fg;clear aB E;go_region_held3 (λw'=>w'.cell? ⟨b,0,none⟩=some (.slice (some ⟨g,0,none⟩) D.A4.length cap)/\w'.cell? ⟨g,k*2+1,none⟩=some (.pointer (some ⟨f,0,none⟩))/\w'.cell? ⟨f,0,none⟩=some (.slice a' (F f).1.length aA)) (refine⟨?_,?_,?_⟩<;>go_simp) (fail);go_wp2;go_ret;rw[q.o,Af O.o];exact⟨rfl,aL.o⟩
  ·(have aD:((bg D.n).2.1==0)=false:=by simpa using L);have O:=A1 <| L
   go_enter func115,ntmps115
   go_wp2_with (first
    | (go_at_call 24;refine(Dt _ _ _ _ hd.o).mono ?_;rintro e w'⟨rfl,rfl⟩;rw[aK.o])
    | (go_at_call 25;refine(GH _ _ _ _ _ _ aE.o).mono ?_;rintro e w1⟨rfl,W,H⟩))
   go_ret;rw[q.o,Ac O.o];exact⟨rfl,aH.o.bO Y W H⟩
def BY.af{w:World}{b:Nat}{D:DS}{F:Nat->FC}{I E z:Value}{d:List Value}{H:Nat->Value}(h:BY w b D F I E z d H):BY w.drew b D F I E z d H:=
 ⟨h.Ag,h.A4,h.AM,h.An,h.D5,h.BI,h.G7⟩
def D6.af{w:World}{b:Nat}{D:DS}{F:Nat->FC}{Ft:Nat->Prop}(h:D6 w b D F Ft):D6 w.drew b D F Ft:=by
 obtain⟨O,H,E,d,L,I,z⟩:=h;exact⟨O,H,E,d,L,I.af,z⟩
def A1U(s:ByteArray):byteCells s=DX s.data.toList:=rfl
def LY(s:ByteArray)(m:Nat):(s.extract 0 m).data.toList=s.data.toList.take m:=by
 simp[ByteArray.data_extract]
def FL(D:DS)(F:Nat->FC):Int:=max (D.n.AB-B4 F D.A4) 0
def By(D:DS)(F:Nat->FC)(f:Nat)(data:ByteArray)(d:Int)(e:Int):Int×DS×(Nat->FC):=
 if d>FL D F then
  (if e=0 then 6 else e,if e=0 then {D with n:={D.n with B5:=wrap64 (D.n.B5+1),fulls:=wrap64 (D.n.fulls+1)}} else D,upd F f ((F f).1++data.data.toList.take (FL D F).toNat,(F f).2))
 else (e,D,upd F f ((F f).1++data.data.toList.take d.toNat,(F f).2))
def Bl(D:DS)(F:Nat->FC)(name data:ByteArray):Int×DS×(Nat->FC):=match lookup D.A4 name with
 | none=>(8,D,F)
 | some f=>
  let r:=bg D.n
  let D1:={D with n:=r.2.2}
  if r.1 then By D1 F f data data.size r.2.1
  else if r.2.2.AS=false/\0<data.size then By D1 F f data (r.2.2.Bq % data.size) r.2.1
  else (r.2.1,D1,F)
def A2p{w w2 W Y:World}{b:Nat}{D:DS}{F:Nat->FC}{vd vs vc v3:Value}{z:List Value}{L:Nat->Value}{Ft:Nat->Prop}{f:Nat}{n2:DN}{news:List UInt8}(hc:A3 Ft w w2)(h2:BY w2 b D F vd vs vc z L)(d:∀k,C6 b D vd vs vc z L k->Ft k)(hf:D.Aq f)(hW:AK W b vd vs vc n2)(H:A3 (One b) w2 W)(hA:App W Y 5 1 (L f) v3 ((F f).1.length+news.length) (DX (F f).1++DX news)):
 CW Y f (L f) (F f).2/\Dm w Ft (Y.setCell ⟨f,0,none⟩ v3) b {D with n:=n2} (upd F f ((F f).1++news,(F f).2)):=by
 have rW:=h2.ag hW H;obtain⟨I,aD⟩:=rW.BI f hf
 have E:=I.aI (hA.Ct.block f (Bw I) (λe=>by
  obtain⟨c,hh⟩:=Bd aD e.symm
  exact BR hh I (by decide) rfl))
 refine⟨E,?_⟩;have O:Fz Y v3 ((F f).1++news):=by
  have:=hA.AF;unfold Fz;rw[A1T,AZ];exact this
 have aA:Fz (Y.setCell ⟨f,0,none⟩ v3) v3 ((F f).1++news):=by
  refine NO O (a:=⟨f,0,none⟩) ?_ _;intro e;obtain⟨c,hh⟩:=Bd O e;exact BR hh E (by decide) rfl
 have aB:=(hA.An (S:=λk=>k=f\/(L f).ownBlock=some k) (λk hk=>.inr hk)).aq (.inl rfl) 0 v3;have hv:∀g,v3.ownBlock=some g->(L f).ownBlock=some g\/W.heap.size<=g:=by
  intro g hg;rcases hA.Cy with h|h
  ·exact .inl (h.symm.trans hg)
  ·rw[hg]at h;cases h;exact .inr (Au _)
 have r3:=rW.b4 hf (E.s0 v3) aA aB (λk hk=>hk) hv;have s1:=hc.Ak;have s2:=H.Ak;refine Dm.bx ?_ r3 ?_
 ·refine(hc.Av H (S':=One b) λx hx _=>by cases hx;exact d b .Ag).Av aB ?_;rintro x (rfl|hx) _
  ·exact d _ (.BI hf)
  ·exact d _ (.bA hf hx)
 ·intro x hx;rcases C6.b4 (N:=w.heap.size) (vb':=v3) (f:=f) hf (λg hg=>(hv g hg).imp id λh=>by omega) hx.n with h|h
  ·exact .inl (d x h)
  ·exact .inr h
def A2r(w:World)(b:Nat)(D:DS)(F:Nat->FC)(Ft:Nat->Prop)(h:D6 w b D F Ft)(name data:ByteArray)(hroom : -4611686018427387904<=D.n.AB/\D.n.AB<=9223372036854775807)(hu:B4 F D.A4<=4611686018427387904)(hp:0<=D.n.Bq/\D.n.Bq<=9223372036854775807)(hl:∀f,lookup D.A4 name=some f->(F f).1.length+data.size<=70368744177664):
 Ah 8 #[A5 b,.string name,.string data] w (Am (A0 (Bl D F name data).1) λw'=>Dm w Ft w' b (Bl D F name data).2.1 (Bl D F name data).2.2):=by
 obtain⟨vd,vs,vc,aO,bM,hr,a2⟩:=h;have c0:=hr.Ag.c0;have hd:=A1 hr.A4;have aN:=A1 hr.Ag;have bV:=A1 hr;rcases IH D.A4 name with⟨h1,h2⟩|⟨k,hk,h1,h2,h3⟩
 ·have q:Hid (Bl D F name data=(8,D,F)):=by unfold Hid Bl;rw[h2]
  have hfi:B2 D.A4 name<0:=by omega
  go_enter func8,ntmps8
  go_wp2_with (go_at_call 24;refine(Dt _ _ _ _ hd.o).mono ?_;rintro e w'⟨rfl,rfl⟩);go_ret;rw[q.o];exact⟨rfl,Dm.bx (A3.I _ _) bV.o λk hk=>.inl (a2 k hk)⟩
 ·obtain⟨g,cap,a',aE,rfl,hv,z1,z2,z3,z4⟩:=hr.Cy k hk;generalize hf:(D.A4[k]'hk).2=f at hv h2 z3;have hl1:=hl f h2;have bO:=A1 hv;unfold maxLen at z2 z4;have a3:Hid (D.Aq f):=.inl ⟨_,BV hk,hf⟩;have a6:=A1 h1;have H2:=A1 h2;have bD:=A1 hu;have bB:=A1 a2;obtain⟨i0,hi,aR,aT,aS⟩:=E4 Tryz.infoByte;have hk0:=Ce k;have hk1:(k:Int)<(D.A4.length:Int):=by omega
  have bC:Hid (∀w1,AK w1 b (AJ g D.A4.length cap) vs vc (bg D.n).2.2->A3 (One b) w w1->
   BY w1 b {D with n:=(bg D.n).2.2} F (AJ g D.A4.length cap) vs vc aO bM/\D6 w1 b {D with n:=(bg D.n).2.2} F Ft):=by
   intro w1 z Y;have r1:=hr.ag z Y;exact⟨r1,_,_,_,_,_,r1,λk hk=>a2 k hk.n⟩
  have A2:Hid (∀w1 O,AK w1 b (AJ g D.A4.length cap) vs vc (bg D.n).2.2->A3 (One b) w w1->A3 Aa w1.drew O->
   BY O b {D with n:=(bg D.n).2.2} F (AJ g D.A4.length cap) vs vc aO bM/\A3 Ft w O/\PC O b g k f D.A4.length cap (F f).1.length aE a' (D.A4[k]'hk).1 (F f).2/\AK O b (AJ g D.A4.length cap) vs vc (bg D.n).2.2):=by
   intro w1 O z Y aB;have r1:=(hr.ag z Y).af;have r2:=r1.aP λx hx=>aB.Al x (r1.lt hx) (λh=>h);refine⟨r2,?_,?_,r2.Ag⟩
   ·exact((Y.ad (S':=Ft) λk _ hk=>by cases hk;exact a2 b .Ag).af).Av aB (λx hx=>hx.elim)
   ·subst hf;exact r2.ds k hk rfl bO.o
  have a4:Hid (-4611686018427387904<=(bg D.n).2.2.AB/\(bg D.n).2.2.AB<=9223372036854775807/\0<=(bg D.n).2.2.Bq/\(bg D.n).2.2.Bq<=9223372036854775807):=by
   unfold Hid bg;dsimp only;split
   ·exact⟨hroom.1,hroom.2,hp.1,hp.2⟩
   ·split
    ·exact⟨hroom.1,hroom.2,hp.1,hp.2⟩
    ·split<;>exact⟨hroom.1,hroom.2,hp.1,hp.2⟩
  have q:Hid (Bl D F name data=(let r:=bg D.n
   let D1:={D with n:=r.2.2}
   if r.1 then By D1 F f data data.size r.2.1
   else if r.2.2.AS=false/\0<data.size then By D1 F f data (r.2.2.Bq % data.size) r.2.1
   else (r.2.1,D1,F))):=by unfold Hid Bl;rw[h2]
  obtain⟨I,bE⟩:∃I,(bg D.n).2.2=I:=⟨_,rfl⟩;obtain⟨e1,bQ⟩:∃e1,(bg D.n).2.1=e1:=⟨_,rfl⟩;obtain⟨d1,bU⟩:∃d1,(bg D.n).1=d1:=⟨_,rfl⟩;have bA:Hid (bg D.n=(d1,e1,I)):=by unfold Hid;rw[<-bE,<-bQ,<-bU]
  rw[bE]at bC A2 a4;have a7:Hid (∀(W:World),AK W b (AJ g D.A4.length cap) vs vc D.n->Ah 25 #[A5 b] W (Am (.tuple #[.bool d1,A0 e1]) λw'=>AK w' b (AJ g D.A4.length cap) vs vc I/\A3 (One b) W w')):=by
   intro W hW;have:=GH W b _ _ _ _ hW;rw[bA.o]at this;exact this
  rw[bA.o]at q;obtain⟨r1,r2,r3,r4⟩:=a4.o;have hun:(0:Int)<=B4 F D.A4:=Gi _;have hul:(B4 F D.A4:Int)<=4611686018427387904:=by have:=bD.o;omega
  have hw:IntKind.i64.wrap (I.AB-(B4 F D.A4:Int))=I.AB-(B4 F D.A4:Int):=by simp only[J6];omega
  obtain⟨L,hL⟩:∃L,(if I.AB-(B4 F D.A4:Int)<0 then 0 else I.AB-(B4 F D.A4:Int))=L:=⟨_,rfl⟩;have bR:0<=L:=by rw[<-hL];split<;>omega
  have hLm:L<=9223372036854775807:=by rw[<-hL];split<;>omega
  have aQ:Hid (FL {D with n:=I} F=L):=by unfold Hid FL;show max (I.AB-(B4 F D.A4:Int)) 0=L;rw[<-hL];split<;>omega
  have bJ:Hid (∀(O W:World) (n2:DN),BY O b {D with n:=I} F (AJ g D.A4.length cap) vs vc aO bM->AK W b (AJ g D.A4.length cap) vs vc n2->A3 (One b) O W->W.ownsRow 0 5 1 (.slice a' (F f).1.length aE) (F f).1.length (DX (F f).1)):=by
   intro O W n2 h2 hW hc;have:=((h2.ag hW hc).BI f a3.o).2;rw[bO.o]at this;exact this
  have bL:Hid (∀(O W w3:World) (n2:DN) (s:ByteArray) (b3:Option Addr) (aA:Nat),BY O b {D with n:=I} F (AJ g D.A4.length cap) vs vc aO bM->A3 Ft w O->AK W b (AJ g D.A4.length cap) vs vc n2->A3 (One b) O W->
   App W w3 5 1 (.slice a' (F f).1.length aE) (.slice b3 ((F f).1.length+s.size) aA) ((F f).1.length+s.size) (DX (F f).1++byteCells s)->
   CW w3 f (.slice a' (F f).1.length aE) (F f).2/\Dm w Ft (w3.sC f 0 (.slice b3 ((F f).1.length+s.size) aA)) b {D with n:=n2} (upd F f ((F f).1++s.data.toList,(F f).2))):=by
   intro O W w3 n2 s b3 aA h2 hc hW bT hA;have:=A2p (n2:=n2) (f:=f) (v3:=.slice b3 ((F f).1.length+s.size) aA) (news:=s.data.toList) hc h2 (λk hk=>bB.o k hk.n) a3.o hW bT (by rw[bO.o];simpa[A1U] using hA);rw[bO.o]at this;exact this
  obtain⟨l,rfl⟩:=Lk bR;have BE:(if e1=0 then True else True):=by split<;>trivial
  cases d1 with
  | true=>
   by_cases a1:(l:Int)<(data.size:Int)
   ·by_cases he:e1=0
    ·(have bH:(e1==0)=true:=by simpa using he);have aM:=A1 he;(have a5:l<=data.size:=by omega);(have aI:(data.extract 0 l).size=l:=by simp;omega)
     go_enter func8,ntmps8
     go_wp2_with (first
      | (go_at_call 24;refine(Dt _ _ _ _ hd.o).mono ?_;rintro e w'⟨rfl,rfl⟩;rw[a6.o])
      | (go_at_call 25;refine(a7.o _ aN.o).mono ?_;rintro e w1⟨rfl,z,Y⟩))
     obtain⟨bN,aY⟩:=bC.o w1 z Y;have aL:=A1 aY;have aU:=z.c3;go_region_held3 (λw'=>w'.cell? ⟨b,3,none⟩=some (A0 I.AB)) (first|exact(AK.An (w:=w1.drew) z aB (λh=>h)).c3|go_simp) ((go_at_call 27;refine(K8 _ b _ F Ft aL.o.af bD.o).mono ?_;rintro e O⟨rfl,aB⟩));obtain⟨aV,aX,aD,aP⟩:=A2.o w1 O z Y aB;have aG:=A1 aV;have aK:=A1 aX;have aF:=A1 aP;have x1:=aD.d;have x2:=aD.p;have x3:=aD.f0;have x8:=aD.gb;have x9:=aD.bf;have aZ:=aD.fb;have y8:=aP.c8;have y9:=aP.c9;have yz:=aP.fz;go_wp2;have aH:=A1 (bJ.o O ((O.sC b 8 (A0 (wrap64 (I.B5+1)))).sC b 9 (A0 (wrap64 (I.fulls+1)))).drew {I with B5:=wrap64 (I.B5+1),fulls:=wrap64 (I.fulls+1)} aG.o ((aF.o.s8 _).s9 _) ((((A3.I (One b) O).aq rfl 8 _).aq rfl 9 _).af));(have aJ:((F f).1.length+(data.extract 0 l).size)*1<=140737488355328:=by rw[aI];omega);go_region_law
      ((refine Jc ?_ (.tmp 90) (.tmp 93) 66 9 ?_ 5 i0 _ 1 1 underlying66 hi aR aT aS rfl Mt (.slice a' (F f).1.length aE) (F f).1.length (DX (F f).1) ?_ aH.o (.string (data.extract 0 l)) (data.extract 0 l).size (byteCells (data.extract 0 l)) ?_ (Mq _ underlying9 (data.extract 0 l)) aJ ?_;(· rfl);(· rfl);(· rfl);(· rfl);intro b3 aA w3 hA;have E:=A1 (bL.o O ((O.sC b 8 (A0 (wrap64 (I.B5+1)))).sC b 9 (A0 (wrap64 (I.fulls+1)))).drew w3 {I with B5:=wrap64 (I.B5+1),fulls:=wrap64 (I.fulls+1)} (data.extract 0 l) b3 aA aG.o aK.o ((aF.o.s8 _).s9 _) ((((A3.I (One b) O).aq rfl 8 _).aq rfl 9 _).af) hA);have aW:=E.o.1.fz;have a0:=E.o.1.c0))
     go_wp2;go_ret;have q1:=q.o;have q2:By {D with n:=I} F f data (data.size:Int) e1=(6,{D with n:={I with B5:=wrap64 (I.B5+1),fulls:=wrap64 (I.fulls+1)}},upd F f ((F f).1++data.data.toList.take l,(F f).2)):=by
      unfold By;rw[aQ.o,Af a1,Af aM.o,Af aM.o,En]
     have H:=E.o.2;rw[LY,aI]at H;rw[q1,q2];exact⟨rfl,H⟩
    ·(have bH:(e1==0)=false:=by simpa using he);have aM:=A1 he;(have a5:l<=data.size:=by omega);(have aI:(data.extract 0 l).size=l:=by simp;omega)
     go_enter func8,ntmps8
     go_wp2_with (first
      | (go_at_call 24;refine(Dt _ _ _ _ hd.o).mono ?_;rintro e w'⟨rfl,rfl⟩;rw[a6.o])
      | (go_at_call 25;refine(a7.o _ aN.o).mono ?_;rintro e w1⟨rfl,z,Y⟩))
     obtain⟨bN,aY⟩:=bC.o w1 z Y;have aL:=A1 aY;have aU:=z.c3;go_region_held3 (λw'=>w'.cell? ⟨b,3,none⟩=some (A0 I.AB)) (first|exact(AK.An (w:=w1.drew) z aB (λh=>h)).c3|go_simp) ((go_at_call 27;refine(K8 _ b _ F Ft aL.o.af bD.o).mono ?_;rintro e O⟨rfl,aB⟩));obtain⟨aV,aX,aD,aP⟩:=A2.o w1 O z Y aB;have aG:=A1 aV;have aK:=A1 aX;have aF:=A1 aP;have x1:=aD.d;have x2:=aD.p;have x3:=aD.f0;have x8:=aD.gb;have x9:=aD.bf;have aZ:=aD.fb;go_wp2;have aH:=A1 (bJ.o O O.drew I aG.o aF.o ((A3.I (One b) O).af));(have aJ:((F f).1.length+(data.extract 0 l).size)*1<=140737488355328:=by rw[aI];omega);go_region_law
      ((refine Jc ?_ (.tmp 90) (.tmp 93) 66 9 ?_ 5 i0 _ 1 1 underlying66 hi aR aT aS rfl Mt (.slice a' (F f).1.length aE) (F f).1.length (DX (F f).1) ?_ aH.o (.string (data.extract 0 l)) (data.extract 0 l).size (byteCells (data.extract 0 l)) ?_ (Mq _ underlying9 (data.extract 0 l)) aJ ?_;(· rfl);(· rfl);(· rfl);(· rfl);intro b3 aA w3 hA;have E:=A1 (bL.o O O.drew w3 I (data.extract 0 l) b3 aA aG.o aK.o aF.o ((A3.I (One b) O).af) hA);have aW:=E.o.1.fz;have a0:=E.o.1.c0))
     go_wp2;go_ret;have q1:=q.o;have q2:By {D with n:=I} F f data (data.size:Int) e1=(e1,{D with n:=I},upd F f ((F f).1++data.data.toList.take l,(F f).2)):=by
      unfold By;rw[aQ.o,Af a1,Ac aM.o,Ac aM.o,En]
     have H:=E.o.2;rw[LY,aI]at H;rw[q1,q2];exact⟨rfl,H⟩
   ·(have bG:(data.size:Int)<=l:=by omega)
    go_enter func8,ntmps8
    go_wp2_with (first
     | (go_at_call 24;refine(Dt _ _ _ _ hd.o).mono ?_;rintro e w'⟨rfl,rfl⟩;rw[a6.o])
     | (go_at_call 25;refine(a7.o _ aN.o).mono ?_;rintro e w1⟨rfl,z,Y⟩))
    obtain⟨bN,aY⟩:=bC.o w1 z Y;have aL:=A1 aY;have aU:=z.c3;go_region_held3 (λw'=>w'.cell? ⟨b,3,none⟩=some (A0 I.AB)) (first|exact(AK.An (w:=w1.drew) z aB (λh=>h)).c3|go_simp) ((go_at_call 27;refine(K8 _ b _ F Ft aL.o.af bD.o).mono ?_;rintro e O⟨rfl,aB⟩));obtain⟨aV,aX,aD,aP⟩:=A2.o w1 O z Y aB;have aG:=A1 aV;have aK:=A1 aX;have aF:=A1 aP;have x1:=aD.d;have x2:=aD.p;have x3:=aD.f0;have x8:=aD.gb;have x9:=aD.bf;have aZ:=aD.fb;go_wp2;have aH:=A1 (bJ.o O O.drew I aG.o aF.o ((A3.I (One b) O).af));(have aJ:((F f).1.length+data.size)*1<=140737488355328:=by omega);go_region_law
     ((refine Jc ?_ (.tmp 90) (.tmp 93) 66 9 ?_ 5 i0 _ 1 1 underlying66 hi aR aT aS rfl Mt (.slice a' (F f).1.length aE) (F f).1.length (DX (F f).1) ?_ aH.o (.string data) data.size (byteCells data) ?_ (Mq _ underlying9 data) aJ ?_;(· rfl);(· rfl);(· rfl);(· rfl);intro b3 aA w3 hA;have E:=A1 (bL.o O O.drew w3 I data b3 aA aG.o aK.o aF.o ((A3.I (One b) O).af) hA);have aW:=E.o.1.fz;have a0:=E.o.1.c0))
    go_wp2;go_ret;have q1:=q.o;have q2:By {D with n:=I} F f data (data.size:Int) e1=(e1,{D with n:=I},upd F f ((F f).1++data.data.toList,(F f).2)):=by
     unfold By;rw[aQ.o,Ac (by omega),En,Em (by show data.data.toList.length<=data.data.size;rw[Lm];exact Au _)]
    have H:=E.o.2;rw[q1,q2];exact⟨rfl,H⟩
  | false=>
   have bF:Hid (e1=5/\I.AS=I.AS):=by
    have:=bA.o;unfold Hid;unfold bg at this;dsimp only at this;split at this
    ·cases this;exact⟨rfl,rfl⟩
    ·split at this
     ·cases this
     ·split at this
      ·cases this;exact⟨rfl,rfl⟩
      ·cases this
   by_cases hC:I.AS=false/\0<data.size
   ·obtain⟨a9,bI⟩:=hC;(have bK:(0:Int)<(data.size:Int):=by omega);obtain⟨m,hm⟩:=Lk (Ll I.Bq (b:=(data.size:Int)) (by omega));(have hml:(m:Int)<(data.size:Int):=by rw[<-hm];exact Px _ bK);have qC:Hid (Bl D F name data=By {D with n:=I} F f data (m:Int) e1):=by
     have:=q.o;rw[<-hm];unfold Hid;rw[this];simp only[MU,C4,a9,bI,and_self,Cg]
    (have aM:Hid (¬e1=0):=by have:=bF.o.1;unfold Hid;omega);(have bH:(e1==0)=false:=by have:=bF.o.1;simp[this]);by_cases a1:(l:Int)<(m:Int)
    ·(have a5:l<=data.size:=by omega);(have aI:(data.extract 0 l).size=l:=by simp;omega)
     go_enter func8,ntmps8
     go_wp2_with (first
      | (go_at_call 24;refine(Dt _ _ _ _ hd.o).mono ?_;rintro e w'⟨rfl,rfl⟩;rw[a6.o])
      | (go_at_call 25;refine(a7.o _ aN.o).mono ?_;rintro e w1⟨rfl,z,Y⟩;have bP:=z.c7;have a8:=z.bZ))
     obtain⟨bN,aY⟩:=bC.o w1 z Y;have aL:=A1 aY;have aU:=z.c3;go_region_held3 (λw'=>w'.cell? ⟨b,3,none⟩=some (A0 I.AB)) (first|exact(AK.An (w:=w1.drew) z aB (λh=>h)).c3|go_simp) ((go_at_call 27;refine(K8 _ b _ F Ft aL.o.af bD.o).mono ?_;rintro e O⟨rfl,aB⟩));obtain⟨aV,aX,aD,aP⟩:=A2.o w1 O z Y aB;have aG:=A1 aV;have aK:=A1 aX;have aF:=A1 aP;have x1:=aD.d;have x2:=aD.p;have x3:=aD.f0;have x8:=aD.gb;have x9:=aD.bf;have aZ:=aD.fb;go_wp2;have aH:=A1 (bJ.o O O.drew I aG.o aF.o ((A3.I (One b) O).af));(have aJ:((F f).1.length+(data.extract 0 l).size)*1<=140737488355328:=by rw[aI];omega);go_region_law
      ((refine Jc ?_ (.tmp 90) (.tmp 93) 66 9 ?_ 5 i0 _ 1 1 underlying66 hi aR aT aS rfl Mt (.slice a' (F f).1.length aE) (F f).1.length (DX (F f).1) ?_ aH.o (.string (data.extract 0 l)) (data.extract 0 l).size (byteCells (data.extract 0 l)) ?_ (Mq _ underlying9 (data.extract 0 l)) aJ ?_;(· rfl);(· rfl);(· rfl);(· rfl);intro b3 aA w3 hA;have E:=A1 (bL.o O O.drew w3 I (data.extract 0 l) b3 aA aG.o aK.o aF.o ((A3.I (One b) O).af) hA);have aW:=E.o.1.fz;have a0:=E.o.1.c0))
     go_wp2;go_ret;have q1:=qC.o;have q2:By {D with n:=I} F f data (m:Int) e1=(e1,{D with n:=I},upd F f ((F f).1++data.data.toList.take l,(F f).2)):=by
      unfold By;rw[aQ.o,Af a1,Ac aM.o,Ac aM.o,En]
     have H:=E.o.2;rw[LY,aI]at H;rw[q1,q2];exact⟨rfl,H⟩
    ·(have bG:(m:Int)<=l:=by omega);(have a5:m<=data.size:=by omega);(have aI:(data.extract 0 m).size=m:=by simp;omega)
     go_enter func8,ntmps8
     go_wp2_with (first
      | (go_at_call 24;refine(Dt _ _ _ _ hd.o).mono ?_;rintro e w'⟨rfl,rfl⟩;rw[a6.o])
      | (go_at_call 25;refine(a7.o _ aN.o).mono ?_;rintro e w1⟨rfl,z,Y⟩;have bP:=z.c7;have a8:=z.bZ))
     obtain⟨bN,aY⟩:=bC.o w1 z Y;have aL:=A1 aY;have aU:=z.c3;go_region_held3 (λw'=>w'.cell? ⟨b,3,none⟩=some (A0 I.AB)) (first|exact(AK.An (w:=w1.drew) z aB (λh=>h)).c3|go_simp) ((go_at_call 27;refine(K8 _ b _ F Ft aL.o.af bD.o).mono ?_;rintro e O⟨rfl,aB⟩));obtain⟨aV,aX,aD,aP⟩:=A2.o w1 O z Y aB;have aG:=A1 aV;have aK:=A1 aX;have aF:=A1 aP;have x1:=aD.d;have x2:=aD.p;have x3:=aD.f0;have x8:=aD.gb;have x9:=aD.bf;have aZ:=aD.fb;go_wp2;have aH:=A1 (bJ.o O O.drew I aG.o aF.o ((A3.I (One b) O).af));(have aJ:((F f).1.length+(data.extract 0 m).size)*1<=140737488355328:=by rw[aI];omega);go_region_law
      ((refine Jc ?_ (.tmp 90) (.tmp 93) 66 9 ?_ 5 i0 _ 1 1 underlying66 hi aR aT aS rfl Mt (.slice a' (F f).1.length aE) (F f).1.length (DX (F f).1) ?_ aH.o (.string (data.extract 0 m)) (data.extract 0 m).size (byteCells (data.extract 0 m)) ?_ (Mq _ underlying9 (data.extract 0 m)) aJ ?_;(· rfl);(· rfl);(· rfl);(· rfl);intro b3 aA w3 hA;have E:=A1 (bL.o O O.drew w3 I (data.extract 0 m) b3 aA aG.o aK.o aF.o ((A3.I (One b) O).af) hA);have aW:=E.o.1.fz;have a0:=E.o.1.c0))
     go_wp2;go_ret;have q1:=qC.o;have q2:By {D with n:=I} F f data (m:Int) e1=(e1,{D with n:=I},upd F f ((F f).1++data.data.toList.take m,(F f).2)):=by
      unfold By;rw[aQ.o,Ac (by omega),En]
     have H:=E.o.2;rw[LY,aI]at H;rw[q1,q2];exact⟨rfl,H⟩
   ·have qC:Hid (Bl D F name data=(e1,{D with n:=I},F)):=by
     have:=q.o;unfold Hid;rw[this];simp only[MU,C4,hC]
    by_cases a9:I.AS=true
    ·go_enter func8,ntmps8
     go_wp2_with (first
      | (go_at_call 24;refine(Dt _ _ _ _ hd.o).mono ?_;rintro e w'⟨rfl,rfl⟩;rw[a6.o])
      | (go_at_call 25;refine(a7.o _ aN.o).mono ?_;rintro e w1⟨rfl,z,Y⟩;have a8:=z.bZ))
     go_ret;rw[qC.o];exact⟨rfl,bV.o.bO bB.o z Y⟩
    ·(have bS:I.AS=false:=by simpa using a9);have bI:(data.size:Int)<=0:=by
      have:¬0<data.size:=λh=>hC ⟨bS,h⟩;omega
     go_enter func8,ntmps8
     go_wp2_with (first
      | (go_at_call 24;refine(Dt _ _ _ _ hd.o).mono ?_;rintro e w'⟨rfl,rfl⟩;rw[a6.o])
      | (go_at_call 25;refine(a7.o _ aN.o).mono ?_;rintro e w1⟨rfl,z,Y⟩;have a8:=z.bZ))
     go_ret;rw[qC.o];exact⟨rfl,bV.o.bO bB.o z Y⟩
def OJ{w w1 w3 w5:World}{b:Nat}{D:DS}{F:Nat->FC}{vd vs vc vl W:Value}{H:List Value}{aE:Nat->Value}{Ft:Nat->Prop}{n1:DN}{es:List AL}(hr:BY w b D F vd vs vc H aE)(d:∀k,C6 b D vd vs vc H aE k->Ft k)(aH:AK w1 b vd vs vc n1)(aB:A3 (One b) w w1)(Y:A3 (λ_=>False) w1 w3)(e3:CY w3 vl es)(aD:∀g,vl.ownBlock=some g->w1.heap.size<=g)(aA:∀f,Dc f es->D.Aq f)(aF:AK w5 b vl vs W n1)(aI:w5.ownsRow 0 98 1 W (D.As.length+1) (H++[vl]))(L:A3 (λk=>k=b\/vc.ownBlock=some k) w3 w5)(hv:∀g,W.ownBlock=some g->vc.ownBlock=some g\/w3.heap.size<=g):
 Dm w Ft w5 b {D with A4:=es,As:=D.As++[es],n:=n1} F:=by
 have s1:=aB.Ak;have s3:=Y.Ak;have r1:=hr.ag aH aB;have r3:=r1.aP λk O=>Y.Al k (r1.lt O) (λh=>h)
 have e5:=Ay e3 λg hg=>L.Al g (Az e3 hg) (by
  obtain⟨c,hh⟩:=Bd e3 hg;rintro (e|e)
  ·exact BR hh r3.Ag (by decide) e
  ·obtain⟨c',aG⟩:=Bd r3.An e
   exact BR hh aG (by decide) rfl)
 have r5:=r3.cq (F':=F) (VB':=aE) (es:=es) aF aI e5 L (λk O=>O) (λf E=>⟨rfl,rfl⟩) (λf E=>.inl (aA f E));have I:∀f,({D with A4:=es,As:=D.As++[es],n:=n1}:DS).Aq f->D.Aq f:=by
  rintro f (E|E|⟨c,z,E⟩)
  ·exact aA f E
  ·exact .inr (.inl E)
  ·rcases AV.1 z with z|z
   ·exact .inr (.inr ⟨c,z,E⟩)
   ·simp at z;subst z;exact aA f E
 refine Dm.bx ?_ r5 ?_
 ·have a:=(aB.ad (S':=Ft) λk _ O=>by cases O;exact d b .Ag).Av Y (λx hx=>hx.elim);refine a.Av L ?_;rintro x (e|e) _
  ·subst e;exact d x .Ag
  ·exact d x (.An e)
 ·intro k O;cases O using C6.bK with
  | Ag=>exact .inl (d b .Ag)
  | dir e=>right;have:=aD _ e;omega
  | Ad e=>exact .inl (d k (.AM e))
  | An e=>
   rcases hv k e with h|h
   ·exact .inl (d k (.An h))
   ·right;omega
  | D5 hm e=>
   rcases AV.1 hm with hm|hm
   ·exact .inl (d k (.D5 hm e))
   ·simp at hm;subst hm;right;have:=aD _ e;omega
  | BI E=>exact .inl (d _ (.BI (I _ E)))
  | byt E e=>exact .inl (d _ (.bA (I _ E) e))
def OI{w I L:World}{b:Nat}{D:DS}{F:Nat->FC}{W O H:Value}{d:List Value}{aA:Nat->Value}{n1:DN}(hr:BY w b D F W O H d aA)(E:AK I b W O H n1)(Y:A3 (One b) w I)(z:A3 (λ_=>False) I L):
 AK L b W O H n1/\L.ownsRow 0 98 1 H D.As.length d:=by
 have r1:=hr.ag E Y;exact⟨E.An z (λh=>h),Ay r1.An λg hg=>z.Al g (Az r1.An hg) (λh=>h)⟩
def App.bM{w w':World}{e size n:Nat}{z:Value}{xs:List Value}(h:App w w' e size (.slice none 0 0) z n xs):A3 Aa w w':=h.An (λk d=>by simp[Value.ownBlock]at d)
def App.AT{w w':World}{e size n:Nat}{z:Value}{xs:List Value}(h:App w w' e size (.slice none 0 0) z n xs):∀g,z.ownBlock=some g->w.heap.size<=g:=by
 intro g d;rcases h.Cy with h|h
 ·rw[h]at d;cases d
 ·rw[h]at d;cases d;exact Au _
def App.cm{z w w':World}{e size n:Nat}{v H:Value}{xs:List Value}(h:App w w' e size v H n xs)(I:A3 (λ_=>False) z w)(L:∀g,v.ownBlock=some g->z.heap.size<=g):
 A3 (λ_=>False) z w'/\∀g,H.ownBlock=some g->z.heap.size<=g:=by
 refine⟨I.Ct h.Ct λk O hlt=>by have:=L k O;omega,λg d=>?_⟩;rcases h.Cy with E|E
 ·rw[E]at d;exact L g d
 ·rw[E]at d;cases d;exact I.Ak
def Dd(D:DS)(name:ByteArray):Int×DS:=
 if B2 D.A4 name<0 then (8,D) else
  let es:=D.A4.take (B2 D.A4 name).toNat++D.A4.drop ((B2 D.A4 name).toNat+1)
  ((bg D.n).2.1,if (bg D.n).1 then {D with A4:=es,As:=D.As++[es],n:=(bg D.n).2.2} else {D with n:=(bg D.n).2.2})
def Xk(w:World)(b:Nat)(D:DS)(F:Nat->FC)(Ft:Nat->Prop)(h:D6 w b D F Ft)(name:ByteArray)(hs:D.A4.length<1099511627776/\D.As.length<1099511627776):
 Ah 158 #[A5 b,.string name] w (Am (A0 (Dd D name).1) λw'=>Dm w Ft w' b (Dd D name).2 F):=by
 obtain⟨vd,vs,vc,vals,VB,hr,aJ⟩:=h;obtain⟨hs1,aO⟩:=hs;have aB:=A1 hr;have aU:=A1 aJ;have c0:=hr.Ag.c0;have hd:=A1 hr.A4;have aI:=A1 hr.Ag;rcases Oz D.A4 name with⟨h1,h2⟩|⟨k,hk,h1,h2⟩
 ·have q:Hid (Dd D name=(8,D)):=by unfold Hid Dd;rw[Af (by omega)]
  have hfi:B2 D.A4 name<0:=by omega
  go_enter func158,ntmps158
  go_wp2_with (go_at_call 24;refine(Dt _ _ _ _ hd.o).mono ?_;rintro e w'⟨rfl,rfl⟩);go_ret;rw[q.o];exact⟨rfl,Dm.bx (A3.I _ _) aB.o λk hk=>.inl (aJ k hk)⟩
 ·have q:Hid (Dd D name=((bg D.n).2.1,if (bg D.n).1 then {D with A4:=D.A4.take k++D.A4.drop (k+1),As:=D.As++[D.A4.take k++D.A4.drop (k+1)],n:=(bg D.n).2.2} else {D with n:=(bg D.n).2.2})):=by
   unfold Hid Dd;rw[Ac (by omega),h1];rfl
  have aW:=A1 h1;by_cases aE:(bg D.n).1=true
  ·obtain⟨i0,hi,W,aA,Y⟩:=E4 Tryz.cO;obtain⟨a,cap,rfl,z1,z2,aH⟩:=aB.o.A4.Cf;obtain⟨g,rfl,_,_⟩:=aH k hk;unfold maxLen at z2;have aP:Hid (∀z,AK z b (AJ g D.A4.length cap) vs vc (bg D.n).2.2->A3 (One b) w z->z.ownsRow 0 70 2 (AJ g k cap) k ((BX D.A4).take (k*2))/\CY z (AJ g D.A4.length cap) D.A4):=λz g1 g2=>
    ⟨RI (aB.o.ag g1 g2).A4 (by omega),(aB.o.ag g1 g2).A4⟩
   have aN:∀u∈(BX D.A4).take (k*2),u.oneCell'=true:=λu hu=>OC _ u (Ik hu);have aD:=A1 aN;have aS:Hid (∀f,Dc f (D.A4.take k++D.A4.drop (k+1))->D.Aq f):=by
    rintro f⟨e,he,rfl⟩;rcases AV.1 he with he|he
    ·exact .inl ⟨e,Ik he,rfl⟩
    ·exact .inl ⟨e,Lb he,rfl⟩
   (have aK:(D.A4.take k++D.A4.drop (k+1)).length=k+(D.A4.length-(k+1)):=by simp;omega);have a5:Hid (∀(E O:World) (v2 v3:Value),App E O 70 2 v2 v3 (k+(D.A4.length-(k+1))) ((BX D.A4).take (k*2)++BX (D.A4.drop (k+1)))->CY O v3 (D.A4.take k++D.A4.drop (k+1))):=by
    intro E O v2 v3 h;unfold CY;rw[aK,KG,<-A0I];exact h.AF
   by_cases aV:cap=k+1
   ·subst aV;(have hz:D.A4.length=k+1:=by omega);have aY:Hid (∀z E:World,CY z (AJ g D.A4.length (k+1)) D.A4->A3 Aa z E->Src Tryz.prog 2 57 (AJ g 0 0) 0 [] E):=
     λz E _ _=>L0 E underlying57 _ 0 _ [] rfl (by simp) (by simp)
    have aX:Hid (∀(E O:World) (v2 v3:Value),App E O 70 2 v2 v3 (k+0) ((BX D.A4).take (k*2)++[])->CY O v3 (D.A4.take k++D.A4.drop (k+1))):=by
     intro E O v2 v3 h;refine a5.o E O v2 v3 ?_;rw[JW (by omega),show D.A4.length-(k+1)=0 from by omega];exact h
    clear hz
    go_enter func158,ntmps158
    go_wp2_with (first
     | (go_at_call 24;refine(Dt _ _ _ _ hd.o).mono ?_;rintro e w'⟨rfl,rfl⟩;rw[aW.o])
     | (go_at_call 25;refine(GH _ _ _ _ _ _ aI.o).mono ?_;rintro e z⟨rfl,d,H⟩;have aZ:=d.c0;have aL:=A1 (aP.o z d H))
     | (at_builtin;refine D9 rfl (.const (.slice none 0 0)) (.tmp 28) 57 57 rfl 70 i0 _ 2 24 underlying57 hi W aA Y rfl (by decide) (.slice none 0 0) 0 [] (by rfl) (CL _ 0 70 2) (AJ g k (k+1)) k ((BX D.A4).take (k*2)) (by rfl) (Src.bN underlying57 aL.o.1 aD.o) (by omega) ?_;intro a2 aT E L;simp only[Gx,EY]at L;have aF:=A1 L.AF;have a4:=(d.An L.bM (λh=>h)).c0;have aG:=A1 (aY.o z E aL.o.2 L.bM))
     | (at_builtin;refine D9 rfl (.tmp 31) (.tmp 38) 57 57 rfl 70 i0 _ 2 24 underlying57 hi W aA Y rfl (by decide) _ k ((BX D.A4).take (k*2)) (by rfl) aF.o _ _ _ (by rfl) aG.o (by omega) ?_;intro a3 aM O hB;have I:=A1 (hB.cm L.bM L.AT);have hm:=A1 (OI aB.o d H I.o.1))
     | (go_at_call 26;refine(Lt _ b _ vs vc _ _ _ _ _ _ hm.o.1 hm.o.2 aO).mono ?_;rintro e w5⟨rfl,a1,k1,k2,k3,k4⟩))
    go_ret;rw[q.o,aE];have e3:=aX.o _ _ _ _ hB;exact⟨rfl,OJ aB.o aU.o d H I.o.1 e3 I.o.2 aS.o k1 k2 k3 k4⟩
   ·have aY:Hid (∀z E:World,CY z (AJ g D.A4.length cap) D.A4->A3 Aa z E->Src Tryz.prog 2 57 (.slice (some (Ab g ((k+1)*2))) (D.A4.length-(k+1)) (cap-(k+1))) (D.A4.length-(k+1)) (BX (D.A4.drop (k+1))) E):=by
     intro z E h1 a0;have h2:=Ay h1 λx hx=>a0.Al x (Az h1 hx) (λh=>h);refine L0 E underlying57 _ _ _ _ (by rw[A0J,CP]) ?_ (OC _);intro j u hu;rw[<-A0K,J2]at hu;(have aR:((Ab g ((k+1)*2)):Addr).add j=(Ab g ((k+1)*2+j)):=by unfold Addr.add;split<;>simp_all);rw[aR];exact BF h2 rfl hu
    go_enter func158,ntmps158
    go_wp2_with (first
     | (go_at_call 24;refine(Dt _ _ _ _ hd.o).mono ?_;rintro e w'⟨rfl,rfl⟩;rw[aW.o])
     | (go_at_call 25;refine(GH _ _ _ _ _ _ aI.o).mono ?_;rintro e z⟨rfl,d,H⟩;have aZ:=d.c0;have aL:=A1 (aP.o z d H))
     | (at_builtin;refine D9 rfl (.const (.slice none 0 0)) (.tmp 28) 57 57 rfl 70 i0 _ 2 24 underlying57 hi W aA Y rfl (by decide) (.slice none 0 0) 0 [] (by rfl) (CL _ 0 70 2) (AJ g k cap) k ((BX D.A4).take (k*2)) (by rfl) (Src.bN underlying57 aL.o.1 aD.o) (by omega) ?_;intro a2 aT E L;simp only[Gx,EY]at L;have aF:=A1 L.AF;have a4:=(d.An L.bM (λh=>h)).c0;have aG:=A1 (aY.o z E aL.o.2 L.bM))
     | (at_builtin;refine D9 rfl (.tmp 31) (.tmp 38) 57 57 rfl 70 i0 _ 2 24 underlying57 hi W aA Y rfl (by decide) _ k ((BX D.A4).take (k*2)) (by rfl) aF.o _ _ _ (by rfl) aG.o (by omega) ?_;intro a3 aM O hB;have I:=A1 (hB.cm L.bM L.AT);have hm:=A1 (OI aB.o d H I.o.1))
     | (go_at_call 26;refine(Lt _ b _ vs vc _ _ _ _ _ _ hm.o.1 hm.o.2 aO).mono ?_;rintro e w5⟨rfl,a1,k1,k2,k3,k4⟩))
    go_ret;rw[q.o,aE];have e3:=a5.o _ _ _ _ hB;exact⟨rfl,OJ aB.o aU.o d H I.o.1 e3 I.o.2 aS.o k1 k2 k3 k4⟩
  ·(have aQ:(bg D.n).1=false:=by simpa using aE)
   go_enter func158,ntmps158
   go_wp2_with (first|(go_at_call 24;refine(Dt _ _ _ _ hd.o).mono ?_;rintro e w'⟨rfl,rfl⟩;rw[aW.o])|(go_at_call 25;refine(GH _ _ _ _ _ _ aI.o).mono ?_;rintro e z⟨rfl,d,H⟩));go_ret;rw[q.o,aQ];exact⟨rfl,aB.o.bO aJ d H⟩
def Di(es:List AL)(i:Nat)(name:ByteArray):Nat->List AL
 | 0=>[]
 | k+1=>Di es i name k++(match es[k]? with
  | some e=>if k≠i/\e.1≠name then [e] else []
  | none=>[])
def LD(es:List AL)(i:Nat)(name:ByteArray)(k:Nat):∀e∈Di es i name k,e∈es:=by
 induction k with
 | zero=>intro e h;cases h
 | succ k ih=>
  intro e h;simp only[Di]at h;rcases AV.1 h with h|h
  ·exact ih e h
  ·split at h
   ·rename_i x d;split at h
    ·simp at h;subst h;exact Lc d
    ·cases h
   ·cases h
def Nx(es:List AL)(i:Nat)(name:ByteArray)(k:Nat):(Di es i name k).length<=k:=by
 induction k with
 | zero=>simp[Di]
 | succ k ih=>
  simp only[Di,AZ];split
  ·split<;>simp<;>omega
  ·simp;omega
def QZ(es:List AL)(i:Nat)(name:ByteArray)(k:Nat)(d:k<es.length)(h:k≠i/\(es[k]'d).1≠name):Di es i name (k+1)=Di es i name k++[es[k]'d]:=by
 simp only[Di,E2 d];rw[Af h]
def Ny(es:List AL)(i:Nat)(name:ByteArray)(k:Nat)(d:k<es.length)(h:¬(k≠i/\(es[k]'d).1≠name)):Di es i name (k+1)=Di es i name k:=by
 simp only[Di,E2 d];rw[Ac h,Gh]
def CN(D:DS)(old name:ByteArray):Int×DS:=match lookup D.A4 old with
 | none=>(8,D)
 | some f=>if name=ByteArray.empty then (8,D) else
  let es:=Di D.A4 (B2 D.A4 old).toNat name D.A4.length++[(name,f)]
  ((bg D.n).2.1,if (bg D.n).1 then {D with A4:=es,As:=D.As++[es],n:=(bg D.n).2.2} else {D with n:=(bg D.n).2.2})
def Xa(w:World)(b:Nat)(D:DS)(F:Nat->FC)(Ft:Nat->Prop)(h:D6 w b D F Ft)(old name:ByteArray)(hs:D.A4.length<1099511627776/\D.As.length<1099511627776):
 Ah 204 #[A5 b,.string old,.string name] w λe w'=>e=.returned (A0 (CN D old name).1)/\Dm w Ft w' b (CN D old name).2 F:=by
 obtain⟨vd,vs,vc,vals,VB,hr,aD⟩:=h;obtain⟨hs1,aV⟩:=hs;have aH:=A1 hr;have aY:=A1 aD;have c0:=hr.Ag.c0;have hd:=A1 hr.A4;have aS:=A1 hr.Ag;rcases IH D.A4 old with⟨h1,h2⟩|⟨k,H,h1,h2,h3⟩
 ·have q:Hid (CN D old name=(8,D)):=by unfold Hid CN;rw[h2]
  have hfi:B2 D.A4 old<0:=by omega
  go_enter func204,ntmps204
  go_wp2_with (go_at_call 24;refine(Dt _ _ _ _ hd.o).mono ?_;rintro e w'⟨rfl,rfl⟩);go_ret;rw[q.o];exact⟨rfl,Dm.bx (A3.I _ _) aH.o λk H=>.inl (aD k H)⟩
 ·have aU:=A1 h1;by_cases hn:name.toList.isEmpty=true
  ·(have q:Hid (CN D old name=(8,D)):=by unfold Hid CN;rw[h2];exact Af ((isEmpty_iff _).1 hn))
   go_enter func204,ntmps204
   go_wp2_with (go_at_call 24;refine(Dt _ _ _ _ hd.o).mono ?_;rintro e w'⟨rfl,rfl⟩;rw[aU.o]);go_ret;rw[q.o];exact⟨rfl,Dm.bx (A3.I _ _) aH.o λk H=>.inl (aD k H)⟩
  ·(have hn':name.toList.isEmpty=false:=by simpa using hn);have q:Hid (CN D old name=((bg D.n).2.1,if (bg D.n).1 then {D with A4:=Di D.A4 k name D.A4.length++[(name,(D.A4[k]'H).2)],As:=D.As++[Di D.A4 k name D.A4.length++[(name,(D.A4[k]'H).2)]],n:=(bg D.n).2.2} else {D with n:=(bg D.n).2.2})):=by
    unfold Hid CN;rw[h2];dsimp only;rw[Ac (λe=>hn ((isEmpty_iff _).2 e)),h1];rfl
   by_cases aJ:(bg D.n).1=true
   ·obtain⟨i0,hi,aL,aQ,aP⟩:=E4 Tryz.cO;obtain⟨a,cap,rfl,z1,z2,aG⟩:=aH.o.A4.Cf;obtain⟨g,rfl,_,_⟩:=aG k H;unfold maxLen at z2
    have cells:Hid (∀Y wr,AK Y b (.slice (some (Ab g 0)) D.A4.length cap) vs vc (bg D.n).2.2->A3 (One b) w Y->A3 Aa Y wr->A6 wr b 0 (.slice (some (Ab g 0)) D.A4.length cap)/\
     ∀j (hj:j<D.A4.length),A6 wr g (j*2) (.string (D.A4[j]'hj).1)/\A6 wr g (j*2+1) (A5 ((D.A4[j]'hj).2))):=by
     intro Y wr g1 g2 g3;have r1:=aH.o.ag g1 g2;have r3:=r1.aP λx hx=>g3.Al x (r1.lt hx) (λh=>h);exact⟨r3.Ag.c0,λj hj=>⟨BF r3.A4 rfl (OD _ j hj),BF r3.A4 rfl (OB _ j hj)⟩⟩
    go_enter func204,ntmps204
    go_wp2_with (first
     | (go_at_call 24;refine(Dt _ _ _ _ hd.o).mono ?_;rintro e w'⟨rfl,rfl⟩;rw[aU.o])
     | (go_at_call 25;refine(GH _ _ _ _ _ _ aS.o).mono ?_;rintro e Y⟨rfl,E,L⟩;have c01:=E.c0))
    go_loopw [10,35] (λv i wr=>∃j:Nat,j<=D.A4.length/\i=A0 j/\A3 Aa Y wr/\CY wr v (Di D.A4 k name j)/\Hid (∀x,v.ownBlock=some x->Y.heap.size<=x)) (λ_ i _=>D.A4.length-(intOf i).toNat)
    case atStart=>exact⟨0,Cz _,rfl,A3.I _ _,CL _ _ _ _,λx hx=>by simp[Value.ownBlock]at hx⟩
    case round=>
     obtain⟨j,hj,rfl,I,aW,aA⟩:=hrel;have aB:=A1 aW;obtain⟨cb,ce⟩:=cells.o Y wr E L I;by_cases d:j<D.A4.length
     ·obtain⟨cn,cp⟩:=ce j d;by_cases W:j=k
      ·(have aK:((j:Int)!=(k:Int))=false:=by simp[W]);have q2:=A1 (Ny D.A4 k name j d (λh=>h.1 W));have aR:=A1 W;go_wp2;go_roundw
       case rel=>exact⟨j+1,by omega,by go_num,I,by rw[q2.o];exact aB.o,aA⟩
       case measure=>simp[intOf];omega
      ·(have aK:((j:Int)!=(k:Int))=true:=by rw[bne_iff_ne];omega);have aR:=A1 W;by_cases O:(D.A4[j]'d).1=name
       ·have aN:=(OY _ _).2 O;have q2:=A1 (Ny D.A4 k name j d (λh=>h.2 O));go_wp2;go_roundw
        case rel=>exact⟨j+1,by omega,by go_num,I,by rw[q2.o];exact aB.o,aA⟩
        case measure=>simp[intOf];omega
       ·have aN:=(U4 _ _).2 O;have q2:=A1 (QZ D.A4 k name j d ⟨aR.o,O⟩);have aI:=A1 (aB.o.alloc (.cells #[.string (D.A4[j]'d).1,A5 ((D.A4[j]'d).2)] 70));have aF:=A1 (Src.bc (size:=2) underlying57 wr #[.string (D.A4[j]'d).1,A5 ((D.A4[j]'d).2)] 70 wr.heap.size rfl 1 1 rfl (by simp[Value.oneCell']));have aX:=Nx D.A4 k name j;go_wp2_with (at_builtin;refine D9 rfl (.tmp 53) (.tmp 61) 57 57 rfl 70 i0 _ 2 24 underlying57 hi aL aQ aP rfl (by decide) _ _ _ (by rfl) aI.o _ 1 _ (by rfl) aF.o (by omega) ?_;intro a3 aE w3 hB;have z:=A1 (hB.cm (I.aj _) aA.o));go_roundw
        case rel=>
         refine⟨j+1,by omega,by go_num,z.o.1,?_,z.o.2⟩;rw[q2.o];have:=hB.AF;unfold CY;rw[KG,AZ];exact this
        case measure=>simp[intOf];omega
     ·obtain⟨cn,cp⟩:=ce k H;(have aT:j=D.A4.length:=by omega);have aO:=aB.o;rw[aT]at aO;have aI:=A1 (aO.alloc (.cells #[.string name,A5 ((D.A4[k]'H).2)] 70));have aF:=A1 (Src.bc (size:=2) underlying57 wr #[.string name,A5 ((D.A4[k]'H).2)] 70 wr.heap.size rfl 1 1 rfl (by simp[Value.oneCell']));have aX:=Nx D.A4 k name D.A4.length
      go_wp2_with (first
       | (at_builtin;refine D9 rfl (.tmp 65) (.tmp 76) 57 57 rfl 70 i0 _ 2 24 underlying57 hi aL aQ aP rfl (by decide) _ _ _ (by rfl) aI.o _ 1 _ (by rfl) aF.o (by omega) ?_;intro a3 aE w3 hB;have z:=A1 (hB.cm (I.aj _) aA.o);have hm:=A1 (OI aH.o E L z.o.1))
       | (go_at_call 26;refine(Lt _ b _ vs vc _ _ _ _ _ _ hm.o.1 hm.o.2 aV).mono ?_;rintro e w5⟨rfl,vc',k1,k2,k3,k4⟩))
      go_ret;rw[q.o,aJ];have e3:CY w3 (.slice a3 ((Di D.A4 k name D.A4.length).length+1) aE) (Di D.A4 k name D.A4.length++[(name,(D.A4[k]'H).2)]):=by
       have:=hB.AF;unfold CY;rw[KG,AZ];exact this
      refine⟨rfl,OJ aH.o aY.o E L z.o.1 e3 z.o.2 ?_ k1 k2 k3 k4⟩;rintro f⟨e,he,rfl⟩;rcases AV.1 he with he|he
      ·exact .inl ⟨e,LD _ _ _ _ e he,rfl⟩
      ·simp at he;subst he;exact .inl ⟨_,BV H,rfl⟩
   ·(have aM:(bg D.n).1=false:=by simpa using aJ)
    go_enter func204,ntmps204
    go_wp2_with (first|(go_at_call 24;refine(Dt _ _ _ _ hd.o).mono ?_;rintro e w'⟨rfl,rfl⟩;rw[aU.o])|(go_at_call 25;refine(GH _ _ _ _ _ _ aS.o).mono ?_;rintro e Y⟨rfl,E,L⟩));go_ret;rw[q.o,aM];exact⟨rfl,aH.o.bO aD E L⟩
def less(a b:ByteArray):Bool:=Op.bytesLess a.toList b.toList
def Fp(l:List ByteArray):List Value:=l.map Value.string
def Ek(l:List ByteArray)(x:ByteArray):Nat->Nat
 | 0=>0
 | k+1=>match l[k]? with
  | some y=>if less x y then Ek l x k else k+1
  | none=>k+1
def ins(l:List ByteArray)(x:ByteArray):List ByteArray:=l.take (Ek l x l.length)++x::l.drop (Ek l x l.length)
def EA(es:List AL):Nat->List ByteArray
 | 0=>[]
 | k+1=>match es[k]? with
  | some e=>ins (EA es k) e.1
  | none=>EA es k
def dList(es:List AL):List ByteArray:=EA es es.length
def Tc(l:List ByteArray)(x:ByteArray)(k:Nat):Ek l x k<=k:=by
 induction k with
 | zero=>simp[Ek]
 | succ k ih=>
  simp only[Ek];split
  ·split<;>omega
  ·omega
def ZJ(l:List ByteArray)(x:ByteArray):(ins l x).length=l.length+1:=by
 have:=Tc l x l.length;simp[ins];omega
def M6(es:List AL)(k:Nat)(hk:k<=es.length):(EA es k).length=k:=by
 induction k with
 | zero=>rfl
 | succ k ih=>
  simp only[EA,E2 (show k<es.length by omega)];rw[ZJ,ih (by omega)]
def M4(es:List AL)(k:Nat)(d:k<es.length):EA es (k+1)=ins (EA es k) (es[k]'d).1:=by
 simp only[EA,E2 d]
def Tb(l:List ByteArray)(x:ByteArray)(k:Nat)(d:k<l.length)(h:less x (l[k]'d)=true):Ek l x (k+1)=Ek l x k:=by
 simp only[Ek,E2 d];rw[Af h]
def Ta(l:List ByteArray)(x:ByteArray)(k:Nat)(d:k<l.length)(h:less x (l[k]'d)=false):Ek l x (k+1)=k+1:=by
 simp only[Ek,E2 d];rw[Ac (by simp[h])]
def W0(l:List ByteArray)(x:ByteArray)(m:Nat)(h:m<l.length):
 ((Fp (l.take (m+1)++x::l.drop (m+1))).set (m+1) (.string (l[m]'h))).set m (.string x)=Fp (l.take m++x::l.drop m):=by
 have z:=Dl h;have H:=Fm h;have E:(l.take m).length=m:=by simp;omega
 rw[z,H];unfold Fp;simp only[E6,GY,Cc,Fo,EY];have d:(List.map Value.string (l.take m)).length=m:=by simpa using E
 rw[JQ _ _ (by omega),d,show m+1-m=1 from by omega];simp only[UP,List.set_cons_zero];rw[JQ _ _ (by omega),d,UI];rfl
def O9(w:World)(b:Nat)(D:DS)(F:Nat->FC)(Ft:Nat->Prop)(h:D6 w b D F Ft)(hs:D.A4.length<1099511627776):
 Ah 48 #[A5 b] w λe w'=>∃v,e=.returned v/\w'.ownsRow 0 9 1 v D.A4.length (Fp (dList D.A4))/\A3 Aa w w'/\(∀g,v.ownBlock=some g->w.heap.size<=g):=by
 obtain⟨vd,vs,vc,vals,VB,hr,hft⟩:=h;have bC:=A1 hr;have c0:=hr.Ag.c0;obtain⟨i0,hi,aL,aS,aP⟩:=E4 Tryz.eN;obtain⟨a,cap,rfl,z1,z2,aB⟩:=bC.o.A4.Cf;unfold maxLen at z2;have a2:i0.bytes*D.A4.length<=281474976710656:=by rw[aP];omega
 have a5:D.A4.length<=maxLen:=by unfold maxLen;omega
 have a4:=A1 a2;have a7:=A1 a5
 go_enter func48,ntmps48
 go_wp2_with (at_make;refine wpList_make_own _ rfl _ _ 106 rfl 0 9 i0 _ 1 underlying106 hi aL aS _ _ _ D.A4.length rfl rfl rfl a4.o a7.o (Cz _) ?_;intro w1 aD aO;have c01:=aO.cell c0 (by simp);have aT:=A1 aD);go_loopw [3,18] (λv i wr=>∃k:Nat,k<=D.A4.length/\i=A0 k/\A3 Aa w wr/\Hid (wr.ownsRow 0 9 1 v k (Fp (EA D.A4 k)))/\Hid (∀x,v.oB x->w.heap.size<=x)) (λ_ i _=>D.A4.length-(intOf i).toNat)
 case atStart=>exact⟨0,Cz _,rfl,(A3.I _ w).Ct aO (λk hk=>by cases hk),aT.o,λx hx=>by cases hx;exact Au _⟩
 case round=>
  obtain⟨k,hk,rfl,L,aN,aR⟩:=hrel;by_cases d:k<D.A4.length
  ·obtain⟨g,rfl,hn,hp⟩:=aB k d;have aK:g<w.heap.size:=Hd w _ hn;have a1:A6 wr g (k*2) (.string (D.A4[k]'d).1):=(DL (L.Al g aK (λh=>h))).trans hn;have hp':A6 wr g (k*2+1) (A5 ((D.A4[k]'d).2)):=(DL (L.Al g aK (λh=>h))).trans hp;have hsz:=L.Ak;have W:=A1 ((aN.o.alloc (.cells #[.string (D.A4[k]'d).1,A5 ((D.A4[k]'d).2)] 70)).alloc (.cells #[.string (D.A4[k]'d).1] 9));have aM:=A1 (Src.bc (size:=1) underlying106 (wr.alloc (.cells #[.string (D.A4[k]'d).1,A5 ((D.A4[k]'d).2)] 70)) #[.string (D.A4[k]'d).1] 9 (wr.heap.size+1) (by simp) 1 1 rfl (by simp[Value.oneCell']));generalize hx:(D.A4[k]'d).1=x at a1 W aM;have bB:=A1 hx;go_wp2_with (at_builtin;refine D9 rfl (.tmp 22) (.tmp 25) 106 106 rfl 9 i0 _ 1 16 underlying106 hi aL aS aP rfl (by decide) _ _ _ (by rfl) W.o _ 1 _ (by rfl) aM.o (by omega) ?_;intro a3 z w3 hB);have hl:=A1 (M6 D.A4 k hk);obtain⟨l,aA⟩:∃l,EA D.A4 k=l:=⟨_,rfl⟩;have bA:=A1 aA;(have a8:l.length=k:=by rw[<-aA];exact hl.o);have aF:w3.ownsRow 0 9 1 (.slice a3 (k+1) z) (k+1) (Fp (l.take k++x::l.drop k)):=by
    have:=hB.AF;rw[aA]at this;rw[Em (by omega),JW (by omega)];simpa[Fp] using this
   have aW:=A1 aF;have aU:=A1 (hB.cm ((L.aj _).aj _) aR.o);(have hmax:z<=maxLen:=by obtain⟨_,_,he,h1,h2,_⟩:=B9 aF;cases he;exact h2);obtain⟨H,a0⟩:∃H,a3=some (Ab H 0):=by
    obtain⟨_,_,he,h1,h2,h3,_⟩:=B9 aF;cases he;exact h3 (by omega)
   have aI:=A1 a8;subst a0;have a6:=A1 aU.o.1;have O:=A1 (aU.o.2);have fin:Hid (∀(wq:World) (j:Nat),j<=k->Ek l x k=j->wq.ownsRow 0 9 1 (AJ H (k+1) z) (k+1) (Fp (l.take j++x::l.drop j))->wq.ownsRow 0 9 1 (AJ H (k+1) z) (k+1) (Fp (EA D.A4 (k+1)))):=by
    intro wq j hj hp h;rw[M4 D.A4 k d,bA.o,bB.o,ins,aI.o,hp];exact h
   go_loopw [6] (λi wq=>∃j:Nat,j<=k/\i=A0 j/\Hid (A3 Aa w wq)/\Hid (wq.ownsRow 0 9 1 (AJ H (k+1) z) (k+1) (Fp (l.take j++x::l.drop j)))/\Hid (Ek l x k=Ek l x j)) (λi _=>(intOf i).toNat)
   case atStart=>exact⟨k,Au _,rfl,a6,aW,rfl⟩
   case round=>
    obtain⟨j,hj,rfl,aE,E,aH⟩:=hrel;by_cases aY:j=0
    ·subst aY;rw[show ((0:Nat):Int)=0 from rfl];go_wp2;go_quiet (fail);go_wp2;go_roundw
     case rel=>
      refine⟨k+1,by omega,by go_num,aE.o.bb _,?_,O.o⟩;exact fin.o _ 0 (by omega) (by rw[aH.o];rfl) E.o
     case measure=>simp[intOf];omega
    ·(have hj1:(0:Int)<(j:Int):=by omega);(have hj2:0<j:=by omega);(have I:j-1<l.length:=by have:=aI.o;omega);(have aX:j<=l.length:=by have:=aI.o;omega);obtain⟨y,hy⟩:∃y,l[j-1]'I=y:=⟨_,rfl⟩
     have g1:A6 wr H (j-1) (.string y):=BF E.o rfl (by
      unfold Fp;rw[E6,Im (by simp;omega)]
      simp[List.getElem?_take,I,hy];omega)
     have g2:A6 wr H j (.string x):=BF E.o rfl (by
      unfold Fp;rw[E6,Hl (by simp;omega)]
      simp[Nat.min_eq_left aX])
     have gz:∀o,wr.frozen? (Ab H o)=false:=λo=>G1 E.o rfl o;by_cases aG:less x y=true
     ·have aQ:Op.bytesLess x.toList y.toList=true:=aG;have aJ:=A1 aG;have aV:=A1 hy;go_wp2;go_quiet (fail);go_wp2;go_region;go_wp2;go_roundw
      case rel=>
       refine⟨j-1,by omega,by go_num,?_,?_,?_⟩
       ·have h1:=((aE.o.bp (p:=(Ab H j)) (λh=>by have:=O.o H rfl;simp at h;omega) (.string y)).bp (p:=(Ab H (j-1))) (λh=>by have:=O.o H rfl;simp at h;omega) (.string x));exact⟨h1.os,h1.FB,h1.FF,h1.Ak,h1.Al⟩
       ·have s1:=(E.o.stored j (.string y)).1;have s2:=(s1.stored (j-1) (.string x)).1;have e:=W0 l x (j-1) I;rw[show j-1+1=j from by omega,aV.o]at e;rw[e]at s2;exact s2
       ·have:=Tb l x (j-1) I (by rw[aV.o];exact aJ.o);rw[show j-1+1=j from by omega]at this;unfold Hid;rw[aH.o];exact this
      case measure=>simp[intOf];omega
     ·(have Y:less x y=false:=by simpa using aG);have aQ:Op.bytesLess x.toList y.toList=false:=Y;have aJ:=A1 Y;have aV:=A1 hy;go_wp2;go_quiet (fail);go_wp2;go_roundw
      case rel=>
       refine⟨k+1,by omega,by go_num,aE.o.bb _,?_,O.o⟩;refine fin.o _ j hj ?_ E.o;have:=Ta l x (j-1) I (by rw[aV.o];exact aJ.o);rw[show j-1+1=j from by omega]at this;rw[aH.o];exact this
      case measure=>simp[intOf];omega
  ·(have a9:k=D.A4.length:=by omega);have aZ:=A1 a9;go_wp2;go_ret;refine⟨_,rfl,?_,L,aR.o⟩;have:=aN.o;rw[aZ.o]at this;exact this
def Fa(c:Int)(n:Nat):Nat:=((if c<0 then -(c+1) else c) % ((n:Int)+1)).toNat
def Jl(c:Int)(n:Nat):Fa c n<=n:=by
 unfold Fa;have h1:=Ll (if c<0 then -(c+1) else c) (b:=(n:Int)+1) (by omega);have h2:=Px (if c<0 then -(c+1) else c) (b:=(n:Int)+1) (by omega);omega
def RC(c:Int)(n:Int)(w:World)(d : -9223372036854775808<=c/\c<=9223372036854775807)(z:0<=n/\n<=4611686018427387904):
 Ah 117 #[A0 c,A0 n] w (Am (A0 (Fa c n.toNat)) λw'=>w=w'):=by
 obtain⟨h1,h2⟩:=d;obtain⟨h,h4⟩:=z;by_cases d:c<0
 ·have q:Hid ((Fa c n.toNat:Int) = -((c+1).tmod (n+1))):=by
   unfold Hid Fa;rw[Af d,Ps h,Ps (Ll _ (by omega)),<-A3i (by omega),Pw]
  go_enter func117,ntmps117
  go_wp2;go_ret;rw[q.o];exact⟨rfl,rfl⟩
 ·have q:Hid ((Fa c n.toNat:Int)=c % (n+1)):=by
   unfold Hid Fa;rw[Ac d,Ps h,Ps (Ll _ (by omega))]
  go_enter func117,ntmps117
  go_wp2;go_ret;rw[q.o];exact⟨rfl,rfl⟩
def MP(w:World)(v:Value)(h:List Int):Prop:=
 ∃E cap,v=.slice E h.length cap/\h.length<=9223372036854775807/\∀j (H:j<h.length),∃z d,E=some ⟨z,d,none⟩/\z<w.heap.size/\w.cell? ⟨z,d+j,none⟩=some (.int .i64 (h[j]'H))
def Fh(c:FC)(t:Int):FC:=
 let m:=c.2.toNat+Fa t (c.1.length-c.2.toNat)
 (c.1.take m,(c.1.take m).length)
def DH(dir:List AL)(d:List Int)(names:List ByteArray)(F:Nat->FC):Nat->(Nat->FC)
 | 0=>F
 | k+1=>let G:=DH dir d names F k
  match names[k]? with
  | none=>G
  | some name=>match lookup dir name with
   | some f=>upd G f (Fh (G f) (d.getD k 0))
   | none=>G
def FM(D:DS)(d:Int):List AL:=match Fa d D.As.length with
 | 0=>D.AM
 | k+1=>D.As.getD k []
def Fg(D:DS)(F:Nat->FC)(h:Int)(d:List Int):DS×(Nat->FC):=
 let dir:=FM D h
 ({A4:=dir,AM:=dir,As:=[],n:={D.n with AS:=false,BT:=0,BJ:=0}},DH dir d (dList dir) F dir.length)
def ZI(l:List ByteArray)(x y:ByteArray):y∈ins l x↔y=x\/y∈l:=by
 unfold ins;constructor
 ·intro h;rcases AV.1 h with h|h
  ·exact .inr (Ik h)
  ·rcases BP.1 h with h|h
   ·exact .inl h
   ·exact .inr (Lb h)
 ·rintro (rfl|h)
  ·simp
  ·rw[<-DO (Ek l x l.length) l]at h;rcases AV.1 h with h|h
   ·exact AV.2 (.inl h)
   ·exact AV.2 (.inr (Br _ h))
def A00(es:List AL)(k:Nat)(z:k<=es.length)(y:ByteArray):y∈EA es k↔∃e∈es.take k,e.1=y:=by
 induction k with
 | zero=>simp[EA]
 | succ k ih=>
  have h:=Dl (l:=es) (i:=k) z;rw[M4 es k z,ZI,ih (by omega)];constructor
  ·rintro (rfl|⟨e,d,rfl⟩)
   ·exact⟨es[k],by rw[h];exact AV.2 (.inr (Ij.2 rfl)),rfl⟩
   ·exact⟨e,by rw[h];exact AV.2 (.inl d),rfl⟩
  ·rintro⟨e,d,rfl⟩;rw[h]at d;rcases AV.1 d with d|d
   ·exact .inr ⟨e,d,rfl⟩
   ·simp at d;subst d;exact .inl rfl
def A0Y(es:List AL)(y:ByteArray):y∈dList es↔∃e∈es,e.1=y:=by
 have:=A00 es es.length (Au _) y
 rwa [C9]at this
def BY.eb{w w':World}{b:Nat}{D:DS}{F:Nat->FC}{vd Y vc vl:Value}{z:List Value}{aB:Nat->Value}{es:List AL}(h:BY w b D F vd Y vc z aB)(hl:(vl=Y/\es=D.AM)\/∃k,∃E:k<D.As.length,z[k]?=some vl/\es=D.As[k]'E)(hb:AK w' b vl Y vc D.n)(hc:A3 (One b) w w'):
 BY w' b {D with A4:=es} F vl Y vc z aB/\∀k,C6 b {D with A4:=es} vl Y vc z aB k->C6 b D vd Y vc z aB k:=by
 have E:∀(k:Nat) (c:Array Value) (e:Nat),w.heap[k]?=some (Obj.cells c e (0,0))->e≠60->w'.heap[k]?=w.heap[k]?:=λk c e E he=>
  hc.Al k (Bw E) (BR E h.Ag he)
 have aA:CY w vl es:=by
  rcases hl with⟨rfl,rfl⟩|⟨k,E,W,rfl⟩
  ·exact h.AM
  ·obtain⟨v,O,h3⟩:=h.D5 k E;rw[W]at O;cases O;exact h3
 have aE:∀f,Dc f es->D.Aq f:=by
  intro f H;rcases hl with⟨_,rfl⟩|⟨k,E,_,rfl⟩
  ·exact .inr (.inl H)
  ·exact .inr (.inr ⟨_,BV E,H⟩)
 have d:∀f,({D with A4:=es}:DS).Aq f->D.Aq f:=by
  rintro f (H|H|H)
  ·exact aE f H
  ·exact .inr (.inl H)
  ·exact .inr (.inr H)
 refine⟨⟨hb,?_,?_,?_,?_,?_,λf f' g H aD=>h.G7 f f' g (d f H) (d f' aD)⟩,?_⟩
 ·exact Ay aA λg I=>by obtain⟨c,L⟩:=Bd aA I;exact E g _ _ L (by decide)
 ·exact Ay h.AM λg I=>by obtain⟨c,L⟩:=Bd h.AM I;exact E g _ _ L (by decide)
 ·exact Ay h.An λg I=>by obtain⟨c,L⟩:=Bd h.An I;exact E g _ _ L (by decide)
 ·intro i hi;obtain⟨v,W,O⟩:=h.D5 i hi;exact⟨v,W,Ay O λg I=>by obtain⟨c,L⟩:=Bd O I;exact E g _ _ L (by decide)⟩
 ·intro f H;obtain⟨W,O⟩:=h.BI f (d f H);refine⟨W.aI (E f _ _ W (by decide)),Ay O λg I=>by obtain⟨c,L⟩:=Bd O I;exact E g _ _ L (by decide)⟩
 ·intro k E;cases E using C6.bK with
  | Ag=>exact .Ag
  | dir e=>
   rcases hl with⟨rfl,_⟩|⟨j,_,W,_⟩
   ·exact .AM e
   ·exact .D5 (Lc W) e
  | Ad e=>exact .AM e
  | An e=>exact .An e
  | D5 hm e=>exact .D5 hm e
  | BI H=>exact .BI (d _ H)
  | byt H e=>exact .bA (d _ H) e
def D6.ck{w w':World}{b:Nat}{D:DS}{F:Nat->FC}{Ft:Nat->Prop}(h:D6 w b D F Ft)(d:w'.heap=w.heap):D6 w' b D F Ft:=h.aP λk _=>by rw[d]
def A3.ck{S:Nat->Prop}{a w w':World}(h:A3 S a w)(d:w'.heap=w.heap)(H:w'.os=w.os)(E:w'.tape=w.tape)(I:w'.output=w.output):A3 S a w':=
 ⟨H.trans h.os,E.trans h.FB,I.trans h.FF,by rw[d];exact h.Ak,λk z L=>by rw[d];exact h.Al k z L⟩
end
end Go.Proofs.YtodcnkbblippnabGreatDoor
