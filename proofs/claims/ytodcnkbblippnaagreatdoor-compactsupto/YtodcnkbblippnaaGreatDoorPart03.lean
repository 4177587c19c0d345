/- Part 3 of a proof: walks of the program. -/
import Derived.Deep.RegionLaw
import Derived.BigRegion
import Derived.LaidEql
import Derived.Test.YtodcnkbblippnaaGreatDoorPart02
namespace Go.Proofs.YtodcnkbblippnaaGreatDoor
set_option maxRecDepth 100000
set_option maxHeartbeats 32000000
set_option linter.defProp false
open Go.Proofs.Tryz
section
open Go.RowKit
attribute [local go_sem ↓] Go.wp_at_zero Go.wp_at_succ
def Z5(w:gx)(b:Nat)(D:DS)(F:Nat->FC)(Ft:Nat->Prop)(h:Dj w b D F Ft)(E:gC)(p n:Int):
 Ag 82 #[A5 b,.string E,A0 p,A0 n] w (Aj (.tuple #[.string ⟨(FH D F E p n).1.toArray⟩,A0 (FH D F E p n).2]) λw'=>w=w'):=by
 obtain⟨vd,vs,vc,vals,VB,hr,hft⟩:=h;have c0:=hr.Ae.c0;have Y:=A1 hr.A6;obtain⟨a,cap,rfl,hc1,aF,L⟩:=hr.A6.BW;unfold maxLen at aF;rcases Jv D.A6 E with⟨h1,h2⟩|⟨k,hk,h1,h2,h3⟩
 ·have q:Hid (FH D F E p n=([],8)):=by unfold Hid FH;rw[h2]
  have hfi:B9 D.A6 E<0:=by omega
  go_enter func82,ntmps82
  go_wp2_with (go_at_call 77;refine(DM _ _ _ _ Y.o).k ?_;rintro w' rfl);go_ret2;rw[q.o];exact⟨rfl,rfl⟩
 ·have⟨hfb,z⟩:=hr.cq k hk;have⟨a',cap',hv,hl1,hl2⟩:=z.BW;unfold maxLen at hl2;rw[hv]at hfb z;have aB:=hfb.c0;have O:=A1 z;obtain⟨g,rfl,hn,hp⟩:=L k hk;have aD:=A1 h1;have aJ:=A1 h2;obtain⟨bs,z⟩:∃bs,(F (D.A6[k]'hk).2).1=bs:=⟨_,rfl⟩;have aI:=A1 z;rw[z]at aB hl1 O;have hlen:(bs.length:Int)<=9223372036854775807:=by omega
  have q:Hid (FH D F E p n=if p<0\/n<0\/p>bs.length\/n>bs.length-p then ([],9) else ((bs.drop p.toNat).take n.toNat,0)):=by
   unfold Hid FH;rw[aJ.o];dsimp only;rw[aI.o]
  by_cases aG:0<=p/\0<=n/\p<=bs.length/\n<=bs.length-p
  ·obtain⟨o1,o2,o3,o4⟩:=aG;obtain⟨d,rfl⟩:=Me o1;obtain⟨n',rfl⟩:=Me o2;have q2:Hid (FH D F E d n'=((bs.drop d).take n',0)):=by
    unfold Hid;rw[q.o,Af (by omega)];simp
   (have o5:d<=bs.length:=by omega);(have o6:n'<=bs.length-d:=by omega);have⟨_,_,he,_,_,_,hnil,hform⟩:=B8 O.o;cases he;by_cases aA:cap'=d
   ·(have aH:n'=0:=by omega);subst aH;have cv:∀(x:Option Addr) (c:Nat),(convert 127 9 (.slice x 0 c)).run Tryz.prog w=.ok (.string ⟨#[]⟩) w:=by
     intro x c;cases x with
     | none=>
      rw[run_convert_bytes_string (P:=Tryz.prog) w 127 9 5 none 0 c Hl Np GQ];rfl
     | some ad=>exact Oi (P:=Tryz.prog) w 127 9 5 ad c [] Hl Np GQ (by simp)
    subst aA
    go_enter func82,ntmps82
    go_wp2_with (go_at_call 77;refine(DM _ _ _ _ Y.o).k ?_;rintro w' rfl;rw[aD.o]);go_ret2;rw[q2.o];exact⟨by simp,rfl⟩
   ·obtain⟨I,aE⟩:∃I,a'=some (A9 I 0):=by
     cases ha:a' with
     | none=>have:=(hnil ha).2;omega
     | some ad=>obtain⟨g',rfl⟩:=hform ad ha;exact⟨g',rfl⟩
    subst aE;have cv:(convert 127 9 (.slice (some (A9 I d)) n' (cap'-d))).run Tryz.prog w=.ok (.string ⟨((bs.drop d).take n').toArray⟩) w:=by
     (have hl:((bs.drop d).take n').length=n':=by simp;omega)
     have:=Oi (P:=Tryz.prog) w 127 9 5 (A9 I d) (cap'-d) ((bs.drop d).take n') Hl Np GQ (by
      intro j hj;(have X:d+j<bs.length:=by simp at hj;omega);(have W:((A9 I d):Addr).add j=(A9 I (d+j)):=by unfold Addr.add;split<;>simp_all);rw[W];have:=Bv O.o (g:=I) rfl (j:=d+j) (u:=.int .u8 (bs[d+j]'X).toNat) (by simp[Ek,List.getElem?_eq_getElem X])
      simpa using this)
     rw[hl]at this;exact this
    go_enter func82,ntmps82
    go_wp2_with (go_at_call 77;refine(DM _ _ _ _ Y.o).k ?_;rintro w' rfl;rw[aD.o]);go_ret2;rw[q2.o];exact⟨rfl,rfl⟩
  ·have q2:Hid (FH D F E p n=([],9)):=by
    unfold Hid;rw[q.o,Ai (by omega)]
   go_enter func82,ntmps82
   go_wp2_with (go_at_call 77;refine(DM _ _ _ _ Y.o).k ?_;rintro w' rfl;rw[aD.o])
   all_goals (go_ret2;rw[q2.o];exact⟨rfl,rfl⟩)
def C9.b7{w w':gx}{b:Nat}{D:DS}{F:Nat->FC}{vd vs vc:gy}{L:gD gy}{Y:Nat->gy}{S:Nat->Prop}(h:C9 w b D F vd vs vc L Y){f:Nat}(hf:D.Aq f){vb':gy}{bs':gD UInt8}{s':Int}(h1:Db w' f vb' s')(h2:Gf w' vb' bs')(hc:A4 S w w')(hS:∀k,S k->k=f\/(Y f).ownBlock=some k)(hv:∀g,vb'.ownBlock=some g->(Y f).ownBlock=some g\/w.heap.size<=g):
 C9 w' b D (upd F f (bs',s')) vd vs vc L (λx=>if x=f then vb' else Y x):=by
 have⟨hf1,hf2⟩:=h.BN f hf;have E:∀(k:Nat) (c:Array gy) (e:Nat),w.heap[k]?=some (Obj.cells c e (0,0))->e≠129->e≠5->w'.heap[k]?=w.heap[k]?:=λk c e E X aB=>
  hc.Al k (By E) (λd=>by
   rcases hS k d with d|d
   ·exact BR E hf1 X d
   ·have⟨c',hh⟩:=Bb hf2 d
    exact BR E hh aB rfl)
 refine⟨?_,?_,?_,?_,?_,?_,?_⟩
 ·have:=h.Ae;unfold AM at this ⊢;rw[E b _ _ this (by decide) (by decide)];exact this
 ·exact Au h.A6 λg z=>by have⟨c,hh⟩:=Bb h.A6 z;exact E g _ _ hh (by decide) (by decide)
 ·exact Au h.AF λg z=>by have⟨c,hh⟩:=Bb h.AF z;exact E g _ _ hh (by decide) (by decide)
 ·exact Au h.Am λg z=>by have⟨c,hh⟩:=Bb h.Am z;exact E g _ _ hh (by decide) (by decide)
 ·intro i hi;have⟨v,h1,h2⟩:=h.Di i hi;exact⟨v,h1,Au h2 λg z=>by have⟨c,hh⟩:=Bb h2 z;exact E g _ _ hh (by decide) (by decide)⟩
 ·intro f2 I;by_cases X:f2=f
  ·subst X;simp only[upd,Cq];exact⟨h1,h2⟩
  ·have⟨g1,g2⟩:=h.BN f2 I;simp only[upd,X,Cd];refine⟨g1.aw (hc.Al f2 (By g1) (λd=>?_)),Au g2 λg z=>hc.Al g (Aw g2 z) (λd=>?_)⟩
   ·rcases hS _ d with d|d
    ·exact X d
    ·have⟨c',hh⟩:=Bb hf2 d;exact BR g1 hh (by decide) rfl
   ·rcases hS _ d with d|d
    ·have⟨c',hh⟩:=Bb g2 z;exact BR hh hf1 (by decide) d
    ·exact X (h.GG f2 f g I hf z d)
 ·have key:∀f2 g,D.Aq f2->f2≠f->(Y f2).ownBlock=some g->vb'.ownBlock=some g->False:=by
   intro f2 g h3 aA h4 h5;rcases hv g h5 with h6|h6
   ·exact aA (h.GG f2 f g h3 hf h4 h6)
   ·have:=Aw (h.BN f2 h3).2 h4;omega
  intro f1 f2 g k1 k2 W O;by_cases a1:f1=f<;>by_cases a2:f2=f
  ·rw[a1,a2]
  ·simp only[a1,Cq]at W;simp only[a2,Cd]at O;exact(key f2 g k2 a2 O W).elim
  ·simp only[a2,Cq]at O;simp only[a1,Cd]at W;exact(key f1 g k1 a1 W O).elim
  ·simp only[a1,Cd]at W;simp only[a2,Cd]at O;exact h.GG f1 f2 g k1 k2 W O
def Cf.b7{b:Nat}{D:DS}{O I E:gy}{d:gD gy}{z:Nat->gy}{f:Nat}{vb':gy}{N:Nat}(W:D.Aq f)(X:∀g,vb'.ownBlock=some g->(z f).ownBlock=some g\/N<=g){k:Nat}(h:Cf b D O I E d (λx=>if x=f then vb' else z x) k):Cf b D O I E d z k\/N<=k:=by
 cases h using Cf.bN with
 | Ae=>exact .inl .Ae
 | dir e=>exact .inl (.A6 e)
 | Ad e=>exact .inl (.AF e)
 | Am e=>exact .inl (.Am e)
 | Di h e=>exact .inl (.Di h e)
 | BN h=>exact .inl (.BN h)
 | byt h e=>
  rename_i f2;by_cases L:f2=f
  ·simp only[L,Cq]at e;rcases X k e with h|h
   ·exact .inl (.bE W h)
   ·exact .inr h
  ·simp only[L,Cd]at e;exact .inl (.bE h e)
def C9.BY{w:gx}{b:Nat}{D:DS}{F:Nat->FC}{L W O:gy}{E:gD gy}{I:Nat->gy}(h:C9 w b D F L W O E I)(k:Nat)(z:k<D.A6.length):
 ∃g cap a' d,L=.slice (some ⟨g,0,none⟩) D.A6.length cap/\I (D.A6[k]'z).2=.slice a' (F (D.A6[k]'z).2).1.length d/\D.A6.length<=cap/\cap<=maxLen/\(F (D.A6[k]'z).2).1.length<=d/\d<=maxLen:=by
 have⟨a,cap,hv,h1,h2,hc⟩:=h.A6.BW;obtain⟨g,rfl,_,_⟩:=hc k z;have⟨a',d,h3,h4,h5⟩:=(h.cq k z).2.BW;exact⟨g,cap,a',d,hv,h3,h1,h2,h4,h5⟩
structure QG (w:gx) (b:Nat) (g k f n cap l cap':Nat) (a':Option Addr) (nd:gC) (Ad:Int):Prop where
 d:A8 w b 0 (AA g n cap)
 n:A8 w g (k*2) (.string nd)
 p:A8 w g (k*2+1) (A5 f)
 f0:A8 w f 0 (.slice a' l cap')
 f1:A8 w f 1 (A0 Ad)
 fz:∀o,w.frozen? (A9 f o)=false
 gf:¬g=f
 fg:¬f=g
 gb:¬g=b
 bg:¬b=g
 fb:¬f=b
 bf:¬b=f
def C9.dI{w:gx}{b:Nat}{D:DS}{F:Nat->FC}{L W Y:gy}{E:gD gy}{I:Nat->gy}(h:C9 w b D F L W Y E I)(k:Nat)(d:k<D.A6.length){g cap z:Nat}{a':Option Addr}(X:L=AA g D.A6.length cap)(O:I (D.A6[k]'d).2=.slice a' (F (D.A6[k]'d).2).1.length z):
 QG w b g k (D.A6[k]'d).2 D.A6.length cap (F (D.A6[k]'d).2).1.length z a' (D.A6[k]'d).1 (F (D.A6[k]'d).2).2:=by
 subst X;have⟨hf,hb⟩:=h.cq k d;rw[O]at hf;have⟨c,hh⟩:=Bb h.A6 (g:=g) rfl
 exact⟨h.Ae.c0,Bv h.A6 rfl (PC _ k d),Bv h.A6 rfl (Pz _ k d),hf.c0,hf.c1,hf.fz,λe=>BR hh hf (by decide) e,λe=>BR hh hf (by decide) e.symm,
  λe=>BR hh h.Ae (by decide) e,λe=>BR hh h.Ae (by decide) e.symm,λe=>BR hf h.Ae (by decide) e,λe=>BR hf h.Ae (by decide) e.symm⟩
def CN(D:DS)(F:Nat->FC)(d:gC):Int×DS×(Nat->FC):=match lookup D.A6 d with
 | none=>(8,D,F)
 | some f=>((bg D.n).2.1,{D with n:=(bg D.n).2.2},if (bg D.n).2.1=0 then upd F f ((F f).1,(F f).1.length) else F)
def Xh(w:gx)(b:Nat)(D:DS)(F:Nat->FC)(Ft:Nat->Prop)(h:Dj w b D F Ft)(nd:gC):
 Ag 85 #[A5 b,.string nd] w (Aj (A0 (CN D F nd).1) λw'=>DB w Ft w' b (CN D F nd).2.1 (CN D F nd).2.2):=by
 obtain⟨vd,vs,vc,vals,aG,hr,X⟩:=h;have c0:=hr.Ae.c0;have hd:=A1 hr.A6;have aD:=A1 hr.Ae;have aE:=A1 hr;rcases Jv D.A6 nd with⟨h1,h2⟩|⟨k,z,h1,h2,h3⟩
 ·have q:Hid (CN D F nd=(8,D,F)):=by unfold Hid CN;rw[h2]
  have hfi:B9 D.A6 nd<0:=by omega
  go_enter func85,ntmps85
  go_wp2_with (go_at_call 77;refine(DM _ _ _ _ hd.o).k ?_;rintro w' rfl);go_ret;rw[q.o];exact⟨rfl,DB.bC (A4.C _ _) aE.o λk z=>.inl (X k z)⟩
 ·have q:Hid (CN D F nd=((bg D.n).2.1,{D with n:=(bg D.n).2.2},if (bg D.n).2.1=0 then upd F (D.A6[k]'z).2 ((F (D.A6[k]'z).2).1,(F (D.A6[k]'z).2).1.length) else F)):=by unfold Hid CN;rw[h2]
  have aH:=A1 h1;by_cases L:(bg D.n).2.1=0
  ·(have aB:((bg D.n).2.1==0)=true:=by simpa using L);have O:=A1 <| L;clear L;have hk0:=BJ k;(have hk1:(k:Int)<(D.A6.length:Int):=by omega);obtain⟨g,cap,a',aA,rfl,hv,z1,z2,z3,z4⟩:=aE.o.BY k z;have aF:=A1 hv;unfold maxLen at z2 z4;clear hv;obtain⟨f,hf⟩:∃f,(D.A6[k]'z).2=f:=⟨_,rfl⟩;have I:Hid (D.Aq f):=.inl ⟨_,BV z,hf⟩
   have fin:Hid (∀Y,AM Y b (AA g D.A6.length cap) vs vc (bg D.n).2.2->A4 (One b) w Y->QG Y b g k f D.A6.length cap (F f).1.length aA a' (D.A6[k]'z).1 (F f).2/\
    DB w Ft (Y.sC f 1 (A0 (F f).1.length)).drew b {D with n:=(bg D.n).2.2} (upd F f ((F f).1,(F f).1.length))):=by
    intro Y W E;have r1:=aE.o.an W E;subst hf;refine⟨r1.dI k z rfl aF.o,?_⟩;have⟨hf1,hf2⟩:=r1.cq k z;have r2:=r1.b7 (S:=One (D.A6[k]'z).2) (w':=(Y.sC ((D.A6[k]'z).2) 1 (A0 (F (D.A6[k]'z).2).1.length)).drew) (f:=(D.A6[k]'z).2) I.o (vb':=aG (D.A6[k]'z).2) (bs':=(F (D.A6[k]'z).2).1) (s':=(F (D.A6[k]'z).2).1.length)
     (hf1.s1 _) (by
      refine OH hf2 (a:=(A9 ((D.A6[k]'z).2) 1)) ?_ _;intro e;have⟨c,hh⟩:=Bb hf2 e
      exact BR hh hf1 (by decide) rfl) (((A4.C (One _) Y).ao rfl 1 _).aa) (λk z=>.inl z) (λg hg=>.inl hg)
    refine DB.bC ?_ r2 ?_
    ·exact((E.ai (S':=Ft) λk _ z=>by cases z;exact X b .Ae).ao (X _ (.BN I.o)) 1 _).aa
    ·intro x hx;rcases Cf.b7 (N:=w.heap.size) (vb':=aG (D.A6[k]'z).2) (f:=(D.A6[k]'z).2) I.o (λg hg=>.inl hg) hx.n with h|h
     ·exact .inl (X x h)
     ·exact .inr h
   rw[hf]at q;clear hf aF
   go_enter func85,ntmps85
   go_wp2_with (first
    | (go_at_call 77;refine(DM _ _ _ _ hd.o).k ?_;rintro w' rfl;rw[aH.o])
    | (go_at_call 121;refine(Hj _ _ _ _ _ _ aD.o).k ?_;rintro Y⟨W,E⟩))
   have⟨hat,haf⟩:=fin.o Y W E;have aI:=A1 haf;have x1:=hat.d;have x2:=hat.p;have x3:=hat.f0;have x4:=hat.f1;have x5:=hat.fz;have x7:=hat.fg;clear haf hat;go_region_held3 (λw'=>w'.cell? ⟨b,0,none⟩=some (.slice (some ⟨g,0,none⟩) D.A6.length cap)/\w'.cell? ⟨g,k*2+1,none⟩=some (.pointer (some ⟨f,0,none⟩))/\w'.cell? ⟨f,0,none⟩=some (.slice a' (F f).1.length aA)) (refine⟨?_,?_,?_⟩<;>go_simp) (fail);go_wp2;go_ret;rw[q.o,Ai O.o];exact⟨rfl,aI.o⟩
  ·(have aB:((bg D.n).2.1==0)=false:=by simpa using L);have O:=A1 <| L
   go_enter func85,ntmps85
   go_wp2_with (first
    | (go_at_call 77;refine(DM _ _ _ _ hd.o).k ?_;rintro w' rfl;rw[aH.o])
    | (go_at_call 121;refine(Hj _ _ _ _ _ _ aD.o).k ?_;rintro Y⟨W,E⟩))
   go_ret;rw[q.o,Af O.o];exact⟨rfl,aE.o.bV X W E⟩
def C9.aa{w:gx}{b:Nat}{D:DS}{F:Nat->FC}{L E z:gy}{d:gD gy}{I:Nat->gy}(h:C9 w b D F L E z d I):C9 w.drew b D F L E z d I:=
 ⟨h.Ae,h.A6,h.AF,h.Am,h.Di,h.BN,h.GG⟩
def Dj.aa{w:gx}{b:Nat}{D:DS}{F:Nat->FC}{Ft:Nat->Prop}(h:Dj w b D F Ft):Dj w.drew b D F Ft:=by
 obtain⟨W,I,E,d,O,L,z⟩:=h;exact⟨W,I,E,d,O,L.aa,z⟩
def A3n(s:gC):byteCells s=Ek s.data.toList:=rfl
def N0(s:gC)(m:Nat):(s.extract 0 m).data.toList=s.data.toList.take m:=by
 simp[ByteArray.data_extract]
def Gn(D:DS)(F:Nat->FC):Int:=max (D.n.Av-AU F D.A6) 0
def BP(D:DS)(F:Nat->FC)(f:Nat)(data:gC)(n0:Int)(e:Int):Int×DS×(Nat->FC):=
 if n0>Gn D F then
  (if e=0 then 6 else e,if e=0 then {D with n:={D.n with Bk:=wrap64 (D.n.Bk+1),fulls:=wrap64 (D.n.fulls+1)}} else D,upd F f ((F f).1++data.data.toList.take (Gn D F).toNat,(F f).2))
 else (e,D,upd F f ((F f).1++data.data.toList.take n0.toNat,(F f).2))
def BA(D:DS)(F:Nat->FC)(d data:gC):Int×DS×(Nat->FC):=match lookup D.A6 d with
 | none=>(8,D,F)
 | some f=>
  let r:=bg D.n
  let D1:={D with n:=r.2.2}
  if r.1 then BP D1 F f data data.size r.2.1
  else if r.2.2.Bh=false/\0<data.size then BP D1 F f data (r.2.2.BG % data.size) r.2.1
  else (r.2.1,D1,F)
def A3W{w w2 W X:gx}{b:Nat}{D:DS}{F:Nat->FC}{vd vs vc v3:gy}{z:gD gy}{L:Nat->gy}{Ft:Nat->Prop}{f:Nat}{n2:DN}{news:gD UInt8}(hc:A4 Ft w w2)(h2:C9 w2 b D F vd vs vc z L)(d:∀k,Cf b D vd vs vc z L k->Ft k)(Y:D.Aq f)(hW:AM W b vd vs vc n2)(I:A4 (One b) w2 W)(hA:App W X 5 1 (L f) v3 ((F f).1.length+news.length) (Ek (F f).1++Ek news)):
 Db X f (L f) (F f).2/\DB w Ft (X.setCell ⟨f,0,none⟩ v3) b {D with n:=n2} (upd F f ((F f).1++news,(F f).2)):=by
 have rW:=h2.an hW I;have⟨hf1,hf2⟩:=rW.BN f Y
 have E:=hf1.aw (hA.C7.block f (By hf1) (λe=>by
  have⟨c,hh⟩:=Bb hf2 e.symm
  exact BR hh hf1 (by decide) rfl))
 refine⟨E,?_⟩;have O:Gf X v3 ((F f).1++news):=by
  have:=hA.AB;unfold Gf;rw[A3m,B3];exact this
 have aA:Gf (X.setCell ⟨f,0,none⟩ v3) v3 ((F f).1++news):=by
  refine OH O (a:=⟨f,0,none⟩) ?_ _;intro e;have⟨c,hh⟩:=Bb O e;exact BR hh E (by decide) rfl
 have aB:=(hA.Am (S:=λk=>k=f\/(L f).ownBlock=some k) (λk hk=>.inr hk)).ao (.inl rfl) 0 v3;have hv:∀g,v3.ownBlock=some g->(L f).ownBlock=some g\/W.heap.size<=g:=by
  intro g hg;rcases hA.BY with h|h
  ·exact .inl (h.symm.trans hg)
  ·rw[hg]at h;cases h;exact .inr (Ao _)
 have r3:=rW.b7 Y (E.s0 v3) aA aB (λk hk=>hk) hv;have s1:=hc.Ak;have s2:=I.Ak;refine DB.bC ?_ r3 ?_
 ·refine(hc.AH I (S':=One b) λx hx _=>by cases hx;exact d b .Ae).AH aB ?_;rintro x (rfl|hx) _
  ·exact d _ (.BN Y)
  ·exact d _ (.bE Y hx)
 ·intro x hx;rcases Cf.b7 (N:=w.heap.size) (vb':=v3) (f:=f) Y (λg hg=>(hv g hg).imp id λh=>by omega) hx.n with h|h
  ·exact .inl (d x h)
  ·exact .inr h
def A3X(w:gx)(b:Nat)(D:DS)(F:Nat->FC)(Ft:Nat->Prop)(h:Dj w b D F Ft)(nd data:gC)(hroom : -4611686018427387904<=D.n.Av/\D.n.Av<=9223372036854775807)(hu:AU F D.A6<=4611686018427387904)(hp:0<=D.n.BG/\D.n.BG<=9223372036854775807)(hl:∀f,lookup D.A6 nd=some f->(F f).1.length+data.size<=70368744177664):
 Ag 84 #[A5 b,.string nd,.string data] w (Aj (A0 (BA D F nd data).1) λw'=>DB w Ft w' b (BA D F nd data).2.1 (BA D F nd data).2.2):=by
 obtain⟨vd,vs,vc,aN,bF,hr,aU⟩:=h;have c0:=hr.Ae.c0;have hd:=A1 hr.A6;have aM:=A1 hr.Ae;have bN:=A1 hr;rcases Jv D.A6 nd with⟨h1,h2⟩|⟨k,hk,h1,h2,h3⟩
 ·have q:Hid (BA D F nd data=(8,D,F)):=by unfold Hid BA;rw[h2]
  have hfi:B9 D.A6 nd<0:=by omega
  go_enter func84,ntmps84
  go_wp2_with (go_at_call 77;refine(DM _ _ _ _ hd.o).k ?_;rintro w' rfl);go_ret;rw[q.o];exact⟨rfl,DB.bC (A4.C _ _) bN.o λk hk=>.inl (aU k hk)⟩
 ·obtain⟨g,cap,a',aD,rfl,hv,z1,z2,z3,z4⟩:=hr.BY k hk;generalize hf:(D.A6[k]'hk).2=f at hv h2 z3;have hl1:=hl f h2;have bG:=A1 hv;unfold maxLen at z2 z4;have aV:Hid (D.Aq f):=.inl ⟨_,BV hk,hf⟩;have aY:=A1 h1;have H2:=A1 h2;have a6:=A1 hu;have a3:=A1 aU;have⟨i0,hi,hz0,hz1,hz2⟩:=DL Tryz.infoByte;have hk0:=BJ k;have hk1:(k:Int)<(D.A6.length:Int):=by omega
  have a4:Hid (∀w1,AM w1 b (AA g D.A6.length cap) vs vc (bg D.n).2.2->A4 (One b) w w1->
   C9 w1 b {D with n:=(bg D.n).2.2} F (AA g D.A6.length cap) vs vc aN bF/\Dj w1 b {D with n:=(bg D.n).2.2} F Ft):=by
   intro w1 z Y;have r1:=hr.an z Y;exact⟨r1,_,_,_,_,_,r1,λk hk=>aU k hk.n⟩
  have a5:Hid (∀w1 X,AM w1 b (AA g D.A6.length cap) vs vc (bg D.n).2.2->A4 (One b) w w1->A4 Aa w1.drew X->
   C9 X b {D with n:=(bg D.n).2.2} F (AA g D.A6.length cap) vs vc aN bF/\A4 Ft w X/\QG X b g k f D.A6.length cap (F f).1.length aD a' (D.A6[k]'hk).1 (F f).2/\AM X b (AA g D.A6.length cap) vs vc (bg D.n).2.2):=by
   intro w1 X z Y aB;have r1:=(hr.an z Y).aa;have r2:=r1.aM λx hx=>aB.Al x (r1.lt hx) (λh=>h);refine⟨r2,?_,?_,r2.Ae⟩
   ·exact((Y.ai (S':=Ft) λk _ hk=>by cases hk;exact aU b .Ae).aa).AH aB (λx hx=>hx.elim)
   ·subst hf;exact r2.dI k hk rfl bG.o
  have aW:Hid (-4611686018427387904<=(bg D.n).2.2.Av/\(bg D.n).2.2.Av<=9223372036854775807/\0<=(bg D.n).2.2.BG/\(bg D.n).2.2.BG<=9223372036854775807):=by
   unfold Hid bg;dsimp only;split
   ·exact⟨hroom.1,hroom.2,hp.1,hp.2⟩
   ·split
    ·exact⟨hroom.1,hroom.2,hp.1,hp.2⟩
    ·split<;>exact⟨hroom.1,hroom.2,hp.1,hp.2⟩
  have q:Hid (BA D F nd data=(let r:=bg D.n
   let D1:={D with n:=r.2.2}
   if r.1 then BP D1 F f data data.size r.2.1
   else if r.2.2.Bh=false/\0<data.size then BP D1 F f data (r.2.2.BG % data.size) r.2.1
   else (r.2.1,D1,F))):=by unfold Hid BA;rw[h2]
  obtain⟨O,a7⟩:∃O,(bg D.n).2.2=O:=⟨_,rfl⟩;obtain⟨e1,bI⟩:∃e1,(bg D.n).2.1=e1:=⟨_,rfl⟩;obtain⟨d1,bM⟩:∃d1,(bg D.n).1=d1:=⟨_,rfl⟩;have a2:Hid (bg D.n=(d1,e1,O)):=by unfold Hid;rw[<-a7,<-bI,<-bM]
  rw[a7]at a4 a5 aW;have aZ:Hid (∀(W:gx),AM W b (AA g D.A6.length cap) vs vc D.n->Ag 121 #[A5 b] W (Aj (.tuple #[.bool d1,A0 e1]) λw'=>AM w' b (AA g D.A6.length cap) vs vc O/\A4 (One b) W w')):=by
   intro W hW;have:=Hj W b _ _ _ _ hW;rw[a2.o]at this;exact this
  rw[a2.o]at q;have⟨r1,r2,r3,r4⟩:=aW.o;have hun:(0:Int)<=AU F D.A6:=Gu _;have hul:(AU F D.A6:Int)<=4611686018427387904:=by have:=a6.o;omega
  have hw:IntKind.i64.wrap (O.Av-(AU F D.A6:Int))=O.Av-(AU F D.A6:Int):=by simp only[JV];omega
  obtain⟨L,hL⟩:∃L,(if O.Av-(AU F D.A6:Int)<0 then 0 else O.Av-(AU F D.A6:Int))=L:=⟨_,rfl⟩;have bJ:0<=L:=by rw[<-hL];split<;>omega
  have hLm:L<=9223372036854775807:=by rw[<-hL];split<;>omega
  have aO:Hid (Gn {D with n:=O} F=L):=by unfold Hid Gn;show max (O.Av-(AU F D.A6:Int)) 0=L;rw[<-hL];split<;>omega
  have bC:Hid (∀(X W:gx) (n2:DN),C9 X b {D with n:=O} F (AA g D.A6.length cap) vs vc aN bF->AM W b (AA g D.A6.length cap) vs vc n2->A4 (One b) X W->W.ownsRow 0 5 1 (.slice a' (F f).1.length aD) (F f).1.length (Ek (F f).1)):=by
   intro X W n2 h2 hW hc;have:=((h2.an hW hc).BN f aV.o).2;rw[bG.o]at this;exact this
  have bE:Hid (∀(X W w3:gx) (n2:DN) (s:gC) (b3:Option Addr) (aA:Nat),C9 X b {D with n:=O} F (AA g D.A6.length cap) vs vc aN bF->A4 Ft w X->AM W b (AA g D.A6.length cap) vs vc n2->A4 (One b) X W->
   App W w3 5 1 (.slice a' (F f).1.length aD) (.slice b3 ((F f).1.length+s.size) aA) ((F f).1.length+s.size) (Ek (F f).1++byteCells s)->
   Db w3 f (.slice a' (F f).1.length aD) (F f).2/\DB w Ft (w3.sC f 0 (.slice b3 ((F f).1.length+s.size) aA)) b {D with n:=n2} (upd F f ((F f).1++s.data.toList,(F f).2))):=by
   intro X W w3 n2 s b3 aA h2 hc hW bL hA;have:=A3W (n2:=n2) (f:=f) (v3:=.slice b3 ((F f).1.length+s.size) aA) (news:=s.data.toList) hc h2 (λk hk=>a3.o k hk.n) aV.o hW bL (by rw[bG.o];simpa[A3n] using hA);rw[bG.o]at this;exact this
  obtain⟨l,rfl⟩:=Me bJ;have BE:(if e1=0 then True else True):=by split<;>trivial
  cases d1 with
  | true=>
   by_cases aT:(l:Int)<(data.size:Int)
   ·by_cases he:e1=0
    ·(have bA:(e1==0)=true:=by simpa using he);have aL:=A1 he;(have aX:l<=data.size:=by omega);(have aH:(data.extract 0 l).size=l:=by simp;omega)
     go_enter func84,ntmps84
     go_wp2_with (first
      | (go_at_call 77;refine(DM _ _ _ _ hd.o).k ?_;rintro w' rfl;rw[aY.o])
      | (go_at_call 121;refine(aZ.o _ aM.o).k ?_;rintro w1⟨z,Y⟩))
     have⟨R1,P1⟩:=a4.o w1 z Y;have aK:=A1 P1;have aP:=z.c3;go_region_held3 (λw'=>w'.cell? ⟨b,3,none⟩=some (A0 O.Av)) (first|exact(AM.Am (w:=w1.drew) z aB (λh=>h)).c3|go_simp) ((go_at_call 90;refine(JY _ b _ F Ft aK.o.aa a6.o).k ?_;rintro X aB));have⟨R2,C2,K2,B2⟩:=a5.o w1 X z Y aB;have aF:=A1 R2;have aJ:=A1 C2;have aE:=A1 B2;have x1:=K2.d;have x2:=K2.p;have x3:=K2.f0;have x8:=K2.gb;have x9:=K2.bf;have aR:=K2.fb;have y8:=B2.c8;have y9:=B2.c9;have yz:=B2.fz;go_wp2;have aG:=A1 (bC.o X ((X.sC b 8 (A0 (wrap64 (O.Bk+1)))).sC b 9 (A0 (wrap64 (O.fulls+1)))).drew {O with Bk:=wrap64 (O.Bk+1),fulls:=wrap64 (O.fulls+1)} aF.o ((aE.o.s8 _).s9 _) ((((A4.C (One b) X).ao rfl 8 _).ao rfl 9 _).aa));(have aI:((F f).1.length+(data.extract 0 l).size)*1<=140737488355328:=by rw[aH];omega);go_region_law
      ((refine K4 ?_ (.tmp 90) (.tmp 93) 127 9 ?_ 5 i0 _ 1 1 Hl hi hz0 hz1 hz2 rfl Nv (.slice a' (F f).1.length aD) (F f).1.length (Ek (F f).1) ?_ aG.o (.string (data.extract 0 l)) (data.extract 0 l).size (byteCells (data.extract 0 l)) ?_ (Ns _ GQ (data.extract 0 l)) aI ?_;(· rfl);(· rfl);(· rfl);(· rfl);intro b3 aA w3 hA;have E:=A1 (bE.o X ((X.sC b 8 (A0 (wrap64 (O.Bk+1)))).sC b 9 (A0 (wrap64 (O.fulls+1)))).drew w3 {O with Bk:=wrap64 (O.Bk+1),fulls:=wrap64 (O.fulls+1)} (data.extract 0 l) b3 aA aF.o aJ.o ((aE.o.s8 _).s9 _) ((((A4.C (One b) X).ao rfl 8 _).ao rfl 9 _).aa) hA);have aQ:=E.o.1.fz;have aS:=E.o.1.c0))
     go_wp2;go_ret;have q1:=q.o;have q2:BP {D with n:=O} F f data (data.size:Int) e1=(6,{D with n:={O with Bk:=wrap64 (O.Bk+1),fulls:=wrap64 (O.fulls+1)}},upd F f ((F f).1++data.data.toList.take l,(F f).2)):=by
      unfold BP;rw[aO.o,Ai aT,Ai aL.o,Ai aL.o,ES]
     have I:=E.o.2;rw[N0,aH]at I;rw[q1,q2];exact⟨rfl,I⟩
    ·(have bA:(e1==0)=false:=by simpa using he);have aL:=A1 he;(have aX:l<=data.size:=by omega);(have aH:(data.extract 0 l).size=l:=by simp;omega)
     go_enter func84,ntmps84
     go_wp2_with (first
      | (go_at_call 77;refine(DM _ _ _ _ hd.o).k ?_;rintro w' rfl;rw[aY.o])
      | (go_at_call 121;refine(aZ.o _ aM.o).k ?_;rintro w1⟨z,Y⟩))
     have⟨R1,P1⟩:=a4.o w1 z Y;have aK:=A1 P1;have aP:=z.c3;go_region_held3 (λw'=>w'.cell? ⟨b,3,none⟩=some (A0 O.Av)) (first|exact(AM.Am (w:=w1.drew) z aB (λh=>h)).c3|go_simp) ((go_at_call 90;refine(JY _ b _ F Ft aK.o.aa a6.o).k ?_;rintro X aB));have⟨R2,C2,K2,B2⟩:=a5.o w1 X z Y aB;have aF:=A1 R2;have aJ:=A1 C2;have aE:=A1 B2;have x1:=K2.d;have x2:=K2.p;have x3:=K2.f0;have x8:=K2.gb;have x9:=K2.bf;have aR:=K2.fb;go_wp2;have aG:=A1 (bC.o X X.drew O aF.o aE.o ((A4.C (One b) X).aa));(have aI:((F f).1.length+(data.extract 0 l).size)*1<=140737488355328:=by rw[aH];omega);go_region_law
      ((refine K4 ?_ (.tmp 90) (.tmp 93) 127 9 ?_ 5 i0 _ 1 1 Hl hi hz0 hz1 hz2 rfl Nv (.slice a' (F f).1.length aD) (F f).1.length (Ek (F f).1) ?_ aG.o (.string (data.extract 0 l)) (data.extract 0 l).size (byteCells (data.extract 0 l)) ?_ (Ns _ GQ (data.extract 0 l)) aI ?_;(· rfl);(· rfl);(· rfl);(· rfl);intro b3 aA w3 hA;have E:=A1 (bE.o X X.drew w3 O (data.extract 0 l) b3 aA aF.o aJ.o aE.o ((A4.C (One b) X).aa) hA);have aQ:=E.o.1.fz;have aS:=E.o.1.c0))
     go_wp2;go_ret;have q1:=q.o;have q2:BP {D with n:=O} F f data (data.size:Int) e1=(e1,{D with n:=O},upd F f ((F f).1++data.data.toList.take l,(F f).2)):=by
      unfold BP;rw[aO.o,Ai aT,Af aL.o,Af aL.o,ES]
     have I:=E.o.2;rw[N0,aH]at I;rw[q1,q2];exact⟨rfl,I⟩
   ·(have a9:(data.size:Int)<=l:=by omega)
    go_enter func84,ntmps84
    go_wp2_with (first
     | (go_at_call 77;refine(DM _ _ _ _ hd.o).k ?_;rintro w' rfl;rw[aY.o])
     | (go_at_call 121;refine(aZ.o _ aM.o).k ?_;rintro w1⟨z,Y⟩))
    have⟨R1,P1⟩:=a4.o w1 z Y;have aK:=A1 P1;have aP:=z.c3;go_region_held3 (λw'=>w'.cell? ⟨b,3,none⟩=some (A0 O.Av)) (first|exact(AM.Am (w:=w1.drew) z aB (λh=>h)).c3|go_simp) ((go_at_call 90;refine(JY _ b _ F Ft aK.o.aa a6.o).k ?_;rintro X aB));have⟨R2,C2,K2,B2⟩:=a5.o w1 X z Y aB;have aF:=A1 R2;have aJ:=A1 C2;have aE:=A1 B2;have x1:=K2.d;have x2:=K2.p;have x3:=K2.f0;have x8:=K2.gb;have x9:=K2.bf;have aR:=K2.fb;go_wp2;have aG:=A1 (bC.o X X.drew O aF.o aE.o ((A4.C (One b) X).aa));(have aI:((F f).1.length+data.size)*1<=140737488355328:=by omega);go_region_law
     ((refine K4 ?_ (.tmp 90) (.tmp 93) 127 9 ?_ 5 i0 _ 1 1 Hl hi hz0 hz1 hz2 rfl Nv (.slice a' (F f).1.length aD) (F f).1.length (Ek (F f).1) ?_ aG.o (.string data) data.size (byteCells data) ?_ (Ns _ GQ data) aI ?_;(· rfl);(· rfl);(· rfl);(· rfl);intro b3 aA w3 hA;have E:=A1 (bE.o X X.drew w3 O data b3 aA aF.o aJ.o aE.o ((A4.C (One b) X).aa) hA);have aQ:=E.o.1.fz;have aS:=E.o.1.c0))
    go_wp2;go_ret;have q1:=q.o;have q2:BP {D with n:=O} F f data (data.size:Int) e1=(e1,{D with n:=O},upd F f ((F f).1++data.data.toList,(F f).2)):=by
     unfold BP;rw[aO.o,Af (by omega),ES,El (by show data.data.toList.length<=data.data.size;rw[Mf];exact Ao _)]
    have I:=E.o.2;rw[q1,q2];exact⟨rfl,I⟩
  | false=>
   have a8:Hid (e1=5/\O.Bh=O.Bh):=by
    have:=a2.o;unfold Hid;unfold bg at this;dsimp only at this;split at this
    ·cases this;exact⟨rfl,rfl⟩
    ·split at this
     ·cases this
     ·split at this
      ·cases this;exact⟨rfl,rfl⟩
      ·cases this
   by_cases hC:O.Bh=false/\0<data.size
   ·obtain⟨a1,bB⟩:=hC;(have bD:(0:Int)<(data.size:Int):=by omega);have⟨m,hm⟩:=Me (NO O.BG (b:=(data.size:Int)) (by omega));(have hml:(m:Int)<(data.size:Int):=by rw[<-hm];exact Wl _ bD);have qC:Hid (BA D F nd data=BP {D with n:=O} F f data (m:Int) e1):=by
     have:=q.o;rw[<-hm];unfold Hid;rw[this];simp only[QE,Cd,a1,bB,and_self,Cq]
    (have aL:Hid (¬e1=0):=by have:=a8.o.1;unfold Hid;omega);(have bA:(e1==0)=false:=by have:=a8.o.1;simp[this]);by_cases aT:(l:Int)<(m:Int)
    ·(have aX:l<=data.size:=by omega);(have aH:(data.extract 0 l).size=l:=by simp;omega)
     go_enter func84,ntmps84
     go_wp2_with (first
      | (go_at_call 77;refine(DM _ _ _ _ hd.o).k ?_;rintro w' rfl;rw[aY.o])
      | (go_at_call 121;refine(aZ.o _ aM.o).k ?_;rintro w1⟨z,Y⟩;have bH:=z.c7;have a0:=z.bt))
     have⟨R1,P1⟩:=a4.o w1 z Y;have aK:=A1 P1;have aP:=z.c3;go_region_held3 (λw'=>w'.cell? ⟨b,3,none⟩=some (A0 O.Av)) (first|exact(AM.Am (w:=w1.drew) z aB (λh=>h)).c3|go_simp) ((go_at_call 90;refine(JY _ b _ F Ft aK.o.aa a6.o).k ?_;rintro X aB));have⟨R2,C2,K2,B2⟩:=a5.o w1 X z Y aB;have aF:=A1 R2;have aJ:=A1 C2;have aE:=A1 B2;have x1:=K2.d;have x2:=K2.p;have x3:=K2.f0;have x8:=K2.gb;have x9:=K2.bf;have aR:=K2.fb;go_wp2;have aG:=A1 (bC.o X X.drew O aF.o aE.o ((A4.C (One b) X).aa));(have aI:((F f).1.length+(data.extract 0 l).size)*1<=140737488355328:=by rw[aH];omega);go_region_law
      ((refine K4 ?_ (.tmp 90) (.tmp 93) 127 9 ?_ 5 i0 _ 1 1 Hl hi hz0 hz1 hz2 rfl Nv (.slice a' (F f).1.length aD) (F f).1.length (Ek (F f).1) ?_ aG.o (.string (data.extract 0 l)) (data.extract 0 l).size (byteCells (data.extract 0 l)) ?_ (Ns _ GQ (data.extract 0 l)) aI ?_;(· rfl);(· rfl);(· rfl);(· rfl);intro b3 aA w3 hA;have E:=A1 (bE.o X X.drew w3 O (data.extract 0 l) b3 aA aF.o aJ.o aE.o ((A4.C (One b) X).aa) hA);have aQ:=E.o.1.fz;have aS:=E.o.1.c0))
     go_wp2;go_ret;have q1:=qC.o;have q2:BP {D with n:=O} F f data (m:Int) e1=(e1,{D with n:=O},upd F f ((F f).1++data.data.toList.take l,(F f).2)):=by
      unfold BP;rw[aO.o,Ai aT,Af aL.o,Af aL.o,ES]
     have I:=E.o.2;rw[N0,aH]at I;rw[q1,q2];exact⟨rfl,I⟩
    ·(have a9:(m:Int)<=l:=by omega);(have aX:m<=data.size:=by omega);(have aH:(data.extract 0 m).size=m:=by simp;omega)
     go_enter func84,ntmps84
     go_wp2_with (first
      | (go_at_call 77;refine(DM _ _ _ _ hd.o).k ?_;rintro w' rfl;rw[aY.o])
      | (go_at_call 121;refine(aZ.o _ aM.o).k ?_;rintro w1⟨z,Y⟩;have bH:=z.c7;have a0:=z.bt))
     have⟨R1,P1⟩:=a4.o w1 z Y;have aK:=A1 P1;have aP:=z.c3;go_region_held3 (λw'=>w'.cell? ⟨b,3,none⟩=some (A0 O.Av)) (first|exact(AM.Am (w:=w1.drew) z aB (λh=>h)).c3|go_simp) ((go_at_call 90;refine(JY _ b _ F Ft aK.o.aa a6.o).k ?_;rintro X aB));have⟨R2,C2,K2,B2⟩:=a5.o w1 X z Y aB;have aF:=A1 R2;have aJ:=A1 C2;have aE:=A1 B2;have x1:=K2.d;have x2:=K2.p;have x3:=K2.f0;have x8:=K2.gb;have x9:=K2.bf;have aR:=K2.fb;go_wp2;have aG:=A1 (bC.o X X.drew O aF.o aE.o ((A4.C (One b) X).aa));(have aI:((F f).1.length+(data.extract 0 m).size)*1<=140737488355328:=by rw[aH];omega);go_region_law
      ((refine K4 ?_ (.tmp 90) (.tmp 93) 127 9 ?_ 5 i0 _ 1 1 Hl hi hz0 hz1 hz2 rfl Nv (.slice a' (F f).1.length aD) (F f).1.length (Ek (F f).1) ?_ aG.o (.string (data.extract 0 m)) (data.extract 0 m).size (byteCells (data.extract 0 m)) ?_ (Ns _ GQ (data.extract 0 m)) aI ?_;(· rfl);(· rfl);(· rfl);(· rfl);intro b3 aA w3 hA;have E:=A1 (bE.o X X.drew w3 O (data.extract 0 m) b3 aA aF.o aJ.o aE.o ((A4.C (One b) X).aa) hA);have aQ:=E.o.1.fz;have aS:=E.o.1.c0))
     go_wp2;go_ret;have q1:=qC.o;have q2:BP {D with n:=O} F f data (m:Int) e1=(e1,{D with n:=O},upd F f ((F f).1++data.data.toList.take m,(F f).2)):=by
      unfold BP;rw[aO.o,Af (by omega),ES]
     have I:=E.o.2;rw[N0,aH]at I;rw[q1,q2];exact⟨rfl,I⟩
   ·have qC:Hid (BA D F nd data=(e1,{D with n:=O},F)):=by
     have:=q.o;unfold Hid;rw[this];simp only[QE,Cd,hC]
    by_cases a1:O.Bh=true
    ·go_enter func84,ntmps84
     go_wp2_with (first
      | (go_at_call 77;refine(DM _ _ _ _ hd.o).k ?_;rintro w' rfl;rw[aY.o])
      | (go_at_call 121;refine(aZ.o _ aM.o).k ?_;rintro w1⟨z,Y⟩;have a0:=z.bt))
     go_ret;rw[qC.o];exact⟨rfl,bN.o.bV a3.o z Y⟩
    ·(have bK:O.Bh=false:=by simpa using a1);have bB:(data.size:Int)<=0:=by
      have:¬0<data.size:=λh=>hC ⟨bK,h⟩;omega
     go_enter func84,ntmps84
     go_wp2_with (first
      | (go_at_call 77;refine(DM _ _ _ _ hd.o).k ?_;rintro w' rfl;rw[aY.o])
      | (go_at_call 121;refine(aZ.o _ aM.o).k ?_;rintro w1⟨z,Y⟩;have a0:=z.bt))
     go_ret;rw[qC.o];exact⟨rfl,bN.o.bV a3.o z Y⟩
def less(a b:gC):Bool:=Op.bytesLess a.toList b.toList
def G5(l:gD gC):gD Value:=l.map Value.string
def EN(l:gD gC)(x:gC):Nat->Nat
 | 0=>0
 | k+1=>match l[k]? with
  | some y=>if less x y then EN l x k else k+1
  | none=>k+1
def ins(l:gD gC)(x:gC):gD ByteArray:=l.take (EN l x l.length)++x::l.drop (EN l x l.length)
def F7(es:gD AO):Nat->gD gC
 | 0=>[]
 | k+1=>match es[k]? with
  | some e=>ins (F7 es k) e.1
  | none=>F7 es k
def dList(es:gD AO):gD ByteArray:=F7 es es.length
def Ue(l:gD gC)(x:gC)(k:Nat):EN l x k<=k:=by
 induction k with
 | zero=>simp[EN]
 | succ k ih=>
  simp only[EN];split
  ·split<;>omega
  ·omega
def A1p(l:gD gC)(x:gC):(ins l x).length=l.length+1:=by
 have:=Ue l x l.length;simp[ins];omega
def N7(es:gD AO)(k:Nat)(hk:k<=es.length):(F7 es k).length=k:=by
 induction k with
 | zero=>rfl
 | succ k ih=>
  simp only[F7,Dz (show k<es.length by omega)];rw[A1p,ih (by omega)]
def N6(es:gD AO)(k:Nat)(d:k<es.length):F7 es (k+1)=ins (F7 es k) (es[k]'d).1:=by
 simp only[F7,Dz d]
def Ud(l:gD gC)(x:gC)(k:Nat)(d:k<l.length)(h:less x (l[k]'d)=true):EN l x (k+1)=EN l x k:=by
 simp only[EN,Dz d];rw[Ai h]
def Uc(l:gD gC)(x:gC)(k:Nat)(d:k<l.length)(h:less x (l[k]'d)=false):EN l x (k+1)=k+1:=by
 simp only[EN,Dz d];rw[Af (by simp[h])]
def Xy(l:gD gC)(x:gC)(m:Nat)(h:m<l.length):
 ((G5 (l.take (m+1)++x::l.drop (m+1))).set (m+1) (.string (l[m]'h))).set m (.string x)=G5 (l.take m++x::l.drop m):=by
 have z:=Dq h;have I:=FK h;have E:(l.take m).length=m:=by simp;omega
 rw[z,I];unfold G5;simp only[EG,GW,Ci,G2,Fa];have d:(List.map Value.string (l.take m)).length=m:=by simpa using E
 rw[J7 _ _ (by omega),d,show m+1-m=1 from by omega];simp only[Qn,VS];rw[J7 _ _ (by omega),d,Nx];rfl
def P5(w:gx)(b:Nat)(D:DS)(F:Nat->FC)(Ft:Nat->Prop)(h:Dj w b D F Ft)(hs:D.A6.length<1099511627776):
 Ag 76 #[A5 b] w λe w'=>∃v,e=.returned v/\w'.ownsRow 0 9 1 v D.A6.length (G5 (dList D.A6))/\A4 Aa w w'/\(∀g,v.ownBlock=some g->w.heap.size<=g):=by
 obtain⟨vd,vs,vc,vals,VB,hr,hft⟩:=h;have a8:=A1 hr;have c0:=hr.Ae.c0;have⟨i0,hi,hz0,hz1,hz2⟩:=DL Tryz.fa;obtain⟨a,cap,rfl,z1,z2,aB⟩:=a8.o.A6.BW;unfold maxLen at z2;have aY:i0.bytes*D.A6.length<=281474976710656:=by rw[hz2];omega
 have a0:D.A6.length<=maxLen:=by unfold maxLen;omega
 have aZ:=A1 aY;have a2:=A1 a0
 go_enter func76,ntmps76
 go_wp2_with (at_make;refine wpList_make_own _ rfl _ _ 121 rfl 0 9 i0 _ 1 HH hi hz0 hz1 _ _ _ D.A6.length rfl rfl rfl aZ.o a2.o (Ch _) ?_;intro w1 aD aN;have c01:=aN.cell c0 (by simp);have aQ:=A1 aD);go_loopw [3,18] (λv i wr=>∃k:Nat,k<=D.A6.length/\i=A0 k/\A4 Aa w wr/\Hid (wr.ownsRow 0 9 1 v k (G5 (F7 D.A6 k)))/\Hid (∀x,v.oB x->w.heap.size<=x)) (λ_ i _=>D.A6.length-(intOf i).toNat)
 ·exact⟨0,Ch _,rfl,(A4.C _ w).C7 aN (λk hk=>by cases hk),aQ.o,λx hx=>by cases hx;exact Ao _⟩
 ·obtain⟨k,hk,rfl,O,aM,aP⟩:=hrel;by_cases d:k<D.A6.length
  ·obtain⟨g,rfl,hn,hp⟩:=aB k d;have aK:g<w.heap.size:=GO w _ hn;have aX:A8 wr g (k*2) (.string (D.A6[k]'d).1):=(DO (O.Al g aK (λh=>h))).trans hn;have hp':A8 wr g (k*2+1) (A5 ((D.A6[k]'d).2)):=(DO (O.Al g aK (λh=>h))).trans hp;have hsz:=O.Ak;have X:=A1 ((aM.o.alloc (.cells #[.string (D.A6[k]'d).1,A5 ((D.A6[k]'d).2)] 125)).alloc (.cells #[.string (D.A6[k]'d).1] 9));have aL:=A1 (Src.bc (size:=1) HH (wr.alloc (.cells #[.string (D.A6[k]'d).1,A5 ((D.A6[k]'d).2)] 125)) #[.string (D.A6[k]'d).1] 9 (wr.heap.size+1) (by simp) 1 1 rfl (by simp[Value.oneCell']));generalize hx:(D.A6[k]'d).1=x at aX X aL;have a7:=A1 hx;go_wp2_with (at_builtin;refine CU rfl (.tmp 22) (.tmp 25) 121 121 rfl 9 i0 _ 1 16 HH hi hz0 hz1 hz2 rfl (by decide) _ _ _ (by rfl) X.o _ 1 _ (by rfl) aL.o (by omega) ?_;intro a3 z w3 hB);have hl:=A1 (N7 D.A6 k hk);obtain⟨l,aA⟩:∃l,F7 D.A6 k=l:=⟨_,rfl⟩;have a6:=A1 aA;(have a4:l.length=k:=by rw[<-aA];exact hl.o);have aF:w3.ownsRow 0 9 1 (.slice a3 (k+1) z) (k+1) (G5 (l.take k++x::l.drop k)):=by
    have:=hB.AB;rw[aA]at this;rw[El (by omega),It (by omega)];simpa[G5] using this
   have aS:=A1 aF;have c13:=A1 (hB.cy ((O.aj _).aj _) aP.o);(have hmax:z<=maxLen:=by have⟨_,_,he,h1,h2,_⟩:=B8 aF;cases he;exact h2);obtain⟨I,aW⟩:∃I,a3=some (A9 I 0):=by
    have⟨_,_,he,h1,h2,h3,_⟩:=B8 aF;cases he;exact h3 (by omega)
   have aI:=A1 a4;subst aW;have a1:=A1 c13.o.1;have W:=A1 (c13.o.2);have fin:Hid (∀(wq:gx) (j:Nat),j<=k->EN l x k=j->wq.ownsRow 0 9 1 (AA I (k+1) z) (k+1) (G5 (l.take j++x::l.drop j))->wq.ownsRow 0 9 1 (AA I (k+1) z) (k+1) (G5 (F7 D.A6 (k+1)))):=by
    intro wq j hj hp h;rw[N6 D.A6 k d,a6.o,a7.o,ins,aI.o,hp];exact h
   go_loopw [6] (λi wq=>∃j:Nat,j<=k/\i=A0 j/\Hid (A4 Aa w wq)/\Hid (wq.ownsRow 0 9 1 (AA I (k+1) z) (k+1) (G5 (l.take j++x::l.drop j)))/\Hid (EN l x k=EN l x j)) (λi _=>(intOf i).toNat)
   ·exact⟨k,Ao _,rfl,a1,aS,rfl⟩
   ·obtain⟨j,hj,rfl,aE,E,aH⟩:=hrel;by_cases aU:j=0
    ·subst aU;rw[show ((0:Nat):Int)=0 from rfl];go_wp2;go_quiet (fail);go_wp2;go_roundw
     ·refine⟨k+1,by omega,by go_num,aE.o.a7 _,?_,W.o⟩;exact fin.o _ 0 (by omega) (by rw[aH.o];rfl) E.o
     ·simp[intOf];omega
    ·(have hj1:(0:Int)<(j:Int):=by omega);(have hj2:0<j:=by omega);(have L:j-1<l.length:=by have:=aI.o;omega);(have aT:j<=l.length:=by have:=aI.o;omega);obtain⟨y,hy⟩:∃y,l[j-1]'L=y:=⟨_,rfl⟩
     have g1:A8 wr I (j-1) (.string y):=Bv E.o rfl (by
      unfold G5;rw[EG,Jb (by simp;omega)]
      simp[List.getElem?_take,L,hy];omega)
     have g2:A8 wr I j (.string x):=Bv E.o rfl (by
      unfold G5;rw[EG,I7 (by simp;omega)]
      simp[Nat.min_eq_left aT])
     have gz:∀o,wr.frozen? (A9 I o)=false:=λo=>EK E.o rfl o;by_cases aG:less x y=true
     ·have aO:Op.bytesLess x.toList y.toList=true:=aG;have aJ:=A1 aG;have aR:=A1 hy;go_wp2;go_quiet (fail);go_wp2;go_region;go_wp2;go_roundw
      ·refine⟨j-1,by omega,by go_num,?_,?_,?_⟩
       ·have h1:=((aE.o.bh (p:=(A9 I j)) (λh=>by have:=W.o I rfl;simp at h;omega) (.string y)).bh (p:=(A9 I (j-1))) (λh=>by have:=W.o I rfl;simp at h;omega) (.string x));exact⟨h1.os,h1.DU,h1.DW,h1.Ak,h1.Al⟩
       ·have s1:=(E.o.stored j (.string y)).1;have s2:=(s1.stored (j-1) (.string x)).1;have e:=Xy l x (j-1) L;rw[show j-1+1=j from by omega,aR.o]at e;rw[e]at s2;exact s2
       ·have:=Ud l x (j-1) L (by rw[aR.o];exact aJ.o);rw[show j-1+1=j from by omega]at this;unfold Hid;rw[aH.o];exact this
      ·simp[intOf];omega
     ·(have Y:less x y=false:=by simpa using aG);have aO:Op.bytesLess x.toList y.toList=false:=Y;have aJ:=A1 Y;have aR:=A1 hy;go_wp2;go_quiet (fail);go_wp2;go_roundw
      ·refine⟨k+1,by omega,by go_num,aE.o.a7 _,?_,W.o⟩;refine fin.o _ j hj ?_ E.o;have:=Uc l x (j-1) L (by rw[aR.o];exact aJ.o);rw[show j-1+1=j from by omega]at this;rw[aH.o];exact this
      ·simp[intOf];omega
  ·(have a5:k=D.A6.length:=by omega);have aV:=A1 a5;go_wp2;go_ret;refine⟨_,rfl,?_,O,aP.o⟩;have:=aM.o;rw[aV.o]at this;exact this
def FQ(c:Int)(n:Nat):Nat:=((if c<0 then -(c+1) else c) % ((n:Int)+1)).toNat
def Kg(c:Int)(n:Nat):FQ c n<=n:=by
 unfold FQ;have h1:=NO (if c<0 then -(c+1) else c) (b:=(n:Int)+1) (by omega);have h2:=Wl (if c<0 then -(c+1) else c) (b:=(n:Int)+1) (by omega);omega
def SP(c:Int)(n:Int)(w:gx)(d : -9223372036854775808<=c/\c<=9223372036854775807)(z:0<=n/\n<=4611686018427387904):
 Ag 75 #[A0 c,A0 n] w (Aj (A0 (FQ c n.toNat)) λw'=>w=w'):=by
 obtain⟨h1,h2⟩:=d;obtain⟨h,h4⟩:=z;by_cases d:c<0
 ·have q:Hid ((FQ c n.toNat:Int) = -((c+1).tmod (n+1))):=by
   unfold Hid FQ;rw[Ai d,Qw h,Qw (NO _ (by omega)),<-A4N (by omega),QA]
  go_enter func75,ntmps75
  go_wp2;go_ret;rw[q.o];exact⟨rfl,rfl⟩
 ·have q:Hid ((FQ c n.toNat:Int)=c % (n+1)):=by
   unfold Hid FQ;rw[Af d,Qw h,Qw (NO _ (by omega))]
  go_enter func75,ntmps75
  go_wp2;go_ret;rw[q.o];exact⟨rfl,rfl⟩
def Mb(w:gx)(v:gy)(h:gD Int):Prop:=
 ∃E cap,v=.slice E h.length cap/\h.length<=9223372036854775807/\∀j (I:j<h.length),∃z d,E=some ⟨z,d,none⟩/\z<w.heap.size/\w.cell? ⟨z,d+j,none⟩=some (.int .i64 (h[j]'I))
def FU(c:FC)(t:Int):FC:=
 let m:=c.2.toNat+FQ t (c.1.length-c.2.toNat)
 (c.1.take m,(c.1.take m).length)
def Ea(dir:gD AO)(d:gD Int)(names:gD gC)(F:Nat->FC):Nat->(Nat->FC)
 | 0=>F
 | k+1=>let G:=Ea dir d names F k
  match names[k]? with
  | none=>G
  | some nd=>match lookup dir nd with
   | some f=>upd G f (FU (G f) (d.getD k 0))
   | none=>G
def Gp(D:DS)(da:Int):gD AO:=match FQ da D.As.length with
 | 0=>D.AF
 | k+1=>D.As.getD k []
def Fh(D:DS)(F:Nat->FC)(da:Int)(d:gD Int):DS×(Nat->FC):=
 let dir:=Gp D da
 ({A6:=dir,AF:=dir,As:=[],n:={D.n with Bh:=false,CW:=0,E0:=0}},Ea dir d (dList dir) F dir.length)
def A1o(l:gD gC)(x y:gC):y∈ins l x↔y=x\/y∈l:=by
 unfold ins;constructor
 ·intro h;rcases AX.1 h with h|h
  ·exact .inr (Ho h)
  ·rcases BS.1 h with h|h
   ·exact .inl h
   ·exact .inr (KI h)
 ·rintro (rfl|h)
  ·simp
  ·rw[<-E4 (EN l x l.length) l]at h;rcases AX.1 h with h|h
   ·exact AX.2 (.inl h)
   ·exact AX.2 (.inr (BC _ h))
def A2l(es:gD AO)(k:Nat)(z:k<=es.length)(y:gC):y∈F7 es k↔∃e∈es.take k,e.1=y:=by
 induction k with
 | zero=>simp[F7]
 | succ k ih=>
  have h:=Dq (l:=es) (i:=k) z;rw[N6 es k z,A1o,ih (by omega)];constructor
  ·rintro (rfl|⟨e,d,rfl⟩)
   ·exact⟨es[k],by rw[h];exact AX.2 (.inr (J8.2 rfl)),rfl⟩
   ·exact⟨e,by rw[h];exact AX.2 (.inl d),rfl⟩
  ·rintro⟨e,d,rfl⟩;rw[h]at d;rcases AX.1 d with d|d
   ·exact .inr ⟨e,d,rfl⟩
   ·simp at d;subst d;exact .inl rfl
def A2j(es:gD AO)(y:gC):y∈dList es↔∃e∈es,e.1=y:=by
 have:=A2l es es.length (Ao _) y
 rwa [C5]at this
def C9.ey{w w':gx}{b:Nat}{D:DS}{F:Nat->FC}{vd W Y X:gy}{z:gD gy}{aB:Nat->gy}{es:gD AO}(h:C9 w b D F vd W Y z aB)(hl:(X=W/\es=D.AF)\/∃k,∃E:k<D.As.length,z[k]?=some X/\es=D.As[k]'E)(hb:AM w' b X W Y D.n)(hc:A4 (One b) w w'):
 C9 w' b {D with A6:=es} F X W Y z aB/\∀k,Cf b {D with A6:=es} X W Y z aB k->Cf b D vd W Y z aB k:=by
 have E:∀(k:Nat) (c:Array gy) (e:Nat),w.heap[k]?=some (Obj.cells c e (0,0))->e≠95->w'.heap[k]?=w.heap[k]?:=λk c e E he=>
  hc.Al k (By E) (BR E h.Ae he)
 have aA:Dd w X es:=by
  rcases hl with⟨rfl,rfl⟩|⟨k,E,O,rfl⟩
  ·exact h.AF
  ·have⟨v,h2,h3⟩:=h.Di k E;rw[O]at h2;cases h2;exact h3
 have aE:∀f,Dp f es->D.Aq f:=by
  intro f I;rcases hl with⟨_,rfl⟩|⟨k,E,_,rfl⟩
  ·exact .inr (.inl I)
  ·exact .inr (.inr ⟨_,BV E,I⟩)
 have d:∀f,({D with A6:=es}:DS).Aq f->D.Aq f:=by
  rintro f (I|I|I)
  ·exact aE f I
  ·exact .inr (.inl I)
  ·exact .inr (.inr I)
 refine⟨⟨hb,?_,?_,?_,?_,?_,λf f' g I aD=>h.GG f f' g (d f I) (d f' aD)⟩,?_⟩
 ·exact Au aA λg L=>by have⟨c,hh⟩:=Bb aA L;exact E g _ _ hh (by decide)
 ·exact Au h.AF λg L=>by have⟨c,hh⟩:=Bb h.AF L;exact E g _ _ hh (by decide)
 ·exact Au h.Am λg L=>by have⟨c,hh⟩:=Bb h.Am L;exact E g _ _ hh (by decide)
 ·intro i hi;have⟨v,O,h2⟩:=h.Di i hi;exact⟨v,O,Au h2 λg L=>by have⟨c,hh⟩:=Bb h2 L;exact E g _ _ hh (by decide)⟩
 ·intro f I;have⟨O,h2⟩:=h.BN f (d f I);refine⟨O.aw (E f _ _ O (by decide)),Au h2 λg L=>by have⟨c,hh⟩:=Bb h2 L;exact E g _ _ hh (by decide)⟩
 ·intro k E;cases E using Cf.bN with
  | Ae=>exact .Ae
  | dir e=>
   rcases hl with⟨rfl,_⟩|⟨j,_,O,_⟩
   ·exact .AF e
   ·exact .Di (LZ O) e
  | Ad e=>exact .AF e
  | Am e=>exact .Am e
  | Di hm e=>exact .Di hm e
  | BN I=>exact .BN (d _ I)
  | byt I e=>exact .bE (d _ I) e
def Dj.cx{w w':gx}{b:Nat}{D:DS}{F:Nat->FC}{Ft:Nat->Prop}(h:Dj w b D F Ft)(d:w'.heap=w.heap):Dj w' b D F Ft:=h.aM λk _=>by rw[d]
def A4.cx{S:Nat->Prop}{a w w':gx}(h:A4 S a w)(d:w'.heap=w.heap)(I:w'.os=w.os)(E:w'.tape=w.tape)(L:w'.output=w.output):A4 S a w':=
 ⟨I.trans h.os,E.trans h.DU,L.trans h.DW,by rw[d];exact h.Ak,λk z O=>by rw[d];exact h.Al k z O⟩
def A2H(c:FC)(t:Int)(B:Nat)(h:0<=c.2/\c.2<=c.1.length/\c.1.length<=B):0<=(FU c t).2/\(FU c t).2<=(FU c t).1.length/\(FU c t).1.length<=B:=by
 unfold FU;simp only[BK];omega
def A2F(es:gD AO)(z:gD Int)(names:gD gC)(F:Nat->FC)(B:Nat)(P:Nat->Prop)(h:∀f,P f->0<=(F f).2/\(F f).2<=(F f).1.length/\(F f).1.length<=B)(k:Nat):
 ∀f,P f->0<=(Ea es z names F k f).2/\(Ea es z names F k f).2<=(Ea es z names F k f).1.length/\(Ea es z names F k f).1.length<=B:=by
 induction k with
 | zero=>exact h
 | succ k ih=>
  intro f d;cases h1:names[k]? with
  | none=>simp only[Ea,h1];exact ih f d
  | some nd=>
   cases h2:lookup es nd with
   | none=>simp only[Ea,h1,h2];exact ih f d
   | some f0=>
    simp only[Ea,h1,h2];by_cases E:f=f0
    ·subst E;simp only[upd,Cq];exact A2H _ _ B (ih f d)
    ·simp only[upd,E,Cd];exact ih f d
def A2D(es:gD AO)(d:gD Int)(names:gD gC)(F:Nat->FC)(k:Nat)(h:gC)(f:Nat)(E:names[k]?=some h)(z:lookup es h=some f):
 Ea es d names F (k+1)=upd (Ea es d names F k) f (FU (Ea es d names F k f) (d.getD k 0)):=by
 simp only[Ea,E,z]
def A2y{w wr:gx}{b:Nat}{D:DS}{es:gD AO}{G:Nat->FC}{I:Nat->Prop}{t:Int}{vd vs vc:gy}{L:gD gy}{aE:Nat->gy}(aD:∀k,Cf b {D with A6:=es} vd vs vc L aE k->I k)(hr:C9 wr b {D with A6:=es} G vd vs vc L aE)(hc:A4 I w wr){k:Nat}(d:k<es.length){a':Option Addr}{z:Nat}(hv:aE (es[k]'d).2=.slice a' (G (es[k]'d).2).1.length z)(hG:0<=(G (es[k]'d).2).2/\(G (es[k]'d).2).2<=(G (es[k]'d).2).1.length)(m:Nat)(hm:m=(G (es[k]'d).2).2.toNat+FQ t ((G (es[k]'d).2).1.length-(G (es[k]'d).2).2.toNat))(w':gx)(hw:w'=(wr.setCell ⟨(es[k]'d).2,0,none⟩ (.slice a' m z)).setCell ⟨(es[k]'d).2,1,none⟩ (.int .i64 m)):
 Dj w' b {D with A6:=es} (upd G (es[k]'d).2 (FU (G (es[k]'d).2) t)) I/\A4 I w w':=by
 have E:({D with A6:=es}:DS).Aq (es[k]'d).2:=.inl ⟨_,BV d,rfl⟩;have⟨h1,h2⟩:=hr.BN _ E;have hpk:=Kg t ((G (es[k]'d).2).1.length-(G (es[k]'d).2).2.toNat);have aF:m<=(G (es[k]'d).2).1.length:=by omega
 have O:((G (es[k]'d).2).1.take m).length=m:=by simp;omega
 have W:wr.ownsRow 0 5 1 (.slice a' m z) m (Ek ((G (es[k]'d).2).1.take m)):=by
  rw[hv]at h2;have:=OI h2 aF;rw[Qf]at this;unfold Ek at this ⊢;rw[List.map_take];exact this
 have Y:∀g,(Value.slice a' m z).ownBlock=some g->g≠(es[k]'d).2:=by
  intro g X e;have⟨c,hh⟩:=Bb W X;exact BR hh h1 (by decide) e
 have aG:Gf w' (.slice a' m z) ((G (es[k]'d).2).1.take m):=by
  subst hw;unfold Gf;rw[O];exact Au W λg X=>by rw[Fw _ _ _ _ (Y g X),Fw _ _ _ _ (Y g X)]
 have aH:Db w' (es[k]'d).2 (.slice a' m z) m:=by subst hw;exact(h1.s0 _).s1 _
 have aA:A4 (One (es[k]'d).2) wr w':=by subst hw;exact((A4.C (One _) wr).ao rfl 0 _).ao rfl 1 _
 have aB:∀g,(Value.slice a' m z).ownBlock=some g->(aE (es[k]'d).2).ownBlock=some g\/wr.heap.size<=g:=by
  intro g X;left;rw[hv];cases a' with
  | none=>simp[Value.ownBlock]at X
  | some x=>exact X
 have r2:=hr.b7 E aH aG aA (λk d=>.inl d) aB;have e:FU (G (es[k]'d).2) t=((G (es[k]'d).2).1.take m,(m:Int)):=by
  unfold FU;simp only[<-hm,O]
 rw[e];refine⟨⟨_,_,_,_,_,r2,λx hx=>?_⟩,hc.AH aA λx hx _=>by cases hx;exact aD _ (.BN E)⟩;rcases Cf.b7 (N:=wr.heap.size) E aB hx with h|h
 ·exact aD x h
 ·have:=r2.lt hx;subst hw;simp at this;omega
def A2B(w:gx)(b:Nat)(D:DS)(F:Nat->FC)(Ft:Nat->Prop)(h:Dj w b D F Ft)(da:Int)(vt:gy)(O:gD Int)(ht:Mb w vt O)(bY:∀ad n c x,n≠0->vt=.slice ad n c->ad=some x->¬Ft x.block)(hs:D.A6.length<1099511627776/\D.AF.length<1099511627776/\D.As.length<1099511627776/\∀c∈D.As,c.length<1099511627776)(hdi : -9223372036854775808<=da/\da<=9223372036854775807)(b7:∀t∈O,-9223372036854775808<=t/\t<=9223372036854775807)(hF:∀f,D.Aq f->0<=(F f).2/\(F f).2<=(F f).1.length/\(F f).1.length<=1099511627776):
 Ag 32 #[A5 b,A0 da,vt] w (Aj (.tuple #[]) λw'=>DB w Ft w' b (Fh D F da O).1 (Fh D F da O).2):=by
 obtain⟨vd,vs,vc,aS,cJ,hr,cH⟩:=h;have aM:=A1 hr;have cG:=A1 cH;obtain⟨hs1,bP,hs3,b3⟩:=hs;have c0:=hr.Ae.c0;have c1:=hr.Ae.c1;have c2:=hr.Ae.c2;have hz:=hr.Ae.fz;obtain⟨ad,tc,rfl,htl,bU⟩:=ht;obtain⟨a1,p1,rfl,-⟩:=hr.AF.BW;have⟨a2,p2,hvc,_,_,hsome,_,_⟩:=B8 hr.Am;subst hvc;have bT:=A1 bU;have bQ:=A1 bY;have cD:=A1 b3;have cO:=A1 hF;have bO:=A1 b7;have aZ:=A1 hsome;obtain⟨d1,d2⟩:=hdi;have cE:=Kg da D.As.length;generalize hK:FQ da D.As.length=K at cE;have bX:=A1 hK;have b5:Hid (∀W:gx,Ag 75 #[A0 da,A0 D.As.length] W (Aj (A0 K) λw'=>W=w')):=by
  intro W;have:=SP da D.As.length W ⟨d1,d2⟩ ⟨by omega,by omega⟩;simp only[ES,bX.o]at this;exact this
 have bW:=aM.o;obtain⟨bD,bB,b2,-⟩:=bW.A6.BW;subst b2;obtain⟨z,f1,f2,f3⟩:∃z:Nat->Prop,(∀k,Cf b D (.slice bD D.A6.length bB) (.slice a1 D.AF.length p1) (.slice a2 D.As.length p2) aS cJ k->z k)/\(∀k,z k->k<w.heap.size)/\(∀k,z k->Ft k):=
  ⟨Cf b D (.slice bD D.A6.length bB) (.slice a1 D.AF.length p1) (.slice a2 D.As.length p2) aS cJ,λ_ h=>h,λ_ h=>aM.o.lt h,λ_ h=>cG.o _ h⟩
 have a4:=A1 f1;have cN:=A1 f2;have b8:=A1 f3;have cA:Hid (∀wr,A4 z w wr->∀j (hj:j<O.length),∃tb aI,ad=some (A9 tb aI)/\wr.cell? (A9 tb (aI+j))=some (A0 (O[j]'hj))):=by
  intro wr hc j hj;have⟨tb,aI,h1,h2,h3⟩:=bT.o j hj;refine⟨tb,aI,h1,?_⟩;rw[DO (hc.Al tb h2 (λh=>bQ.o ad O.length tc (A9 tb aI) (λh0=>absurd (h0 ▸ hj) (KC _)) rfl h1 (b8.o _ h)))];exact h3
 by_cases bE:K=0
 focus
  subst bE;obtain⟨es,I⟩:∃es,D.AF=es:=⟨_,rfl⟩;have aL:es.length<1099511627776:=I ▸ bP;have bC:=aM.o.ey (.inl ⟨rfl,rfl⟩) (aM.o.Ae.s0 _) ((A4.C (One b) w).ao rfl 0 (.slice a1 D.AF.length p1));have bM:Hid (∀f,Dp f es->D.Aq f):=λf X=>.inr (.inl (I ▸ X));have aA:Hid (Dj (w.sC b 0 (.slice a1 D.AF.length p1)) b {D with A6:=es} F z):=by rw[<-I];exact⟨_,_,_,_,_,bC.1,λk hk=>a4.o k (bC.2 k hk)⟩
  have cW:Hid (A4 z w (w.sC b 0 (.slice a1 D.AF.length p1))):=(A4.C _ w).ao (a4.o _ .Ae) 0 _;have bN:Hid (Gp D da=es):=by unfold Hid Gp;rw[bX.o];exact I
  clear I;rw[show ((0:Nat):Int)=0 from rfl]at b5;have cC:=A1 <| b5.o
  go_enter func32,ntmps32
  go_wp2_with (first
   | (go_at_call 75;refine(cC.o _).k ?_;rintro w' rfl)
   | (go_at_call 76;refine(P5 _ b _ F _ aA.o aL).mono ?_;rintro e w2⟨v,rfl,aN,aF,a6⟩;obtain⟨al,cl,rfl,_,aP,aD,_⟩:=B8 aN))
 rotate_left
 focus
  obtain⟨j,rfl⟩:∃j,K=j+1:=⟨K-1,by omega⟩;have aG:j<D.As.length:=by omega
  have⟨v0,hv1,hv2⟩:=aM.o.Di j aG;obtain⟨ak,pk,rfl,-⟩:=hv2.BW;obtain⟨es,I⟩:∃es,D.As[j]'aG=es:=⟨_,rfl⟩;have aL:es.length<1099511627776:=by rw[<-I];exact cD.o _ (BV aG)
  have bM:Hid (∀f,Dp f es->D.Aq f):=λf X=>.inr (.inr ⟨_,BV aG,I ▸ X⟩);have bN:Hid (Gp D da=es):=by
   unfold Hid Gp;rw[bX.o];show D.As.getD j []=es;rw[<-I,HL,Dz aG];rfl
  rw[I]at hv1 hv2;have⟨gc,hgc⟩:=aZ.o (by omega);subst hgc;have cg:=Bv aM.o.Am (g:=gc) rfl hv1;have⟨cgc,cgh⟩:=Bb aM.o.Am (g:=gc) rfl;have n1:¬gc=b:=λe=>BR cgh aM.o.Ae (by decide) e;have n2:¬b=gc:=λe=>n1 e.symm;have bC:=aM.o.ey (.inr ⟨j,aG,hv1,I.symm⟩) ((aM.o.Ae.s0 (.slice a1 D.AF.length p1)).s0 _) (((A4.C (One b) w).ao rfl 0 (.slice a1 D.AF.length p1)).ao rfl 0 (.slice ak es.length pk));have aA:Hid (Dj ((w.sC b 0 (.slice a1 D.AF.length p1)).sC b 0 (.slice ak es.length pk)) b {D with A6:=es} F z):=⟨_,_,_,_,_,bC.1,λk hk=>a4.o k (bC.2 k hk)⟩;have cW:Hid (A4 z w ((w.sC b 0 (.slice a1 D.AF.length p1)).sC b 0 (.slice ak es.length pk))):=((A4.C _ w).ao (a4.o _ .Ae) 0 _).ao (a4.o _ .Ae) 0 _;have k0:(0:Int)<(j:Int)+1:=by omega
  have k1:(0:Int)<=(j:Int):=by omega
  have k2:(j:Int)<(D.As.length:Int):=by omega
  have hwj:IntKind.i64.wrap (j:Int)=(j:Int):=by simp only[JV];omega
  have cC:=A1 <| b5.o
  skip
  go_enter func32,ntmps32
  go_wp2_with (first
   | (go_at_call 75;refine(cC.o _).k ?_;rintro w' rfl)
   | (go_at_call 76;refine(P5 _ b _ F _ aA.o aL).mono ?_;rintro e w2⟨v,rfl,aN,aF,a6⟩;obtain⟨al,cl,rfl,_,aP,aD,_⟩:=B8 aN))
 all_goals
  have s2:w.heap.size<=w2.heap.size:=by have:=aF.Ak;simp at this;omega
  have bF:=A1 aN;have b0:Hid (∀g,al.map Addr.block=some g->w.heap.size<=g):=by
   intro g hg
   have:=a6 g (by cases al with
    | none=>simp at hg
    | some x=>simp at hg;simp[Value.ownBlock,hg])
   simpa using this
  have aY:Hid (Dj w2 b {D with A6:=es} F z):=aA.o.aM λk hk=>aF.Al k (by have:=cN.o k hk;simpa using this) (λh=>h);have bI:Hid (A4 z w w2):=cW.o.AH aF (λx hx=>hx.elim);have bZ:=A1 aD;have cB:=A1 (N7 es es.length (Ao _));unfold maxLen at aP;go_loopw [44] (λiv wr=>∃i:Nat,i<=es.length/\iv=A0 i/\Hid (Dj wr b {D with A6:=es} (Ea es O (dList es) F i) z)/\Hid (A4 z w2 wr)) (λiv _=>es.length-(intOf iv).toNat)
  ·exact⟨0,Ch _,rfl,aY.o,A4.C _ _⟩
  ·obtain⟨i,hi,rfl,aR,aO⟩:=hrel;by_cases hli:i<es.length
   ·have aV:Hid (A4 z w wr):=bI.o.AH aO.o (λx hx _=>hx);have⟨lb,hlb⟩:=bZ.o (by omega);(have aE:i<(dList es).length:=by have:=cB.o;unfold dList;omega);have aF:wr.cell? (A9 lb i)=some (.string ((dList es)[i]'aE)):=by
     have h1:=Bv bF.o (g:=lb) (by rw[hlb];rfl) (j:=i) (u:=.string ((dList es)[i]'aE)) (by unfold G5;rw[Qq,Dz aE];rfl);have h2:=b0.o lb (by rw[hlb];rfl);rw[DO (aO.o.Al lb (Aw bF.o (by rw[hlb];rfl)) (λh=>by have:=cN.o lb h;omega))];exact h1
    subst hlb;generalize a9:(dList es)[i]'aE=nm at aF;have bG:∃e∈es,e.1=nm:=(A2j es nm).1 (by rw[<-a9];exact BV aE);(have bA:(dList es)[i]?=some nm:=by rw[<-a9];exact Dz aE);obtain⟨G,aU⟩:∃G,Ea es O (dList es) F i=G:=⟨_,rfl⟩;have L:=aR.o;rw[aU]at L;obtain⟨b4,bR,b6,a3,VB',E,aK⟩:=L;rcases Jv es nm with⟨_,h2⟩|⟨k,hk,h1,h2,h3⟩
    ·exfalso;obtain⟨e,he,h4⟩:=bG;rcases Py es nm with⟨_,h5⟩|⟨k,hk,h5,_⟩
     ·exact h5 e he h4
     ·omega
    ·have a8:=A2F es O (dList es) F 1099511627776 D.Aq cO.o i (es[k]'hk).2 (bM.o _ ⟨_,BV hk,rfl⟩);rw[aU]at a8;obtain⟨aT,a0,a5⟩:=a8;obtain⟨g,cap,a',aB,rfl,hv,z1,z2,z3,z4⟩:=E.BY k hk;have aH:=E.dI k hk rfl hv;have bK:Hid (Dd wr.drew (AA g es.length cap) es):=E.A6;have cL:=A1 h1;generalize X:(es[k]'hk).2=f at aH
     have fin:Hid (∀(t:Int) (m:Nat) (w':gx),t=O.getD i 0->m=(G f).2.toNat+FQ t ((G f).1.length-(G f).2.toNat)->w'=(wr.sC f 0 (.slice a' m aB)).sC f 1 (A0 m)->
      Dj w' b {D with A6:=es} (Ea es O (dList es) F (i+1)) z/\A4 z w2 w'):=by
      intro t m w' ht hm hw;subst X;have:=A2y (t:=t) aK E aO.o hk hv ⟨aT,a0⟩ m hm w' hw;rw[A2D es O (dList es) F i nm _ bA h2,aU,<-ht];exact this
     rw[X]at aT a0 a5 z3;have x1:=aH.d;have x2:=aH.p;have x3:=aH.f0;have x4:=aH.f1;have x5:=aH.fz;unfold maxLen at z2 z4;have bE:=BJ k;(have hk1:(k:Int)<(es.length:Int):=by omega);obtain⟨t,ht⟩:∃t,O.getD i 0=t:=⟨_,rfl⟩;have bS : -9223372036854775808<=t/\t<=9223372036854775807:=by
      rw[<-ht,HL];cases hx:O[i]? with
      | none=>simp
      | some y=>exact bO.o y (LZ hx)
     have⟨Y,hsn⟩:=Me aT;obtain⟨l,hl⟩:∃l,(G f).1.length=l:=⟨_,rfl⟩;obtain⟨p,hp⟩:∃p,FQ t (l-Y)=p:=⟨_,rfl⟩;have bJ:=Kg t (l-Y);rw[hp]at bJ;have aQ:Hid (∀w',w'=(wr.sC f 0 (.slice a' (Y+p) aB)).sC f 1 (A0 ((Y+p:Nat):Int))->Dj w' b {D with A6:=es} (Ea es O (dList es) F (i+1)) z/\A4 z w2 w'):=by
      intro w' hw;exact fin.o t (Y+p) w' ht.symm (by rw[hsn,hl,ES,hp]) hw
     rw[hsn,hl]at a0;rw[hl]at a5 z3 x3;rw[hsn]at x4;have cI:Hid (∀W:gx,Ag 75 #[A0 t,A0 ((l:Int)-(Y:Int))] W (Aj (A0 p) λw'=>W=w')):=by
      intro W;have:=SP t ((l:Int)-(Y:Int)) W bS ⟨by omega,by omega⟩;rw[show ((l:Int)-(Y:Int)).toNat=l-Y from by omega,hp]at this;exact this
     (have q1:Y+p<=aB:=by omega);(have hw1:IntKind.i64.wrap ((l:Int)-(Y:Int))=(l:Int)-(Y:Int):=by simp only[JV];omega);(have hw2:IntKind.i64.wrap ((Y:Int)+(p:Int))=(Y:Int)+(p:Int):=by simp only[JV];omega);(have q3:(0:Int)<=(Y:Int)+(p:Int):=by omega);(have q4:(Y:Int)+(p:Int)<=(aB:Int):=by omega);(have q5:((Y:Int)+(p:Int)).toNat=Y+p:=by omega);have cM:=A1 ht;by_cases aW:i<O.length
     ·have⟨tb,aI,hta2,htc2⟩:=cA.o wr aV.o i aW;(have b1:O[i]'aW=t:=by have:=cM.o;rw[HL,Dz aW]at this;exact this);rw[b1]at htc2;subst hta2;(have bH:(i:Int)<(O.length:Int):=by omega);go_wp2;go_region_held3 (λw'=>w'.cell? ⟨b,0,none⟩=some (.slice (some ⟨g,0,none⟩) es.length cap)/\w'.cell? ⟨g,k*2+1,none⟩=some (.pointer (some ⟨f,0,none⟩))) (refine⟨?_,?_⟩<;>go_simp) ((go_at_call 77;refine(DM _ _ es nm bK.o).k ?_;rintro w' rfl;rw[cL.o]));go_wp2;refine KU 24 (by kernel_rfl) (by kernel_rfl) ?_;simp only[LM,FJ,Fp,DH,Dl]
      repeat still_step
      refine wpStill_step (λK hK=>?_);go_simp;refine⟨_,(cI.o _).mono (λe w' h=>⟨h.1,h.2.symm⟩),hK _ ?_⟩
      repeat still_step
      refine KV ?_;go_wp2;go_roundw
      ·have⟨z5,z6⟩:=aQ.o _ rfl;refine⟨i+1,by omega,by go_num,?_,?_⟩
       ·exact Dj.cx z5 rfl
       ·exact A4.cx z6 rfl rfl rfl rfl
      ·simp[intOf];omega
     ·have b9:t=0:=by
       rw[<-cM.o,HL,M4 (by omega)];rfl
      subst b9;(have bH:(O.length:Int)<=(i:Int):=by omega);go_wp2;go_region_held3 (λw'=>w'.cell? ⟨b,0,none⟩=some (.slice (some ⟨g,0,none⟩) es.length cap)/\w'.cell? ⟨g,k*2+1,none⟩=some (.pointer (some ⟨f,0,none⟩))) (refine⟨?_,?_⟩<;>go_simp) ((go_at_call 77;refine(DM _ _ es nm bK.o).k ?_;rintro w' rfl;rw[cL.o]));go_wp2;refine KU 24 (by kernel_rfl) (by kernel_rfl) ?_;simp only[LM,FJ,Fp,DH,Dl]
      repeat still_step
      refine wpStill_step (λK hK=>?_);go_simp;refine⟨_,(cI.o _).mono (λe w' h=>⟨h.1,h.2.symm⟩),hK _ ?_⟩
      repeat still_step
      refine KV ?_;go_wp2;go_roundw
      ·have⟨z5,z6⟩:=aQ.o _ rfl;refine⟨i+1,by omega,by go_num,?_,?_⟩
       ·exact Dj.cx z5 rfl
       ·exact A4.cx z6 rfl rfl rfl rfl
      ·simp[intOf];omega
   ·(have cF:i=es.length:=by omega);have L:=aR.o;rw[cF]at L;obtain⟨b4,bR,b6,a3,VB',E,aK⟩:=L;obtain⟨ae,ce,rfl,_⟩:=E.A6.BW;have y0:=E.Ae.c0;have y1:=E.Ae.c1;have y2:=E.Ae.c2;have y5:=E.Ae.c5;have y6:=E.Ae.c6;have y10:=E.Ae.bt;have yz:=E.Ae.fz;have a7:=A1 E;have bL:=A1 aK;go_wp2;go_end0;have r1:=a7.o.aJ ((a7.o.Ae.s1 _).s2 (.slice none 0 0)) (((A4.C (One b) wr).ao rfl 1 _).ao rfl 2 (.slice none 0 0));have r2:=r1.an (n:={D.n with Bh:=false,CW:=0,E0:=0}) (((r1.Ae.cm false).s5 0).s6 0) ((((A4.C (One b) _).ao rfl 10 (.bool false)).ao rfl 5 (A0 0)).ao rfl 6 (A0 0));have hq:Fh D F da O=({A6:=es,AF:=es,As:=[],n:={D.n with Bh:=false,CW:=0,E0:=0}},Ea es O (dList es) F es.length):=by
     (have he:Gp D da=es:=by exact bN.o);unfold Fh;rw[he]
    rw[hq];refine⟨rfl,DB.bC ?_ r2 ?_⟩
    ·have aV:=bI.o.AH aO.o (λx hx _=>hx);have aJ:=a4.o _ .Ae;exact(((((aV.ao aJ 1 _).ao aJ 2 _).ao aJ 10 _).ao aJ 5 _).ao aJ 6 _).ai λk _ hk=>b8.o k hk
    ·intro k hk;have bV:=Cf.n (D:={A6:=es,AF:=es,As:=[],n:=D.n}) hk;left;refine b8.o k (bL.o k ?_);cases bV using Cf.bN with
     | Ae=>exact .Ae
     | dir e=>exact .A6 e
     | Ad e=>exact .A6 e
     | Am e=>simp[Value.ownBlock]at e
     | Di hm e=>cases hm
     | BN X=>
      rcases X with X|X|⟨c,aX,_⟩
      ·exact .BN (.inl X)
      ·exact .BN (.inl X)
      ·cases aX
     | byt X e=>
      rcases X with X|X|⟨c,aX,_⟩
      ·exact .bE (.inl X) e
      ·exact .bE (.inl X) e
      ·cases aX
def A3l(l:gD UInt8):∀u∈Ek l,u.oneCell'=true:=by
 intro u hu;obtain⟨x,_,rfl⟩:=Cl.1 hu;rfl
def FD(l:gD Nat):gD Value:=l.map λf=>(A5 f)
structure CS (N:Nat) (w:gx) (bo bm:Nat) (F:Nat->FC) (oe ma:gD Nat) (vo vm:gy) (VB:Nat->gy):Prop where
 ob:w.heap[bo]?=some (.cells #[vo] 138 (0,0))
 mb:w.heap[bm]?=some (.cells #[vm] 138 (0,0))
 ne:bo≠bm
 ol:w.ownsRow 0 123 1 vo oe.length (FD oe)
 ml:w.ownsRow 0 123 1 vm oe.length (FD ma)
 L0:∀g,vo.ownBlock=some g->vm.ownBlock=some g->False
 BN:∀i (h:i<ma.length) (h':i<oe.length),Db w (ma[i]'h) (VB (ma[i]'h)) (F (oe[i]' h')).2/\Gf w (VB (ma[i]'h)) (F (oe[i]' h')).1
 IG:∀f∈oe,f<N/\∃c,w.heap[f]?=some (.cells c 129 (0,0))
 IH:oe.Nodup
 PF:ma.Nodup
 GG:∀m m' g,m∈ma->m'∈ma->(VB m).ownBlock=some g->(VB m').ownBlock=some g->m=m'
 IJ:N<=bo
 Js:N<=bm
 Jp:∀g,vo.ownBlock=some g->N<=g
 Jq:∀g,vm.ownBlock=some g->N<=g
 OS:∀m∈ma,N<=m
 OT:∀m∈ma,∀g,(VB m).ownBlock=some g->N<=g
def CF(bo bm:Nat)(vo vm:gy):Nat->Prop:=λk=>k=bo\/k=bm\/vo.ownBlock=some k\/vm.ownBlock=some k
def Ren(oe ma:gD Nat)(es aA:gD AO):Prop:=
 aA.length=es.length/\∀k (h:k<es.length) (d:k<aA.length),(aA[k]'d).1=(es[k]'h).1/\∃i:Nat,oe[i]?=some (es[k]'h).2/\ma[i]?=some (aA[k]'d).2
def CB(bo bm:Nat)(vo vm:gy)(ma:gD Nat)(VB:Nat->gy):Nat->Prop:=λk=>
 k=bo\/k=bm\/vo.ownBlock=some k\/vm.ownBlock=some k\/k∈ma\/∃m∈ma,(VB m).ownBlock=some k
def Ren.ai{oe ma z E:gD Nat}{es aA:gD AO}(h:Ren oe ma es aA):Ren (oe++z) (ma++E) es aA:=by
 refine⟨h.1,λk I d=>⟨(h.2 k I d).1,?_⟩⟩;have⟨i,h1,h2⟩:=(h.2 k I d).2;refine⟨i,?_,?_⟩
 ·rw[Jb (I6.1 h1).1];exact h1
 ·rw[Jb (I6.1 h2).1];exact h2
def Ren.cu{oe ma:gD Nat}{es aA:gD AO}(h:Ren oe ma es aA){i f m:Nat}{n:gC}(X:oe[i]?=some f)(O:ma[i]?=some m):Ren oe ma (es++[(n,f)]) (aA++[(n,m)]):=by
 refine⟨by simp[h.1],λk E hk'=>?_⟩;by_cases z:k<es.length
 ·have d:k<aA.length:=by have:=h.1;omega
  rw[Fs z,Fs d];exact h.2 k z d
 ·have I:k=es.length:=by simp at E;omega
  have e2:k=aA.length:=by have:=h.1;omega
  subst I;refine⟨?_,i,?_⟩
  ·rw[Gd (by omega),Gd (by omega)];simp
  ·rw[Gd (by omega),Gd (by omega)];simp[X,O]
def CS.b6{N:Nat}{w:gx}{bo bm:Nat}{F:Nat->FC}{oe ma:gD Nat}{vo vm:gy}{VB:Nat->gy}(h:CS N w bo bm F oe ma vo vm VB):ma.length=oe.length:=by
 have:=h.ml.1;simpa[FD] using this
def CS.lt{N:Nat}{w:gx}{bo bm:Nat}{F:Nat->FC}{oe ma:gD Nat}{vo vm:gy}{VB:Nat->gy}(h:CS N w bo bm F oe ma vo vm VB){k:Nat}(d:CB bo bm vo vm ma VB k):k<w.heap.size:=by
 have hl:=h.b6;rcases d with rfl|rfl|d|d|d|⟨m,E,d⟩
 ·exact By h.ob
 ·exact By h.mb
 ·exact Aw h.ol d
 ·exact Aw h.ml d
 ·obtain⟨i,z,rfl⟩:=DG d;exact By (h.BN i z (by omega)).1
 ·obtain⟨i,z,rfl⟩:=DG E;exact Aw (h.BN i z (by omega)).2 d
def CS.aM{N:Nat}{w w':gx}{bo bm:Nat}{F:Nat->FC}{oe ma:gD Nat}{vo vm:gy}{VB:Nat->gy}(h:CS N w bo bm F oe ma vo vm VB)(d:Gr (CB bo bm vo vm ma VB) w w')(X:Gr (λk=>k∈oe) w w'):CS N w' bo bm F oe ma vo vm VB:=by
 refine⟨(d bo (.inl rfl)).trans h.ob,(d bm (.inr (.inl rfl))).trans h.mb,h.ne,Au h.ol λg z=>d g (.inr (.inr (.inl z))),Au h.ml λg z=>d g (.inr (.inr (.inr (.inl z)))),h.L0,λi O E=>?_,
  λf I=>⟨(h.IG f I).1,?_⟩,h.IH,h.PF,h.GG,h.IJ,h.Js,h.Jp,h.Jq,h.OS,h.OT⟩
 ·have⟨h1,h2⟩:=h.BN i O E;refine⟨?_,Au h2 λg z=>d g (.inr (.inr (.inr (.inr (.inr ⟨_,BV O,z⟩)))))⟩;unfold Db at h1 ⊢;rw[d _ (.inr (.inr (.inr (.inr (.inl (BV O))))))];exact h1
 ·have⟨c,hc⟩:=(h.IG f I).2;exact⟨c,(X f I).trans hc⟩
def CS.Am{N:Nat}{w w':gx}{bo bm:Nat}{F:Nat->FC}{oe ma:gD Nat}{vo vm:gy}{VB:Nat->gy}{S:Nat->Prop}(h:CS N w bo bm F oe ma vo vm VB)(z:A4 S w w')(E:∀k,CB bo bm vo vm ma VB k->¬S k)(I:∀k,k<N->¬S k):CS N w' bo bm F oe ma vo vm VB:=
 h.aM (λk d=>z.Al k (h.lt d) (E k d)) λk d=>z.Al k (By (h.IG k d).2.choose_spec) (I k (h.IG k d).1)
def Tryz.eL:(Tryz.prog.info? 129).map (λi=>(i.zero,i.size,i.bytes))=some (some (.agg #[.slice none 0 0,A0 0]),2,32):=by kernel_rfl
def Tryz.fI:(Tryz.prog.info? 123).map (λi=>(i.zero,i.size,i.bytes))=some (some (.pointer none),1,8):=by kernel_rfl
def Zp(W:gx)(d x f:Nat)(E I:Array gy)(O:W.heap[x]?=some (.cells E 129 (0,0)))(z:W.heap[f]?=some (.cells I 129 (0,0)))(h:x≠f):
 (Op.equalIn (d+1) 123 (.pointer (some ⟨x,0,none⟩)) (.pointer (some ⟨f,0,none⟩))).run Tryz.prog W=.ok false W:=by
 have⟨j0,hj,hy0,hy1,hy2⟩:=DL Tryz.eL;have:=run_sameAddr_other (P:=Tryz.prog) W (a:=⟨x,0,none⟩) (b:=⟨f,0,none⟩) (by simp) O z;simp[Op.equalIn,run_underlying underlying123,typeInfo,sizeOf,hj,hy1,this]
def Zo(W:gx)(d x:Nat):(Op.equalIn (d+1) 123 (A5 x) (A5 x)).run Tryz.prog W=.ok true W:=by
 have⟨j0,hj,_,_,_⟩:=DL Tryz.eL;simp[Op.equalIn,run_underlying underlying123,typeInfo,sizeOf,hj,run_sameAddr_same]
def Zr(W:gx)(x f:Nat)(z d:Array gy)(I:W.heap[x]?=some (.cells z 129 (0,0)))(E:W.heap[f]?=some (.cells d 129 (0,0)))(h:x≠f):
 (binOp .neq 123 (.pointer (some ⟨x,0,none⟩)) (.pointer (some ⟨f,0,none⟩))).run Tryz.prog W=.ok (.bool true) W:=by
 simp only[binOp];simp[Op.equal,Op.maxDepth,Zp W 9999 x f z d I E h]
def Zq(W:gx)(x:Nat):(binOp .neq 123 (A5 x) (A5 x)).run Tryz.prog W=.ok (.bool false) W:=by
 simp only[binOp];simp[Op.equal,Op.maxDepth,Zo W 9999 x]
structure EP (N:Nat) (w:gx) (bo bm:Nat) (F:Nat->FC) (oe ma:gD Nat) (vo vm:gy) (VB:Nat->gy) (es:gD AO) (i cn:Nat) (ov:gy) (wr:gx) (L M:gD Nat) (aB aD:gy) (VB':Nat->gy) (aA:gD AO):Prop where
 cs:CS N wr bo bm F L M aB aD VB'
 Ff:Dd wr ov aA
 ren:Ren L M (es.take i) aA
 H3:∃oe',L=oe++oe'/\oe'.length<=cn/\∀f∈oe',Dp f es
 Ke:∃ma',M=ma++ma'/\∀m∈ma',w.heap.size<=m
 AV:∀g,ov.ownBlock=some g->w.heap.size<=g
 Am:A4 (CF bo bm vo vm) w wr
 LD:∀g,aB.ownBlock=some g->vo.ownBlock=some g\/w.heap.size<=g
 Nc:∀g,aD.ownBlock=some g->vm.ownBlock=some g\/w.heap.size<=g
 Q3:∀m∈ma,VB' m=VB m
def OR(N:Nat)(w:gx)(bo bm:Nat)(F:Nat->FC)(oe ma:gD Nat)(vo vm:gy)(VB:Nat->gy)(es:gD AO)(i:Nat)(ov:gy)(wr:gx):Prop:=
 ∃L M aB aD VB' aA,EP N w bo bm F oe ma vo vm VB es i i ov wr L M aB aD VB' aA
def CS.dp{N:Nat}{w:gx}{bo bm:Nat}{F:Nat->FC}{oe ma:gD Nat}{vo vm:gy}{VB:Nat->gy}(h:CS N w bo bm F oe ma vo vm VB){k:Nat}(d:CB bo bm vo vm ma VB k\/k∈oe):∃c e,w.heap[k]?=some (.cells c e (0,0))/\e≠125:=by
 have hl:=h.b6;rcases d with (rfl|rfl|d|d|d|⟨m,E,d⟩)|d
 ·exact⟨_,_,h.ob,by decide⟩
 ·exact⟨_,_,h.mb,by decide⟩
 ·have⟨c,hc⟩:=Bb h.ol d;exact⟨c,_,hc,by decide⟩
 ·have⟨c,hc⟩:=Bb h.ml d;exact⟨c,_,hc,by decide⟩
 ·obtain⟨i,z,rfl⟩:=DG d;exact⟨_,_,(h.BN i z (by omega)).1,by decide⟩
 ·obtain⟨i,z,rfl⟩:=DG E;have⟨c,hc⟩:=Bb (h.BN i z (by omega)).2 d;exact⟨c,_,hc,by decide⟩
 ·have⟨c,hc⟩:=(h.IG k d).2;exact⟨c,_,hc,by decide⟩
section
variable{N:Nat}{w wr W w3:gx}{bo bm:Nat}{F:Nat->FC}{oe ma:gD Nat}{vo vm:gy}{VB:Nat->gy}{es:gD AO}{i cn:Nat}{ov:gy}{L M:gD Nat}{aB aD:gy}{VB':Nat->gy}{aA:gD AO}
def EP.b2(h:EP N w bo bm F oe ma vo vm VB es i cn ov wr L M aB aD VB' aA)(d:A4 Aa wr W):EP N w bo bm F oe ma vo vm VB es i cn ov W L M aB aD VB' aA:=
 ⟨h.cs.Am d (λ_ _ h=>h) (λ_ _ h=>h),Au h.Ff λg z=>d.Al g (Aw h.Ff z) (λh=>h),h.ren,h.H3,h.Ke,h.AV,h.Am.AH d (λ_ h _=>h.elim),h.LD,h.Nc,h.Q3⟩
def EP.cu(h:EP N w bo bm F oe ma vo vm VB es i cn ov W L M aB aD VB' aA){j f mf:Nat}{nm:gC}{Y:gy}(I:i<es.length)(X:(es[i]'I).1=nm)(O:(es[i]'I).2=f)(hj:L[j]?=some f)(hm:M[j]?=some mf)(hcn:cn<=i+1)(E:App W w3 125 2 ov Y (aA.length+1) (C8 aA++[.string nm,.pointer (some ⟨mf,0,none⟩)])):EP N w bo bm F oe ma vo vm VB es (i+1) (i+1) Y w3 L M aB aD VB' (aA++[(nm,mf)]):=by
 have hs:∀k,CB bo bm aB aD M VB' k\/k∈L->w3.heap[k]?=W.heap[k]?:=by
  intro k z;have⟨c,e,d,h2⟩:=h.cs.dp z
  exact E.C7.block k (By d) (λe=>by
   have⟨c',h3⟩:=Bb h.Ff e.symm
   exact BR d h3 h2 rfl)
 refine⟨h.cs.aM (λk z=>hs k (.inl z)) (λk z=>hs k (.inr z)),?_,?_,?_,h.Ke,?_,?_,h.LD,h.Nc,h.Q3⟩
 ·have:=E.AB;unfold Dd;rw[LA,B3];exact this
 ·rw[<-List.take_append_getElem I];have:es[i]'I=(nm,f):=by rw[<-X,<-O]
  rw[this];exact h.ren.cu hj hm
 ·have⟨o,d,h2,h3⟩:=h.H3;exact⟨o,d,by omega,h3⟩
 ·intro g hg;rcases E.BY with d|d
  ·exact h.AV g (d.symm.trans hg)
  ·rw[hg]at d;cases d;exact h.Am.Ak
 ·exact h.Am.C7 E.C7 λk z hlt=>by have:=h.AV k z;omega
def EP.cL{w1 w2 I w6 aJ:gx}{f nq ne:Nat}{vb:gy}{a3 a6:Option Addr}{c3 c6:Nat}(h:EP N w bo bm F oe ma vo vm VB es i cn ov w1 L M aB aD VB' aA)(aU:L.length=ne)(hf:f∉L)(a2:Dp f es)(aZ:f<N)(aV:∃c,w1.heap[f]?=some (.cells c 129 (0,0)))(aQ:A4 (λ_=>False) w1 w2)(hA:App ((w2.drewN nq).alloc (.cells #[.pointer (some ⟨f,0,none⟩)] 123)) w3 123 1 aB (.slice a3 (ne+1) c3) (ne+1) (FD L++[.pointer (some ⟨f,0,none⟩)]))(aL:w3.setCell ⟨bo,0,none⟩ (.slice a3 (ne+1) c3)=aJ)(hB:App aJ.drew I 5 1 (.slice none 0 0) vb (F f).1.length (Ek (F f).1))(hC:App ((I.alloc (.cells #[vb,.int .i64 (F f).2] 129)).alloc (.cells #[.pointer (some ⟨I.heap.size,0,none⟩)] 123)) w6 123 1 aD (.slice a6 (ne+1) c6) (ne+1) (FD M++[.pointer (some ⟨I.heap.size,0,none⟩)])):
 EP N w bo bm F oe ma vo vm VB es i (cn+1) ov (w6.setCell ⟨bm,0,none⟩ (.slice a6 (ne+1) c6)) (L++[f]) (M++[I.heap.size]) (.slice a3 (ne+1) c3) (.slice a6 (ne+1) c6) (λm=>if m=I.heap.size then vb else VB' m) aA:=by
 subst aU;have hl:=h.cs.b6;have s2:=aQ.Ak;have s3:=hA.C7.size;have s4:aJ.heap.size<=I.heap.size:=hB.C7.size;have s6:=hC.C7.size;have sW:aJ.heap.size=w3.heap.size:=by rw[<-aL];simp
 simp only[Nn,World.heap_drewN]at s3 s6;have aW:=By h.cs.ob;have a4:=By h.cs.mb;have a1:∀g,aB.ownBlock=some g->g<w1.heap.size:=λg d=>Aw h.cs.ol d;have aI:∀g,aD.ownBlock=some g->g<w1.heap.size:=λg d=>Aw h.cs.ml d;have k3:=((((aQ.aT (S:=λk=>aB.ownBlock=some k))).a7 nq).aj (.cells #[.pointer (some ⟨f,0,none⟩)] 123)).C7 hA.C7 (λk hk _=>hk);have aH:=((((A4.C (λk=>aD.ownBlock=some k) aJ).aa.C7 hB.C7 (λk hk _=>by simp[Value.ownBlock]at hk)).aj (.cells #[vb,.int .i64 (F f).2] 129)).aj (.cells #[.pointer (some ⟨I.heap.size,0,none⟩)] 123)).C7 hC.C7 (λk hk _=>hk);have aR:=(k3.Al bo aW (λe=>by have⟨c,hh⟩:=Bb h.cs.ol e;exact BR hh h.cs.ob (by decide) rfl)).trans h.cs.ob;have a0:aJ.heap[bo]?=some (.cells #[.slice a3 (L.length+1) c3] 138 (0,0)):=by rw[<-aL];exact BQ aR
 have kW:A4 (One bo) w3 aJ:=by rw[<-aL];exact(A4.C (One bo) w3).ao rfl 0 _
 have aP:=(k3.Al bm a4 (λe=>by have⟨c,hh⟩:=Bb h.cs.ol e;exact BR hh h.cs.mb (by decide) rfl)).trans h.cs.mb;have aN:=(kW.Al bm (By aP) (λe=>h.cs.ne e.symm)).trans aP
 have aT:=(aH.Al bm (By aN) (λe=>by
  have⟨c,hh⟩:=Bb h.cs.ml e;exact BR hh h.cs.mb (by decide) rfl)).trans aN
 have k7:A4 (One bm) w6 (w6.setCell ⟨bm,0,none⟩ (.slice a6 (L.length+1) c6)):=(A4.C (One bm) w6).ao rfl 0 _;have e7:(w6.setCell ⟨bm,0,none⟩ (.slice a6 (L.length+1) c6)).heap[bm]?=some (.cells #[.slice a6 (L.length+1) c6] 138 (0,0)):=BQ aT;generalize aX:w6.setCell ⟨bm,0,none⟩ (.slice a6 (L.length+1) c6)=W7 at k7 e7 ⊢;have s7:W7.heap.size=w6.heap.size:=by rw[<-aX];simp
 have aS:A4 (λk=>k=bo\/k=bm\/aB.ownBlock=some k\/aD.ownBlock=some k) w1 W7:=by
  refine(((k3.ai (S':=λk=>k=bo\/k=bm\/aB.ownBlock=some k\/aD.ownBlock=some k) (λx _ E=>.inr (.inr (.inl E)))).AH kW (λx E _=>.inl E)).AH aH (λx E _=>.inr (.inr (.inr E)))).AH k7 (λx E _=>.inr (.inl E))
 have key:∀(k:Nat) (c:Array gy) (e:Nat),w1.heap[k]?=some (Obj.cells c e (0,0))->e≠138->e≠123->W7.heap[k]?=w1.heap[k]?:=λk c e hk h1 h2=>
  aS.Al k (By hk) (by
   rintro (rfl|rfl|d|d)
   ·exact BR hk h.cs.ob h1 rfl
   ·exact BR hk h.cs.mb h1 rfl
   ·have⟨c',hh⟩:=Bb h.cs.ol d;exact BR hk hh h2 rfl
   ·have⟨c',hh⟩:=Bb h.cs.ml d;exact BR hk hh h2 rfl)
 have aF:∀g,(Value.slice a3 (L.length+1) c3).ownBlock=some g->aB.ownBlock=some g\/(w1.heap.size<=g/\g<w3.heap.size):=λg d=>by
  have O:=Aw hA.AB d;rcases hA.BY with e|e
  ·rw[e]at d;exact .inl d
  ·rw[e]at d;cases d;right;simp at O ⊢;omega
 have aM:∀g,(Value.slice a6 (L.length+1) c6).ownBlock=some g->aD.ownBlock=some g\/I.heap.size+2<=g:=λg d=>by
  rcases hC.BY with e|e
  ·rw[e]at d;exact .inl d
  ·rw[e]at d;cases d;right;simp
 have aG:∀g,vb.ownBlock=some g->aJ.heap.size<=g:=λg d=>by
  rcases hB.BY with e|e
  ·rw[e]at d;simp[Value.ownBlock]at d
  ·rw[e]at d;cases d;simp
 have hM:∀m∈M,m<w1.heap.size:=λm z=>h.cs.lt (.inr (.inr (.inr (.inr (.inl z)))));have aO:∀m∈M,∀g,(VB' m).ownBlock=some g->g<w1.heap.size:=λm z g d=>h.cs.lt (.inr (.inr (.inr (.inr (.inr ⟨m,z,d⟩)))));have hNw:N<=w1.heap.size:=by have:=h.cs.IJ;omega
 have hww:=h.Am.Ak;have oL:W7.ownsRow 0 123 1 (.slice a3 (L.length+1) c3) (L.length+1) (FD L++[.pointer (some ⟨f,0,none⟩)]):=by
  have q1:=
   Au hA.AB λg d=>kW.Al g (Aw hA.AB d) (λe=>by have⟨c,hh⟩:=Bb hA.AB d;exact BR hh aR (by decide) e)
  have q2:=Au q1 λg d=>by
   have O:=Aw hA.AB d;refine aH.Al g (by omega) (λe=>?_);rcases aF g d with e2|e2
   ·exact h.cs.L0 g e2 e
   ·have:=aI g e;omega
  refine Au q2 λg d=>?_;have O:=Aw hA.AB d;refine k7.Al g (by omega) (λe=>?_);rcases aF g d with e2|e2
  ·have⟨c,hh⟩:=Bb h.cs.ol e2;exact BR hh h.cs.mb (by decide) e
  ·have:g=bm:=e;omega
 have oM:W7.ownsRow 0 123 1 (.slice a6 (L.length+1) c6) (L.length+1) (FD M++[.pointer (some ⟨I.heap.size,0,none⟩)]):=by
  refine Au hC.AB λg d=>k7.Al g (Aw hC.AB d) (λe=>?_);have⟨c,hh⟩:=Bb hC.AB d;exact BR hh aT (by decide) e
 have fB:Db W7 I.heap.size vb (F f).2:=by
  have h5:((I.alloc (.cells #[vb,.int .i64 (F f).2] 129)).alloc (.cells #[.pointer (some ⟨I.heap.size,0,none⟩)] 123)).heap[I.heap.size]?=some (.cells #[vb,.int .i64 (F f).2] 129 (0,0)):=by
   rw[CY _ _ _ (by simp)];exact Bl _ _
  have h6:=(hC.C7.block _ (by simp;omega) (λe=>by have:=aI _ e.symm;omega)).trans h5;exact(k7.Al _ (by omega) (λe=>by have:I.heap.size=bm:=e;omega)).trans h6
 have bB:Gf W7 vb (F f).1:=by
  refine Au hB.AB λg d=>?_;have O:=Aw hB.AB d;have hge:=aG g d;have h5:((I.alloc (.cells #[vb,.int .i64 (F f).2] 129)).alloc (.cells #[.pointer (some ⟨I.heap.size,0,none⟩)] 123)).heap[g]?=I.heap[g]?:=by
   rw[CY _ _ _ (by simp;omega),CY _ _ _ O]
  rw[<-h5,<-hC.C7.block g (by simp;omega) (λe=>by have:=aI _ e.symm;omega)];exact k7.Al _ (by omega) (λe=>by have:g=bm:=e;omega)
 have Y:I.heap.size∉M:=λz=>by have:=hM _ z;omega
 have aY:CS N W7 bo bm F (L++[f]) (M++[I.heap.size]) (.slice a3 (L.length+1) c3) (.slice a6 (L.length+1) c6) (λm=>if m=I.heap.size then vb else VB' m):=by
  refine⟨?_,e7,h.cs.ne,?_,?_,?_,?_,?_,?_,?_,?_,h.cs.IJ,h.cs.Js,?_,?_,?_,?_⟩
  ·refine(k7.Al bo (by omega) h.cs.ne).trans ((aH.Al bo (by omega) (λe=>?_)).trans a0);have⟨c,hh⟩:=Bb h.cs.ml e;exact BR hh h.cs.ob (by decide) rfl
  ·simpa[FD] using oL
  ·simpa[FD] using oM
  ·intro g h1 h2;rcases aF g h1 with e1|e1<;>rcases aM g h2 with e2|e2
   ·exact h.cs.L0 g e1 e2
   ·have:=a1 g e1;omega
   ·have:=aI g e2;omega
   ·omega
  ·intro j hj a7;by_cases O:j<M.length
   ·(have aK:j<L.length:=by omega);have z:M[j]'O≠I.heap.size:=λe=>Y (e ▸ BV O);have⟨q1,q2⟩:=h.cs.BN j O aK;simp only[Fs O,Fs aK,z,Cd];refine⟨?_,Au q2 λg d=>?_⟩
    ·unfold Db at q1 ⊢;rw[key _ _ _ q1 (by decide) (by decide)];exact q1
    ·have⟨c,hh⟩:=Bb q2 d;exact key _ _ _ hh (by decide) (by decide)
   ·(obtain rfl:j=M.length:=by simp at hj;omega);(have e1:(M++[I.heap.size])[M.length]'hj=I.heap.size:=by simp);(have e2:(L++[f])[M.length]'a7=f:=by simp[hl]);rw[e1,e2];simp only[Cq];exact⟨fB,bB⟩
  ·intro x E;rcases AX.1 E with E|E
   ·have⟨q1,c,q2⟩:=h.cs.IG x E;exact⟨q1,c,(key _ _ _ q2 (by decide) (by decide)).trans q2⟩
   ·simp at E;subst E;obtain⟨c,hc⟩:=aV;exact⟨aZ,c,(key _ _ _ hc (by decide) (by decide)).trans hc⟩
  ·refine Hb.2 ⟨h.cs.IH,by simp,λa ha b hb e=>?_⟩;simp at hb;subst hb;subst e;exact hf ha
  ·refine Hb.2 ⟨h.cs.PF,by simp,λa ha b hb e=>?_⟩;simp at hb;subst hb;subst e;exact Y ha
  ·intro m m' g z X d aE;rcases AX.1 z with z|z<;>rcases AX.1 X with X | X
   ·have n1:m≠I.heap.size:=λe=>Y (e ▸ z);have n2:m'≠I.heap.size:=λe=>Y (e ▸ X);simp only[n1,n2,Cd]at d aE;exact h.cs.GG m m' g z X d aE
   ·have n1:m≠I.heap.size:=λe=>Y (e ▸ z);simp at X;subst X;simp only[n1,Cd]at d;simp at aE;have:=aO m z g d;have:=aG g aE;omega
   ·have n1:m'≠I.heap.size:=λe=>Y (e ▸ X);simp at z;subst z;simp only[n1,Cd]at aE;simp at d;have:=aO m' X g aE;have:=aG g d;omega
   ·simp at z X;rw[z,X]
  ·intro g d;rcases aF g d with e|e
   ·exact h.cs.Jp g e
   ·omega
  ·intro g d;rcases aM g d with e|e
   ·exact h.cs.Jq g e
   ·omega
  ·intro m z;rcases AX.1 z with z|z
   ·exact h.cs.OS m z
   ·simp at z;omega
  ·intro m z g d;rcases AX.1 z with z|z
   ·have n1:m≠I.heap.size:=λe=>Y (e ▸ z);simp only[n1,Cd]at d;exact h.cs.OT m z g d
   ·simp at z;subst z;simp at d;have:=aG g d;omega
 refine⟨aY,?_,h.ren.ai,?_,?_,h.AV,?_,?_,?_,?_⟩
 ·refine Au h.Ff λg d=>?_;have⟨c,hh⟩:=Bb h.Ff d;exact key _ _ _ hh (by decide) (by decide)
 ·have⟨o,h1,h2,h3⟩:=h.H3;refine⟨o++[f],by rw[h1,Ci],by simp;omega,λx E=>?_⟩;rcases AX.1 E with E|E
  ·exact h3 x E
  ·simp at E;subst E;exact a2
 ·have⟨o,h1,h2⟩:=h.Ke;refine⟨o++[I.heap.size],by rw[h1,Ci],λx E=>?_⟩;rcases AX.1 E with E|E
  ·exact h2 x E
  ·simp at E;omega
 ·refine h.Am.AH aS ?_;rintro x (rfl|rfl|E|E) O
  ·exact .inl rfl
  ·exact .inr (.inl rfl)
  ·rcases h.LD x E with e|e
   ·exact .inr (.inr (.inl e))
   ·omega
  ·rcases h.Nc x E with e|e
   ·exact .inr (.inr (.inr e))
   ·omega
 ·intro g d;rcases aF g d with e|e
  ·exact h.LD g e
  ·right;omega
 ·intro g d;rcases aM g d with e|e
  ·exact h.Nc g e
  ·right;omega
 ·intro m z;have⟨o,h1,_⟩:=h.Ke;have a5:m∈M:=by rw[h1];exact AX.2 (.inl z)
  have n1:m≠I.heap.size:=λe=>Y (e ▸ a5);simp only[n1,Cd];exact h.Q3 m z
end
def ZD(N:Nat)(w:gx)(bo bm:Nat)(F:Nat->FC)(oe ma:gD Nat)(vo vm:gy)(VB:Nat->gy)(h:CS N w bo bm F oe ma vo vm VB)(es:gD AO)(vl:gy)(bJ:Dd w vl es)(cH:∀g,vl.ownBlock=some g->g<N)(hn:es.length<1099511627776/\oe.length<1099511627776)(hf:∀f,Dp f es->f<N/\(F f).1.length<=1099511627776/\∃v,Db w f v (F f).2/\Gf w v (F f).1/\∀g,v.ownBlock=some g->g<N):
 Ag 87 #[vl,A5 bo,A5 bm] w λe w'=>∃v,e=.returned v/\OR N w bo bm F oe ma vo vm VB es es.length v w':=by
 have H:=A1 h;have bM:=A1 hf;have cU:=A1 bJ;have cY:=A1 cH;obtain⟨a,cap,rfl,hle,b7,he⟩:=bJ.BW;have cV:=A1 he;obtain⟨hn1,hn2⟩:=hn;unfold maxLen at b7
 go_enter func87,ntmps87
 go_wp2;go_loopw [5,11] (λov iv wr=>∃i:Nat,i<=es.length/\iv=A0 i/\Hid (OR N w bo bm F oe ma vo vm VB es i ov wr)) (λ_ iv _=>es.length-(intOf iv).toNat)
 ·exact⟨0,Ch _,rfl,oe,ma,vo,vm,VB,[],H.o,Co _ _ _ _,⟨by simp,by simp⟩,⟨[],by simp⟩,⟨[],by simp⟩,by simp[Value.ownBlock],A4.C _ _,λ_ h=>.inl h,λ_ h=>.inl h,λ_ _=>rfl⟩
 ·obtain⟨i,hi,rfl,bE⟩:=hrel;by_cases aH:i<es.length
  ·have⟨L,M,aB,aD,VB',aA,k0⟩:=bE.o;have k1:=k0.cs;have k6:=k0.Am;obtain⟨g,rfl,e1,e2⟩:=cV.o i aH;have hgN:=cY.o g rfl;have a4:=Aw cU.o (g:=g) rfl;have bH:¬CF bo bm vo vm g:=by
    rintro (rfl|rfl|X|X)
    ·have:=H.o.IJ;omega
    ·have:=H.o.Js;omega
    ·have:=H.o.Jp g X;omega
    ·have:=H.o.Jq g X;omega
   have e3:=(DO (k6.Al g a4 bH)).trans e1;have e4:=(DO (k6.Al g a4 bH)).trans e2;obtain⟨nm,a9⟩:∃nm,(es[i]'aH).1=nm:=⟨_,rfl⟩;obtain⟨f,aM⟩:∃f,(es[i]'aH).2=f:=⟨_,rfl⟩;rw[a9]at e3;rw[aM]at e4;have bN:=A1 k1;have bL:=A1 k6;have bR:=A1 <| (bM.o f ⟨_,BV aH,aM⟩).2.1;have cB:Hid (∃v,(∀g,v.oB g->g<N)/\∀W,A4 (CF bo bm vo vm) w W->Db W f v (F f).2/\Gf W v (F f).1):=by
    have⟨h1,_,v,h2,h3,h4⟩:=bM.o f ⟨_,BV aH,aM⟩;have key:∀k,k<N->¬CF bo bm vo vm k:=by
     rintro k hk (rfl|rfl|X|X)
     ·have:=H.o.IJ;omega
     ·have:=H.o.Js;omega
     ·have:=H.o.Jp k X;omega
     ·have:=H.o.Jq k X;omega
    refine⟨v,h4,λW hc=>⟨(hc.Al f (By h2) (key f h1)).trans h2,Au h3 λg X=>hc.Al g (Aw h3 X) (key g (h4 g X))⟩⟩
   have bI:Hid (∀W:gx,A4 (CF bo bm vo vm) w W->∃c,W.heap[f]?=some (.cells c 129 (0,0))):=by
    intro W hc;have⟨h1,_,v,h2,_⟩:=bM.o f ⟨_,BV aH,aM⟩;refine⟨_,(hc.Al f (By h2) ?_).trans h2⟩;rintro (rfl|rfl|X|X)
    ·have:=H.o.IJ;omega
    ·have:=H.o.Js;omega
    ·have:=H.o.Jp f X;omega
    ·have:=H.o.Jq f X;omega
   have hLl:L.length<2199023255552:=by
    have⟨o,h1,h2,_⟩:=k0.H3;rw[h1,B3];omega
   (have hEl:aA.length=i:=by have:=k0.ren.1;rw[BK]at this;omega);have⟨i0,hi0,hz0,hz1,hz2⟩:=DL Tryz.db;have bD:=A1 a9;have aV:=A1 aM;obtain⟨ne,aU⟩:∃ne,aA.length=ne:=⟨_,rfl⟩;(have hne2:ne<1099511627776:=by omega);have aS:=A1 aU;have bP:=A1 k0;obtain⟨ao,co,rfl,ho1,b0,cG,_,_⟩:=B8 k1.ol;unfold maxLen at b0;go_wp2;have cJ:=A1 cG;obtain⟨O,bQ⟩:∃O,O=wr:=⟨_,rfl⟩;subst bQ;have hsz:=By bN.o.ob;go_loopw [8] (λjv w2=>∃j:Nat,j<=L.length/\jv=A0 j/\Hid (∀m (h:m<L.length),m<j->L[m]'h≠f)/\Hid (A4 Aa (O.aC #[.string nm,A5 f] 125) w2)) (λjv _=>L.length-(intOf jv).toNat)
   ·exact⟨0,Ch _,rfl,λm h hm=>by omega,A4.C _ _⟩
   ·obtain⟨j,hj,rfl,bA,aG⟩:=hrel;obtain⟨w2,bO⟩:∃w2,w2=wr:=⟨_,rfl⟩;subst bO;have bG:=A1 <| (bL.o.aj _).AH aG.o (λ_ h _=>h.elim);have I:=A1 <| (bN.o.Am ((A4.C Aa O).aj _) (λ_ _ h=>h) (λ_ _ h=>h)).Am aG.o (λ_ _ h=>h) (λ_ _ h=>h);(have b1:w2.cell? (A9 bo 0)=some (.slice ao L.length co):=by have:=I.o.ob;simp[World.cell?,this]);have hE:=(aG.o.Al O.heap.size (by simp) (λh=>h)).trans (Bl O _);(have b2:w2.cell? (A9 O.heap.size 0)=some (.string nm):=by simp[World.cell?,hE]);(have b3:w2.cell? (A9 O.heap.size 1)=some (A5 f):=by simp[World.cell?,hE]);by_cases aL:j<L.length
    ·obtain⟨go,rfl⟩:=cJ.o (by omega);obtain⟨x,hx⟩:∃x,L[j]'aL=x:=⟨_,rfl⟩;have b4:w2.cell? (A9 go j)=some (A5 x):=by
      refine Bv I.o.ol (g:=go) rfl ?_;unfold FD;rw[Qq,Dz aL,hx];rfl
     have cE:=A1 hx;by_cases aY:x=f
     ·subst aY;have q:=λW=>Zq W x;go_wp2;go_quiet (fail);go_wp2;obtain⟨mf,a2⟩:∃mf,M[j]?=some mf:=⟨M[j]'(by rw[I.o.b6];exact aL),Dz _⟩;have⟨am,cm,hvm,hm1,hm2,aP,_,_⟩:=B8 I.o.ml;subst hvm;obtain⟨gm,rfl⟩:=aP (by omega);unfold maxLen at hm2;(have b5:w2.cell? (A9 bm 0)=some (AA gm L.length cm):=by have:=I.o.mb;simp[World.cell?,this]);have b6:w2.cell? (A9 gm j)=some (A5 mf):=by
       refine Bv I.o.ml (g:=gm) rfl ?_;unfold FD;rw[Qq,a2];rfl
      have bY:=A1 a2;have Y:Hid (∀n,EP N w bo bm F oe ma vo vm VB es i i u5 ((w2.drewN n).aC #[.string nm,A5 mf] 125) L M (AA go L.length co) (AA gm L.length cm) VB' aA):=
       λn=>bP.o.b2 (((((A4.C Aa O).aj _).tr aG.o).a7 n).aj _)
      have aO:Hid (∀n,((w2.drewN n).aC #[.string nm,A5 mf] 125).ownsRow 0 125 2 u5 ne (C8 aA)):=λn=>aS.o ▸ (Y.o n).Ff;have aX:Hid (∀n,Src Tryz.prog 2 92 (AA w2.heap.size 1 1) 1 [.string nm,A5 mf] ((w2.drewN n).aC #[.string nm,A5 mf] 125)):=
       λn=>Src.bc Fj (w2.drewN n) #[.string nm,A5 mf] 125 w2.heap.size (by simp) 1 1 rfl (by simp[Value.oneCell'])
      (have aQ:(ne+1)*24<=140737488355328:=by omega);have aN:Hid (∀n b3 z w3,App ((w2.drewN n).aC #[.string nm,A5 mf] 125) w3 125 2 u5 (.slice b3 (ne+1) z) (ne+1) (C8 aA++[.string nm,A5 mf])->OR N w bo bm F oe ma vo vm VB es (i+1) (.slice b3 (ne+1) z) w3):=by
       intro n b3 z w3 hA;exact⟨_,_,_,_,_,_,(Y.o n).cu aH bD.o aV.o (by rw[Dz aL,cE.o]) bY.o (by omega) (by rw[aS.o];exact hA)⟩
      go_region_law
       ((refine K4 ?_ (.tmp 55) (.tmp 63) 92 92 ?_ 125 i0 _ 2 24 Fj hi0 hz0 hz1 hz2 rfl (Nat.zero_lt_succ 23) u5 ne (C8 aA) ?_ (aO.o (nq+1)) (AA w2.heap.size 1 1) 1 [.string nm,A5 mf] ?_ (aX.o (nq+1)) aQ ?_;(· rfl);(· rfl);(· rfl);(· rfl);intro b3 z w3 hA;have bW:=A1 (aN.o (nq+1) b3 z w3 hA)))
      all_goals (go_wp2;go_roundw;(case rel=>exact⟨i+1,by omega,by go_num,bW.o⟩);(case measure=>simp[intOf];omega))
     ·have⟨cx,hcx⟩:=(I.o.IG x (cE.o ▸ BV aL)).2;have q:∀n:Nat,(binOp .neq 123 (A5 x) (A5 f)).run Tryz.prog (w2.drewN n)=.ok (.bool true) (w2.drewN n):=by
       intro n;have⟨cf,hcf⟩:=bI.o w2 (bG.o);exact Zr _ x f cx cf (by simpa using hcx) (by simpa using hcf) aY
      go_wp2;go_quiet (fail);go_wp2;go_roundw
      ·refine⟨j+1,by omega,by go_num,λm h hm=>?_,aG.o.a7 _⟩;by_cases bV:m=j
       ·subst bV;rw[cE.o];exact aY
       ·exact bA.o m h (by omega)
      ·simp[intOf];omega
    ·(obtain rfl:j=L.length:=by omega);have⟨p0,hp,hp0,hp1,hp2⟩:=DL Tryz.fI;have aX:Hid (∀n,Src Tryz.prog 1 138 (AA w2.heap.size 1 1) 1 [A5 f] ((w2.drewN n).aC #[A5 f] 123)):=
      λn=>Src.bc underlying138 (w2.drewN n) #[A5 f] 123 w2.heap.size (by simp) 1 1 rfl (by simp[Value.oneCell'])
     have bU:Hid (∀n,((w2.drewN n).aC #[A5 f] 123).ownsRow 0 123 1 (.slice ao L.length co) L.length (FD L)):=
      λn=>Au I.o.ol λg X=>CY _ _ _ (by simpa using Aw I.o.ol X)
     (have aQ:(L.length+1)*8<=140737488355328:=by omega)
     have cT:Hid (∀n w3 a3 z,App ((w2.drewN n).aC #[A5 f] 123) w3 123 1 (.slice ao L.length co) (.slice a3 (L.length+1) z) (L.length+1) (FD L++[A5 f])->
      w3.frozen? (A9 bo 0)=false/\w3.cell? (A9 bo 0)=some (.slice ao L.length co)/\A4 (λk=>k=bo\/(Value.slice ao L.length co).oB k) w2 (w3.setCell (A9 bo 0) (.slice a3 (L.length+1) z))):=by
      intro n w3 a3 z hA;have aU:(Value.slice ao L.length co).ownBlock≠some bo:=λe=>by
       have⟨c,hh⟩:=Bb I.o.ol e;exact BR hh I.o.ob (by decide) rfl
      have bC:w3.heap[bo]?=some (.cells #[.slice ao L.length co] 138 (0,0)):=by
       rw[hA.C7.block bo (by have:=By I.o.ob;simp;omega) (λe=>aU e.symm),CY _ _ _ (by simpa using By I.o.ob)];exact I.o.ob
      refine⟨by simp[World.frozen?,bC],by simp[World.cell?,bC],?_⟩;exact((((A4.C _ w2).a7 n).aj _).C7 hA.C7 (λk hk _=>.inr hk)).ao (.inl rfl) 0 _
     go_wp2;go_quiet (fail);go_wp2_with (at_builtin;refine CU rfl (.tmp 34) (.tmp 37) 138 138 rfl 123 p0 _ 1 8 underlying138 hp hp0 hp1 hp2 rfl (by decide) _ _ _ (by rfl) (bU.o nq) _ 1 _ (by rfl) (aX.o nq) aQ ?_;intro a3 z w3 hA;have c3:=A1 (cT.o nq w3 a3 z hA);have f3:=c3.o.1;have g3:=c3.o.2.1);have aJ:=c3.o.2.2;generalize cC:w3.setCell (A9 bo 0) (.slice a3 (L.length+1) z)=W3 at aJ ⊢;have C3b:=A1 aJ;have b9:=A1 cC;have cO:=A1 hA;have⟨am,cm,hvm,hm1,hm2,aP,_,_⟩:=B8 I.o.ml;subst hvm;unfold maxLen at hm2
     have cI:=A1 <| bG.o.AH aJ (λx hx bB=>by
      rcases hx with rfl|hx
      ·exact .inl rfl
      ·rcases bP.o.LD x hx with h|h
       ·exact .inr (.inr (.inl h))
       ·omega)
     have⟨vf,hvf1,hvf2⟩:=cB.o;have⟨Y,hq2⟩:=hvf2 W3 cI.o;obtain⟨af,cf,rfl,hf1,bX⟩:=hq2.BW;unfold maxLen at bX;have d1:=Y.c0;have d2:=Y.c1;have bZ:¬(Value.slice ao L.length co).oB bm:=λe=>by
      have⟨c,hh⟩:=Bb I.o.ol e;exact BR hh I.o.mb (by decide) rfl
     have aK:=
      (aJ.Al bm (By I.o.mb) (λe=>e.elim (λe=>I.o.ne e.symm) bZ)).trans I.o.mb
     (have d3:W3.cell? (A9 bm 0)=some (.slice am L.length cm):=by simp[World.cell?,aK]);(have hge:O.heap.size<=w2.heap.size:=by have:=aG.o.Ak;simp at this;omega);have cD:∀g,(Value.slice ao L.length co).oB g->g<O.heap.size:=λg X=>Aw bN.o.ol X;have aF:=(aJ.Al O.heap.size (by have:=aG.o.Ak;simp at this;omega) (λe=>e.elim (λe=>by omega) (λe=>by have:=cD _ e;omega))).trans ((aG.o.Al O.heap.size (by simp) (λh=>h)).trans (Bl O _));(have d4:W3.cell? (A9 O.heap.size 0)=some (.string nm):=by simp[World.cell?,aF]);(have d5:W3.cell? (A9 O.heap.size 1)=some (A5 f):=by simp[World.cell?,aF]);have⟨y0,hy,hy0,hy1,hy2⟩:=DL Tryz.infoByte;have cA:=A1 <| Src.bP (w:=W3.drew) Hl hq2 (A3l _);(have cN:(0+(F f).1.length)*1<=140737488355328:=by have:=bR.o;omega);have cP:Hid (∀E v4 n xs,App W3.drew E 5 1 (.slice none 0 0) v4 n xs->E.cell? (A9 O.heap.size 1)=some (A5 f)/\E.cell? (A9 f 0)=some (.slice af (F f).1.length cf)/\E.cell? (A9 f 1)=some (A0 (F f).2)/\E.cell? (A9 bm 0)=some (.slice am L.length cm)/\E.cell? (A9 O.heap.size 0)=some (.string nm)):=by
      intro E v4 n xs hB;have hc:∀k o,W3.heap[k]?=some o->E.heap[k]?=some o:=λk o ho=>(hB.bF.Al k (By ho) (λh=>h)).trans ho
      exact⟨(DO ((hc _ _ aF).trans aF.symm)).trans d5,(DO ((hc _ _ Y).trans Y.symm)).trans d1,(DO ((hc _ _ Y).trans Y.symm)).trans d2,(DO ((hc _ _ aK).trans aK.symm)).trans d3,(DO ((hc _ _ aF).trans aF.symm)).trans d4⟩
     have cX:Hid (∀E v4 n xs o1 o2,App W3.drew E 5 1 (.slice none 0 0) v4 n xs->((E.alloc o1).alloc o2).ownsRow 0 123 1 (.slice am L.length cm) L.length (FD M)):=by
      intro E v4 n xs o1 o2 hB
      have aP:=Au I.o.ml λg X=>aJ.Al g (Aw I.o.ml X) (by
       rintro (e|e)
       ·have⟨c,hh⟩:=Bb I.o.ml X;exact BR hh I.o.ob (by decide) e
       ·exact I.o.L0 g e X)
      have a5:=Au aP λg X=>hB.bF.Al g (Aw aP X) (λh=>h);have a8:(E.alloc o1).ownsRow 0 123 1 (.slice am L.length cm) L.length (FD M):=Au a5 λg X=>CY _ _ _ (Aw a5 X);exact Au a8 λg X=>CY _ _ _ (Aw a8 X)
     have cQ:Hid (∀E v4 n xs o1 o2 w6 a6 d ys,App W3.drew E 5 1 (.slice none 0 0) v4 n xs->App ((E.alloc o1).alloc o2) w6 123 1 (.slice am L.length cm) (.slice a6 (L.length+1) d) (L.length+1) ys->
      (w6.cell? (A9 O.heap.size 1)=some (A5 f)/\w6.cell? (A9 f 0)=some (.slice af (F f).1.length cf)/\w6.cell? (A9 f 1)=some (A0 (F f).2)/\w6.cell? (A9 bm 0)=some (.slice am L.length cm)/\w6.cell? (A9 O.heap.size 0)=some (.string nm))/\w6.frozen? (A9 bm 0)=false/\(w6.setCell (A9 bm 0) (.slice a6 (L.length+1) d)).cell? (A9 O.heap.size 0)=some (.string nm)):=by
      intro E v4 n xs o1 o2 w6 a6 d ys hB hC;have hc:∀k o,W3.heap[k]?=some o->(Value.slice am L.length cm).ownBlock≠some k->w6.heap[k]?=some o:=λk o ho hn=>by
       have h4:=(hB.bF.Al k (By ho) (λh=>h)).trans ho;have h5:((E.alloc o1).alloc o2).heap[k]?=some o:=by
        rw[CY _ _ _ (by have:=By h4;simp;omega),CY _ _ _ (By h4)];exact h4
       exact(hC.C7.block k (By h5) (λe=>hn e.symm)).trans h5
      have aZ:∀k (c:Array gy) (e:Nat),W3.heap[k]?=some (Obj.cells c e (0,0))->e≠123->(Value.slice am L.length cm).ownBlock≠some k:=λk c e hk he hn=>by
       have bB:=Aw I.o.ml hn;have⟨c',hh⟩:=Bb I.o.ml hn
       have:W3.heap[k]?=w2.heap[k]?:=aJ.Al k bB (by
        rintro (e2|e2)
        ·exact BR hh I.o.ob (by decide) e2
        ·exact I.o.L0 k e2 hn)
       rw[this,hh]at hk;cases hk;exact he rfl
      have x1:=hc _ _ aF (aZ _ _ _ aF (by decide));have x2:=hc _ _ Y (aZ _ _ _ Y (by decide));have x3:=hc _ _ aK (aZ _ _ _ aK (by decide));(have aW:bm≠O.heap.size:=by have:=By bN.o.mb;omega);refine⟨⟨(DO (x1.trans aF.symm)).trans d5,(DO (x2.trans Y.symm)).trans d1,(DO (x2.trans Y.symm)).trans d2,(DO (x3.trans aK.symm)).trans d3,(DO (x1.trans aF.symm)).trans d4⟩,by simp[World.frozen?,x3],?_⟩;rw[A4h _ _ _ _ aW];exact(DO (x1.trans aF.symm)).trans d4
     have cF:f∉L:=λhm=>by
      have⟨m,hm1,hm2⟩:=DG hm;exact bA.o m hm1 hm1 hm2
     have aT:Dp f es:=⟨_,BV aH,aV.o⟩
     have cM:Hid (∀E b4 aE w6 a6 d,App W3.drew E 5 1 (.slice none 0 0) (.slice b4 (F f).1.length aE) (F f).1.length (Ek (F f).1)->
      App ((E.aC #[.slice b4 (F f).1.length aE,A0 (F f).2] 129).aC #[A5 E.heap.size] 123) w6 123 1 (.slice am L.length cm) (.slice a6 (L.length+1) d) (L.length+1) (FD M++[A5 E.heap.size])->
      EP N w bo bm F oe ma vo vm VB es i (i+1) u5 (w6.setCell (A9 bm 0) (.slice a6 (L.length+1) d)) (L++[f]) (M++[E.heap.size]) (.slice a3 (L.length+1) z) (.slice a6 (L.length+1) d) (λm=>if m=E.heap.size then .slice b4 (F f).1.length aE else VB' m) aA):=
      λE b4 aE w6 a6 d hB hC=>bP.o.cL rfl cF aT (bM.o f aT).1 (bI.o O bL.o) (((A4.C Aa O).aj _).tr aG.o) cO.o b9.o hB hC
     have cS:Hid (W3.drew.cell? (A9 O.heap.size 1)=some (A5 f)/\W3.drew.cell? (A9 f 0)=some (.slice af (F f).1.length cf)/\W3.drew.cell? (A9 f 1)=some (A0 (F f).2)/\W3.drew.cell? (A9 bm 0)=some (.slice am L.length cm)/\W3.drew.cell? (A9 O.heap.size 0)=some (.string nm)):=⟨d5,d1,d2,d3,d4⟩;refine FN (λw'=>w'.cell? (A9 O.heap.size 1)=some (A5 f)/\w'.cell? (A9 f 0)=some (.slice af (F f).1.length cf)/\w'.cell? (A9 f 1)=some (A0 (F f).2)/\w'.cell? (A9 bm 0)=some (.slice am L.length cm)/\w'.cell? (A9 O.heap.size 0)=some (.string nm)) 16
      (Ba [0,1,2,3,4,5,7,8,9,10,11,6,12,13,14,15] [6,13,14,15]) (by kernel_rfl) (by kernel_rfl) (λ_ _ _ _ _ h=>h) cS.o ?_
     iterate 11 (refine E1 (v:=?_) rfl (by rfl) ?_ ?_;rotate_left;(· (intro w' hS;(try dsimp only at hS);go_simp;try with_reducible rfl));(try simp only[BO]))
     refine Dv rfl (by rfl) (λK hK=>?_);refine HP (.const (.slice none 0 0)) (.tmp 44) 127 127 (by rfl) 5 y0 _ 1 1 Hl hy hy0 hy1 hy2 rfl (by decide) (.slice none 0 0) 0 [] (by rfl) (Co _ _ _ _) _ (F f).1.length _ (by rfl) cA.o cN ?_;intro b4 aE E hB;simp only[Ha,Fa]at hB ⊢;refine hK _ _ (cP.o _ _ _ _ hB) (λhS=>?_)
     (try simp only[BO])
     obtain⟨q1,q2,q3,q4,q5⟩:=hS
     (refine E1 (v:=?_) rfl (by rfl) ?_ ?_;rotate_left;(· (intro w' hS;(try dsimp only at hS);go_simp;try with_reducible rfl));(try simp only[BO]))
     refine Dv rfl (by rfl) (λK hK=>?_);go_simp;refine hK _ _ ?_ (λhS=>?_)
     ·simp[World.cell?_alloc_some,q1,q2,q3,q4,q5]
     (try simp only[BO])
     obtain⟨q1',q2',q3',q4',q5'⟩:=hS;refine Dv rfl (by rfl) (λK hK=>?_);go_simp;refine hK _ _ ?_ (λhS=>?_)
     ·simp[World.cell?_alloc_some,q1,q2,q3,q4,q5]
     (try simp only[BO])
     have bS:Hid (Src Tryz.prog 1 138 (AA (E.heap.size+1) 1 1) 1 [A5 E.heap.size] ((E.aC #[.slice b4 (F f).1.length aE,A0 (F f).2] 129).aC #[A5 E.heap.size] 123)):=
      Src.bc underlying138 (E.aC #[.slice b4 (F f).1.length aE,A0 (F f).2] 129) #[A5 E.heap.size] 123 (E.heap.size+1) (by simp) 1 1 rfl (by simp[Value.oneCell'])
     refine Dv rfl (by rfl) (λK hK=>?_);refine HP (.tmp 39) (.tmp 53) 138 138 (by rfl) 123 p0 _ 1 8 underlying138 hp hp0 hp1 hp2 rfl (by decide) (.slice am L.length cm) L.length (FD M) (by rfl) (cX.o _ _ _ _ _ _ hB) _ 1 _ (by rfl) bS.o aQ ?_;intro a6 d w6 hC;have k7:=A1 (cM.o E b4 aE w6 a6 d hB hC);have⟨r1,r2,r3⟩:=cQ.o _ _ _ _ _ _ _ _ _ _ hB hC;refine hK _ _ r1 (λhS=>?_);obtain⟨_,_,_,r4,_⟩:=r1
     (try simp only[BO])
     refine Fx ?_;simp only[DH,Dl];go_wp2;generalize hW7:w6.setCell (A9 bm 0) (.slice a6 (L.length+1) d)=W7 at k7 r3 ⊢;generalize a2:E.heap.size=mf at k7;have a0:=k7.o.cs.ml;(have a1:(L++[f]).length=L.length+1:=by simp);rw[a1]at a0;have⟨a7,c7,e7,hm1',hm2',hm3',_,_⟩:=B8 a0;cases e7;obtain⟨g6,rfl⟩:=hm3' (by omega);unfold maxLen at hm2';(have m1:W7.cell? (A9 bm 0)=some (AA g6 (L.length+1) d):=by have:=k7.o.cs.mb;simp[World.cell?,this]);have m2:W7.cell? (A9 g6 L.length)=some (A5 mf):=by
      refine Bv a0 (g:=g6) rfl ?_;have aR:=I.o.b6;unfold FD;rw[EG,I7 (by simp[aR])];simp[aR]
     have aO:Hid (((W7.drew).aC #[.string nm,A5 mf] 125).ownsRow 0 125 2 u5 ne (C8 aA)):=aS.o ▸ (k7.o.b2 ((A4.C _ W7).aa.aj _)).Ff;have bK:Hid (Src Tryz.prog 2 92 (AA W7.heap.size 1 1) 1 [.string nm,A5 mf] ((W7.drew).aC #[.string nm,A5 mf] 125)):=
      Src.bc Fj W7.drew #[.string nm,A5 mf] 125 W7.heap.size (by simp) 1 1 rfl (by simp[Value.oneCell'])
     (have bF:(ne+1)*24<=140737488355328:=by omega);have aN:Hid (∀b8 aI w8,App ((W7.drew).aC #[.string nm,A5 mf] 125) w8 125 2 u5 (.slice b8 (ne+1) aI) (ne+1) (C8 aA++[.string nm,A5 mf])->OR N w bo bm F oe ma vo vm VB es (i+1) (.slice b8 (ne+1) aI) w8):=by
      intro b8 aI w8 hA;have aR:M.length=L.length:=I.o.b6;exact⟨_,_,_,_,_,_,(k7.o.b2 ((A4.C _ W7).aa.aj (.cells #[.string nm,A5 mf] 125))).cu (j:=L.length) (mf:=mf) aH bD.o aV.o (by simp) (by simp[<-aR]) (Ao _) (by rw[aS.o];exact hA)⟩
     have j0:(0:Int)<=(L.length:Int):=Gu _;obtain⟨nl,cL,j1⟩:∃nl:Nat,L.length+1=nl/\(L.length:Int)<(nl:Int):=⟨_,rfl,by omega⟩;rw[cL]at m1;refine FN (λw'=>w'.cell? (A9 O.heap.size 0)=some (.string nm)/\w'.cell? (A9 bm 0)=some (AA g6 nl d)/\w'.cell? (A9 g6 L.length)=some (A5 mf)) 9
      (Ba [0,1,2,3,4,5,6,7,8] [8]) (by kernel_rfl) (by kernel_rfl) (λ_ _ _ _ _ h=>h) ⟨r3,m1,m2⟩ ?_
     iterate 8 (refine E1 (v:=?_) rfl (by rfl) ?_ ?_;rotate_left;(· (intro w' hS;(try dsimp only at hS);go_simp;try with_reducible rfl));(try simp only[BO]))
     refine Dv rfl (by rfl) (λK hK=>?_);go_simp;refine hK _ _ ?_ (λhS=>?_)
     ·simp[World.cell?_alloc_some,r3,m1,m2]
     (try simp only[BO])
     refine Fx ?_;simp only[DH,Dl];go_wp2_with (at_builtin;refine CU rfl (.tmp 55) (.tmp 63) 92 92 rfl 125 i0 _ 2 24 Fj hi0 hz0 hz1 hz2 rfl (by decide) u5 ne (C8 aA) (by rfl) aO.o _ 1 _ (by rfl) bK.o bF ?_;intro b8 aI w8 hD;have bT:=A1 (aN.o b8 aI w8 hD));go_roundw
     ·exact⟨i+1,by omega,by go_num,bT.o⟩
     ·simp[intOf];omega
  ·(obtain rfl:i=es.length:=by omega);go_wp2;go_ret;exact⟨_,rfl,bE.o⟩
end
end Go.Proofs.YtodcnkbblippnaaGreatDoor
