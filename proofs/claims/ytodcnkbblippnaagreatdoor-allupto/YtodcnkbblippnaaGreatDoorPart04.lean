/- Part 4 of a proof: walks of the program. -/
import Derived.BigRegion
import Derived.BigQuiet
import Derived.Deep.QuietTactic
import Derived.Deep.RegionLaw
import Derived.StillTailTactics
import Derived.Test.YtodcnkbblippnaaGreatDoorPart02
namespace Go.Proofs.YtodcnkbblippnaaGreatDoor
set_option maxRecDepth 100000
set_option maxHeartbeats 32000000
set_option linter.defProp false
open Go.Proofs.Tryz
section
open Go.RowKit
attribute [local go_sem ↓] Go.wp_at_zero Go.wp_at_succ
def less(a b:gE):Bool:=Op.bytesLess a.toList b.toList
def Gd(l:gF gE):gF Value:=l.map Value.string
def ET(l:gF gE)(x:gE):Nat->Nat
 | 0=>0
 | k+1=>match l[k]? with
  | some y=>if less x y then ET l x k else k+1
  | none=>k+1
def ins(l:gF gE)(x:gE):gF ByteArray:=l.take (ET l x l.length)++x::l.drop (ET l x l.length)
def Fc(es:gF AP):Nat->gF gE
 | 0=>[]
 | k+1=>match es[k]? with
  | some e=>ins (Fc es k) e.1
  | none=>Fc es k
def dList(es:gF AP):gF ByteArray:=Fc es es.length
def Ut(l:gF gE)(x:gE)(k:Nat):ET l x k<=k:=by
 induction k with
 | zero=>simp[ET]
 | succ k ih=>
  simp only[ET];split
  ·split<;>omega
  ·omega
def A1F(l:gF gE)(x:gE):(ins l x).length=l.length+1:=by
 have:=Ut l x l.length;simp[ins];omega
def Nl(es:gF AP)(k:Nat)(hk:k<=es.length):(Fc es k).length=k:=by
 induction k with
 | zero=>rfl
 | succ k ih=>
  simp only[Fc,Dx (show k<es.length by omega)];rw[A1F,ih iC]
def Nk(es:gF AP)(k:Nat)(d:k<es.length):Fc es (k+1)=ins (Fc es k) (es[k]'d).1:=by
 simp only[Fc,Dx d]
def Us(l:gF gE)(x:gE)(k:Nat)(d:k<l.length)(h:less x (l[k]'d)=true):ET l x (k+1)=ET l x k:=by
 simp only[ET,Dx d];rw[Ai h]
def Ur(l:gF gE)(x:gE)(k:Nat)(d:k<l.length)(h:less x (l[k]'d)=false):ET l x (k+1)=k+1:=by
 simp only[ET,Dx d];rw[Af (by simp[h])]
def XR(l:gF gE)(x:gE)(m:Nat)(h:m<l.length):
 ((Gd (l.take (m+1)++x::l.drop (m+1))).set (m+1) (.string (l[m]'h))).set m (.string x)=Gd (l.take m++x::l.drop m):=by
 have z:=Ds h;have I:=FY h;have E:(l.take m).length=m:=by simp;omega
 rw[z,I];unfold Gd;simp only[EM,H4,Ci,Ga,Fh];have d:(List.map Value.string (l.take m)).length=m:=by simpa using E
 rw[Jj _ _ iC,d,show m+1-m=1 from by omega];simp only[Qy,Wf];rw[Jj _ _ iC,d,NM];rfl
def Pk(w:gC)(b:Nat)(D:DS)(F:Nat->FC)(Ft:Nat->Prop)(h:Dk w b D F Ft)(hs:D.A6.length<1099511627776):
 Ag 76 #[A5 b] w λe w'=>∃v,e=.returned v/\w'.ownsRow 0 9 1 v D.A6.length (Gd (dList D.A6))/\A4 Aa w w'/\(∀g,v.ownBlock=some g->w.heap.size<=g):=by
 obtain⟨vd,vs,vc,vals,VB,hr,hft⟩:=h;have a9:=A1 hr;have c0:=hr.Ae.c0;have⟨i0,hi,hz0,hz1,hz2⟩:=DQ Tryz.fj;obtain⟨a,cap,rfl,z1,z2,aD⟩:=a9.o.A6.BW;unfold maxLen at z2;have aZ:i0.bytes*D.A6.length<=281474976710656:=by rw[hz2];omega
 have a1:D.A6.length<=maxLen:=by unfold maxLen;omega
 have a0:=A1 aZ;have a4:=A1 a1
 go_enter func76,ntmps76
 go_wp2_with (at_make;refine wpList_make_own _ rfl _ _ 121 rfl 0 9 i0 _ 1 HU hi hz0 hz1 _ _ _ D.A6.length rfl rfl rfl a0.o a4.o (Cb _) ?_;intro w1 aE aO;have c01:=aO.cell c0 iE;have aR:=A1 aE);go_loopw [3,18] (λv i wr=>∃k:Nat,k<=D.A6.length/\i=A0 k/\A4 Aa w wr/\Hid (wr.ownsRow 0 9 1 v k (Gd (Fc D.A6 k)))/\Hid (∀x,v.oB x->w.heap.size<=x)) (λ_ i _=>D.A6.length-(intOf i).toNat)
 ·exact⟨0,Cb _,rfl,(A4.C _ w).C7 aO (λk hk=>by cases hk),aR.o,λx hx=>by cases hx;exact An _⟩
 ·obtain⟨k,hk,rfl,O,aN,aQ⟩:=hrel;by_cases d:k<D.A6.length
  ·obtain⟨g,rfl,hn,hp⟩:=aD k d;have aL:g<w.heap.size:=GV w _ hn;have aY:A7 wr g (k*2) (.string (D.A6[k]'d).1):=(DU (O.Al g aL (λh=>h))).trans hn;have hp':A7 wr g (k*2+1) (A5 ((D.A6[k]'d).2)):=(DU (O.Al g aL (λh=>h))).trans hp;have hsz:=O.Ak;have Y:=A1 ((aN.o.alloc (.cells #[.string (D.A6[k]'d).1,A5 ((D.A6[k]'d).2)] 125)).alloc (.cells #[.string (D.A6[k]'d).1] 9));have aM:=A1 (Src.bb (size:=1) HU (wr.alloc (.cells #[.string (D.A6[k]'d).1,A5 ((D.A6[k]'d).2)] 125)) #[.string (D.A6[k]'d).1] 9 (wr.heap.size+1) iE 1 1 rfl (by simp[Value.oneCell']));generalize hx:(D.A6[k]'d).1=x at aY Y aM;have a8:=A1 hx;go_wp2_with (at_builtin;refine CX rfl (.tmp 22) (.tmp 25) 121 121 rfl 9 i0 _ 1 16 HU hi hz0 hz1 hz2 rfl iF _ _ _ (by rfl) Y.o _ 1 _ (by rfl) aM.o iC ?_;intro a3 z w3 hB);have hl:=A1 (Nl D.A6 k hk);obtain⟨l,aB⟩:=iG (Fc D.A6 k);have a7:=A1 aB;(have a5:l.length=k:=by rw[<-aB];exact hl.o);have aG:w3.ownsRow 0 9 1 (.slice a3 (k+1) z) (k+1) (Gd (l.take k++x::l.drop k)):=by
    have:=hB.AB;rw[aB]at this;rw[Eu iC,IG iC];simpa[Gd] using this
   have aT:=A1 aG;have c13:=A1 (hB.cD ((O.ai _).ai _) aQ.o);(have hmax:z<=maxLen:=by have⟨_,_,he,h1,h2,_⟩:=B8 aG;cases he;exact h2);obtain⟨I,aX⟩:∃I,a3=some (A9 I 0):=by
    have⟨_,_,he,h1,h2,h3,_⟩:=B8 aG;cases he;exact h3 iC
   have aJ:=A1 a5;subst aX;have a2:=A1 c13.o.1;have X:=A1 (c13.o.2);have fin:Hid (∀(wq:gC) (j:Nat),j<=k->ET l x k=j->wq.ownsRow 0 9 1 (AA I (k+1) z) (k+1) (Gd (l.take j++x::l.drop j))->wq.ownsRow 0 9 1 (AA I (k+1) z) (k+1) (Gd (Fc D.A6 (k+1)))):=by
    intro wq j hj hp h;rw[Nk D.A6 k d,a7.o,a8.o,ins,aJ.o,hp];exact h
   go_loopw [6] (λi wq=>∃j:Nat,j<=k/\i=A0 j/\Hid (A4 Aa w wq)/\Hid (wq.ownsRow 0 9 1 (AA I (k+1) z) (k+1) (Gd (l.take j++x::l.drop j)))/\Hid (ET l x k=ET l x j)) (λi _=>(intOf i).toNat)
   ·exact⟨k,An _,rfl,a2,aT,rfl⟩
   ·obtain⟨j,hj,rfl,aF,E,aI⟩:=hrel;by_cases aV:j=0
    ·subst aV;rw[show ((0:Nat):Int)=0 from rfl];go_wp2;go_quiet (fail);go_wp2;go_roundw
     ·refine⟨k+1,iC,by go_num,aF.o.a7 _,?_,X.o⟩;exact fin.o _ 0 iC (by rw[aI.o];rfl) E.o
     ·simp[intOf];omega
    ·have hj1:(0:Int)<(j:Int):=iC;have hj2:0<j:=iC;(have L:j-1<l.length:=by have:=aJ.o;omega);(have aU:j<=l.length:=by have:=aJ.o;omega);obtain⟨y,hy⟩:=iG (l[j-1]'L)
     have g1:A7 wr I (j-1) (.string y):=Bu E.o rfl (by
      unfold Gd;rw[EM,Jl (by simp;omega)]
      simp[List.getElem?_take,L,hy];omega)
     have g2:A7 wr I j (.string x):=Bu E.o rfl (by
      unfold Gd;rw[EM,Il (by simp;omega)]
      simp[Nat.min_eq_left aU])
     have gz:∀o,wr.frozen? (A9 I o)=false:=λo=>ER E.o rfl o;by_cases aH:less x y=true
     ·have aP:Op.bytesLess x.toList y.toList=true:=aH;have aK:=A1 aH;have aS:=A1 hy;go_wp2;go_quiet (fail);go_wp2;go_region;go_wp2;go_roundw
      ·refine⟨j-1,iC,by go_num,?_,?_,?_⟩
       ·have h1:=((aF.o.bc (p:=(A9 I j)) (λh=>by have:=X.o I rfl;simp at h;omega) (.string y)).bc (p:=(A9 I (j-1))) (λh=>by have:=X.o I rfl;simp at h;omega) (.string x));exact⟨h1.os,h1.DZ,h1.E3,h1.Ak,h1.Al⟩
       ·have s1:=(E.o.stored j (.string y)).1;have s2:=(s1.stored (j-1) (.string x)).1;have e:=XR l x (j-1) L;rw[show j-1+1=j from by omega,aS.o]at e;rw[e]at s2;exact s2
       ·have:=Us l x (j-1) L (by rw[aS.o];exact aK.o);rw[show j-1+1=j from by omega]at this;unfold Hid;rw[aI.o];exact this
      ·simp[intOf];omega
     ·(have aA:less x y=false:=by simpa using aH);have aP:Op.bytesLess x.toList y.toList=false:=aA;have aK:=A1 aA;have aS:=A1 hy;go_wp2;go_quiet (fail);go_wp2;go_roundw
      ·refine⟨k+1,iC,by go_num,aF.o.a7 _,?_,X.o⟩;refine fin.o _ j hj ?_ E.o;have:=Ur l x (j-1) L (by rw[aS.o];exact aK.o);rw[show j-1+1=j from by omega]at this;rw[aI.o];exact this
      ·simp[intOf];omega
  ·have a6:k=D.A6.length:=iC;have aW:=A1 a6;go_wp2;go_ret;refine⟨_,rfl,?_,O,aQ.o⟩;have:=aN.o;rw[aW.o]at this;exact this
def G3(c:Int)(n:Nat):Nat:=((if c<0 then -(c+1) else c) % ((n:Int)+1)).toNat
def Kt(c:Int)(n:Nat):G3 c n<=n:=by
 unfold G3;have h1:=O3 (if c<0 then -(c+1) else c) (b:=(n:Int)+1) iC;have h2:=WD (if c<0 then -(c+1) else c) (b:=(n:Int)+1) iC;omega
def T4(c:Int)(n:Int)(w:gC)(d : -9223372036854775808<=c/\c<=9223372036854775807)(z:0<=n/\n<=4611686018427387904):
 Ag 75 #[A0 c,A0 n] w (Aj (A0 (G3 c n.toNat)) λw'=>w=w'):=by
 obtain⟨h1,h2⟩:=d;obtain⟨h,h4⟩:=z;by_cases d:c<0
 ·have q:Hid ((G3 c n.toNat:Int) = -((c+1).tmod (n+1))):=by
   unfold Hid G3;rw[Ai d,QG h,QG (O3 _ iC),<-A40 iC,QL]
  go_enter func75,ntmps75
  go_wp2;go_ret;rw[q.o];exact⟨rfl,rfl⟩
 ·have q:Hid ((G3 c n.toNat:Int)=c % (n+1)):=by
   unfold Hid G3;rw[Af d,QG h,QG (O3 _ iC)]
  go_enter func75,ntmps75
  go_wp2;go_ret;rw[q.o];exact⟨rfl,rfl⟩
def Mo(w:gC)(v:gD)(h:gF Int):Prop:=
 ∃E cap,v=.slice E h.length cap/\h.length<=9223372036854775807/\∀j (I:j<h.length),∃z d,E=some ⟨z,d,none⟩/\z<w.heap.size/\w.cell? ⟨z,d+j,none⟩=some (.int .i64 (h[j]'I))
def G5(c:FC)(t:Int):FC:=
 let m:=c.2.toNat+G3 t (c.1.length-c.2.toNat)
 (c.1.take m,(c.1.take m).length)
def Eg(dir:gF AP)(d:gF Int)(names:gF gE)(F:Nat->FC):Nat->(Nat->FC)
 | 0=>F
 | k+1=>let G:=Eg dir d names F k
  match names[k]? with
  | none=>G
  | some nd=>match lookup dir nd with
   | some f=>upd G f (G5 (G f) (d.getD k 0))
   | none=>G
def Gx(D:DS)(da:Int):gF AP:=match G3 da D.As.length with
 | 0=>D.AG
 | k+1=>D.As.getD k []
def Fm(D:DS)(F:Nat->FC)(da:Int)(d:gF Int):DS×(Nat->FC):=
 let dir:=Gx D da
 ({A6:=dir,AG:=dir,As:=[],n:={D.n with Bh:=false,CZ:=0,E7:=0}},Eg dir d (dList dir) F dir.length)
def A1E(l:gF gE)(x y:gE):y∈ins l x↔y=x\/y∈l:=by
 unfold ins;constructor
 ·intro h;rcases AX.1 h with h|h
  ·exact .inr (HD h)
  ·rcases BS.1 h with h|h
   ·exact .inl h
   ·exact .inr (KU h)
 ·rintro (rfl|h)
  ·simp
  ·rw[<-Ec (ET l x l.length) l]at h;rcases AX.1 h with h|h
   ·exact AX.2 (.inl h)
   ·exact AX.2 (.inr (BC _ h))
def A2B(es:gF AP)(k:Nat)(z:k<=es.length)(y:gE):y∈Fc es k↔∃e∈es.take k,e.1=y:=by
 induction k with
 | zero=>simp[Fc]
 | succ k ih=>
  have h:=Ds (l:=es) (i:=k) z;rw[Nk es k z,A1E,ih iC];constructor
  ·rintro (rfl|⟨e,d,rfl⟩)
   ·exact⟨es[k],by rw[h];exact AX.2 (.inr (Ij.2 rfl)),rfl⟩
   ·exact⟨e,by rw[h];exact AX.2 (.inl d),rfl⟩
  ·rintro⟨e,d,rfl⟩;rw[h]at d;rcases AX.1 d with d|d
   ·exact .inr ⟨e,d,rfl⟩
   ·simp at d;subst d;exact .inl rfl
def A2z(es:gF AP)(y:gE):y∈dList es↔∃e∈es,e.1=y:=by
 have:=A2B es es.length (An _) y
 rwa [C5]at this
def Ca.eE{w w':gC}{b:Nat}{D:DS}{F:Nat->FC}{vd X vc Y:gD}{z:gF gD}{aB:Nat->gD}{es:gF AP}(h:Ca w b D F vd X vc z aB)(hl:(Y=X/\es=D.AG)\/∃k,∃E:k<D.As.length,z[k]?=some Y/\es=D.As[k]'E)(hb:AM w' b Y X vc D.n)(hc:A4 (One b) w w'):
 Ca w' b {D with A6:=es} F Y X vc z aB/\∀k,Cj b {D with A6:=es} Y X vc z aB k->Cj b D vd X vc z aB k:=by
 have E:∀(k:Nat) (c:Array gD) (e:Nat),w.heap[k]?=some (Obj.cells c e (0,0))->e≠95->w'.heap[k]?=w.heap[k]?:=λk c e E he=>
  hc.Al k (Bv E) (BR E h.Ae he)
 have aA:Df w Y es:=by
  rcases hl with⟨rfl,rfl⟩|⟨k,E,O,rfl⟩
  ·exact h.AG
  ·have⟨v,h2,h3⟩:=h.Dj k E;rw[O]at h2;cases h2;exact h3
 have aE:∀f,Dr f es->D.Aq f:=by
  intro f I;rcases hl with⟨_,rfl⟩|⟨k,E,_,rfl⟩
  ·exact .inr (.inl I)
  ·exact .inr (.inr ⟨_,BT E,I⟩)
 have d:∀f,({D with A6:=es}:DS).Aq f->D.Aq f:=by
  rintro f (I|I|I)
  ·exact aE f I
  ·exact .inr (.inl I)
  ·exact .inr (.inr I)
 refine⟨⟨hb,?_,?_,?_,?_,?_,λf f' g I aD=>h.GL f f' g (d f I) (d f' aD)⟩,?_⟩
 ·exact Au aA λg L=>by have⟨c,hh⟩:=B9 aA L;exact E g _ _ hh iF
 ·exact Au h.AG λg L=>by have⟨c,hh⟩:=B9 h.AG L;exact E g _ _ hh iF
 ·exact Au h.Am λg L=>by have⟨c,hh⟩:=B9 h.Am L;exact E g _ _ hh iF
 ·intro i hi;have⟨v,O,h2⟩:=h.Dj i hi;exact⟨v,O,Au h2 λg L=>by have⟨c,hh⟩:=B9 h2 L;exact E g _ _ hh iF⟩
 ·intro f I;have⟨O,h2⟩:=h.BN f (d f I);refine⟨O.av (E f _ _ O iF),Au h2 λg L=>by have⟨c,hh⟩:=B9 h2 L;exact E g _ _ hh iF⟩
 ·intro k E;cases E using Cj.bL with
  | Ae=>exact .Ae
  | dir e=>
   rcases hl with⟨rfl,_⟩|⟨j,_,O,_⟩
   ·exact .AG e
   ·exact .Dj (Mf O) e
  | Ad e=>exact .AG e
  | Am e=>exact .Am e
  | Dj hm e=>exact .Dj hm e
  | BN I=>exact .BN (d _ I)
  | byt I e=>exact .bD (d _ I) e
def Dk.cC{w w':gC}{b:Nat}{D:DS}{F:Nat->FC}{Ft:Nat->Prop}(h:Dk w b D F Ft)(d:w'.heap=w.heap):Dk w' b D F Ft:=h.aK λk _=>by rw[d]
def A4.cC{S:Nat->Prop}{a w w':gC}(h:A4 S a w)(d:w'.heap=w.heap)(I:w'.os=w.os)(E:w'.tape=w.tape)(L:w'.output=w.output):A4 S a w':=
 ⟨I.trans h.os,E.trans h.DZ,L.trans h.E3,by rw[d];exact h.Ak,λk z O=>by rw[d];exact h.Al k z O⟩
def A2X(c:FC)(t:Int)(B:Nat)(h:0<=c.2/\c.2<=c.1.length/\c.1.length<=B):0<=(G5 c t).2/\(G5 c t).2<=(G5 c t).1.length/\(G5 c t).1.length<=B:=by
 unfold G5;simp only[BK];omega
def A2V(es:gF AP)(z:gF Int)(names:gF gE)(F:Nat->FC)(B:Nat)(P:Nat->Prop)(h:∀f,P f->0<=(F f).2/\(F f).2<=(F f).1.length/\(F f).1.length<=B)(k:Nat):
 ∀f,P f->0<=(Eg es z names F k f).2/\(Eg es z names F k f).2<=(Eg es z names F k f).1.length/\(Eg es z names F k f).1.length<=B:=by
 induction k with
 | zero=>exact h
 | succ k ih=>
  intro f d;cases h1:names[k]? with
  | none=>simp only[Eg,h1];exact ih f d
  | some nd=>
   cases h2:lookup es nd with
   | none=>simp only[Eg,h1,h2];exact ih f d
   | some f0=>
    simp only[Eg,h1,h2];by_cases E:f=f0
    ·subst E;simp only[upd,Cs];exact A2X _ _ B (ih f d)
    ·simp only[upd,E,Cf];exact ih f d
def A2T(es:gF AP)(d:gF Int)(names:gF gE)(F:Nat->FC)(k:Nat)(h:gE)(f:Nat)(E:names[k]?=some h)(z:lookup es h=some f):
 Eg es d names F (k+1)=upd (Eg es d names F k) f (G5 (Eg es d names F k f) (d.getD k 0)):=by
 simp only[Eg,E,z]
def A2O{w wr:gC}{b:Nat}{D:DS}{es:gF AP}{G:Nat->FC}{I:Nat->Prop}{t:Int}{vd vs vc:gD}{L:gF gD}{aF:Nat->gD}(aE:∀k,Cj b {D with A6:=es} vd vs vc L aF k->I k)(hr:Ca wr b {D with A6:=es} G vd vs vc L aF)(hc:A4 I w wr){k:Nat}(d:k<es.length){a':Option Addr}{z:Nat}(hv:aF (es[k]'d).2=.slice a' (G (es[k]'d).2).1.length z)(hG:0<=(G (es[k]'d).2).2/\(G (es[k]'d).2).2<=(G (es[k]'d).2).1.length)(m:Nat)(hm:m=(G (es[k]'d).2).2.toNat+G3 t ((G (es[k]'d).2).1.length-(G (es[k]'d).2).2.toNat))(w':gC)(hw:w'=(wr.setCell ⟨(es[k]'d).2,0,none⟩ (.slice a' m z)).setCell ⟨(es[k]'d).2,1,none⟩ (.int .i64 m)):
 Dk w' b {D with A6:=es} (upd G (es[k]'d).2 (G5 (G (es[k]'d).2) t)) I/\A4 I w w':=by
 have E:({D with A6:=es}:DS).Aq (es[k]'d).2:=.inl ⟨_,BT d,rfl⟩;have⟨h1,h2⟩:=hr.BN _ E;have hpk:=Kt t ((G (es[k]'d).2).1.length-(G (es[k]'d).2).2.toNat);have aG:m<=(G (es[k]'d).2).1.length:=iC
 have O:((G (es[k]'d).2).1.take m).length=m:=by simp;omega
 have X:wr.ownsRow 0 5 1 (.slice a' m z) m (Et ((G (es[k]'d).2).1.take m)):=by
  rw[hv]at h2;have:=OX h2 aG;rw[Qr]at this;unfold Et at this ⊢;rw[List.map_take];exact this
 have aA:∀g,(Value.slice a' m z).ownBlock=some g->g≠(es[k]'d).2:=by
  intro g Y e;have⟨c,hh⟩:=B9 X Y;exact BR hh h1 iF e
 have aH:Gm w' (.slice a' m z) ((G (es[k]'d).2).1.take m):=by
  subst hw;unfold Gm;rw[O];exact Au X λg Y=>by rw[FB _ _ _ _ (aA g Y),FB _ _ _ _ (aA g Y)]
 have aI:Dd w' (es[k]'d).2 (.slice a' m z) m:=by subst hw;exact(h1.s0 _).s1 _
 have aB:A4 (One (es[k]'d).2) wr w':=by subst hw;exact((A4.C (One _) wr).an rfl 0 _).an rfl 1 _
 have aD:∀g,(Value.slice a' m z).ownBlock=some g->(aF (es[k]'d).2).ownBlock=some g\/wr.heap.size<=g:=by
  intro g Y;left;rw[hv];cases a' with
  | none=>simp[Value.ownBlock]at Y
  | some x=>exact Y
 have r2:=hr.cb E aI aH aB (λk d=>.inl d) aD;have e:G5 (G (es[k]'d).2) t=((G (es[k]'d).2).1.take m,(m:Int)):=by
  unfold G5;simp only[<-hm,O]
 rw[e];refine⟨⟨_,_,_,_,_,r2,λx hx=>?_⟩,hc.AF aB λx hx _=>by cases hx;exact aE _ (.BN E)⟩;rcases Cj.cb (N:=wr.heap.size) E aD hx with h|h
 ·exact aE x h
 ·have:=r2.lt hx;subst hw;simp at this;omega
def A2R(w:gC)(b:Nat)(D:DS)(F:Nat->FC)(Ft:Nat->Prop)(h:Dk w b D F Ft)(da:Int)(vt:gD)(O:gF Int)(ht:Mo w vt O)(bY:∀ad n c x,n≠0->vt=.slice ad n c->ad=some x->¬Ft x.block)(hs:D.A6.length<1099511627776/\D.AG.length<1099511627776/\D.As.length<1099511627776/\∀c∈D.As,c.length<1099511627776)(hdi : -9223372036854775808<=da/\da<=9223372036854775807)(b7:∀t∈O,-9223372036854775808<=t/\t<=9223372036854775807)(hF:∀f,D.Aq f->0<=(F f).2/\(F f).2<=(F f).1.length/\(F f).1.length<=1099511627776):
 Ag 32 #[A5 b,A0 da,vt] w (Aj (.tuple #[]) λw'=>DF w Ft w' b (Fm D F da O).1 (Fm D F da O).2):=by
 obtain⟨vd,vs,vc,aS,cJ,hr,cH⟩:=h;have aM:=A1 hr;have cG:=A1 cH;obtain⟨hs1,bP,hs3,b3⟩:=hs;have c0:=hr.Ae.c0;have c1:=hr.Ae.c1;have c2:=hr.Ae.c2;have hz:=hr.Ae.fz;obtain⟨ad,tc,rfl,htl,bU⟩:=ht;obtain⟨a1,p1,rfl,-⟩:=hr.AG.BW;have⟨a2,p2,hvc,_,_,hsome,_,_⟩:=B8 hr.Am;subst hvc;have bT:=A1 bU;have bQ:=A1 bY;have cD:=A1 b3;have cO:=A1 hF;have bO:=A1 b7;have aZ:=A1 hsome;obtain⟨d1,d2⟩:=hdi;have cE:=Kt da D.As.length;generalize hK:G3 da D.As.length=K at cE;have bX:=A1 hK;have b5:Hid (∀W:gC,Ag 75 #[A0 da,A0 D.As.length] W (Aj (A0 K) λw'=>W=w')):=by
  intro W;have:=T4 da D.As.length W ⟨d1,d2⟩ ⟨iC,iC⟩;simp only[EX,bX.o]at this;exact this
 have bW:=aM.o;obtain⟨bD,bB,b2,-⟩:=bW.A6.BW;subst b2;obtain⟨z,f1,f2,f3⟩:∃z:Nat->Prop,(∀k,Cj b D (.slice bD D.A6.length bB) (.slice a1 D.AG.length p1) (.slice a2 D.As.length p2) aS cJ k->z k)/\(∀k,z k->k<w.heap.size)/\(∀k,z k->Ft k):=
  ⟨Cj b D (.slice bD D.A6.length bB) (.slice a1 D.AG.length p1) (.slice a2 D.As.length p2) aS cJ,λ_ h=>h,λ_ h=>aM.o.lt h,λ_ h=>cG.o _ h⟩
 have a4:=A1 f1;have cN:=A1 f2;have b8:=A1 f3;have cA:Hid (∀wr,A4 z w wr->∀j (hj:j<O.length),∃tb aI,ad=some (A9 tb aI)/\wr.cell? (A9 tb (aI+j))=some (A0 (O[j]'hj))):=by
  intro wr hc j hj;have⟨tb,aI,h1,h2,h3⟩:=bT.o j hj;refine⟨tb,aI,h1,?_⟩;rw[DU (hc.Al tb h2 (λh=>bQ.o ad O.length tc (A9 tb aI) (λh0=>absurd (h0 ▸ hj) (JX _)) rfl h1 (b8.o _ h)))];exact h3
 by_cases bE:K=0
 focus
  subst bE;obtain⟨es,I⟩:=iG D.AG;have aL:es.length<1099511627776:=I ▸ bP;have bC:=aM.o.eE (.inl ⟨rfl,rfl⟩) (aM.o.Ae.s0 _) ((A4.C (One b) w).an rfl 0 (.slice a1 D.AG.length p1));have bM:Hid (∀f,Dr f es->D.Aq f):=λf X=>.inr (.inl (I ▸ X));have aA:Hid (Dk (w.sC b 0 (.slice a1 D.AG.length p1)) b {D with A6:=es} F z):=by rw[<-I];exact⟨_,_,_,_,_,bC.1,λk hk=>a4.o k (bC.2 k hk)⟩
  have cW:Hid (A4 z w (w.sC b 0 (.slice a1 D.AG.length p1))):=(A4.C _ w).an (a4.o _ .Ae) 0 _;have bN:Hid (Gx D da=es):=by unfold Hid Gx;rw[bX.o];exact I
  clear I;rw[show ((0:Nat):Int)=0 from rfl]at b5;have cC:=A1 <| b5.o
  go_enter func32,ntmps32
  go_wp2_with (first
   | (go_at_call 75;refine(cC.o _).k ?_;rintro w' rfl)
   | (go_at_call 76;refine(Pk _ b _ F _ aA.o aL).mono ?_;rintro e w2⟨v,rfl,aN,aF,a6⟩;obtain⟨al,cl,rfl,_,aP,aD,_⟩:=B8 aN))
 rotate_left
 focus
  obtain⟨j,rfl⟩:∃j,K=j+1:=⟨K-1,iC⟩;have aG:j<D.As.length:=iC
  have⟨v0,hv1,hv2⟩:=aM.o.Dj j aG;obtain⟨ak,pk,rfl,-⟩:=hv2.BW;obtain⟨es,I⟩:=iG (D.As[j]'aG);have aL:es.length<1099511627776:=by rw[<-I];exact cD.o _ (BT aG)
  have bM:Hid (∀f,Dr f es->D.Aq f):=λf X=>.inr (.inr ⟨_,BT aG,I ▸ X⟩);have bN:Hid (Gx D da=es):=by
   unfold Hid Gx;rw[bX.o];show D.As.getD j []=es;rw[<-I,HY,Dx aG];rfl
  rw[I]at hv1 hv2;have⟨gc,hgc⟩:=aZ.o iC;subst hgc;have cg:=Bu aM.o.Am (g:=gc) rfl hv1;have⟨cgc,cgh⟩:=B9 aM.o.Am (g:=gc) rfl;have n1:¬gc=b:=λe=>BR cgh aM.o.Ae iF e;have n2:¬b=gc:=λe=>n1 e.symm;have bC:=aM.o.eE (.inr ⟨j,aG,hv1,I.symm⟩) ((aM.o.Ae.s0 (.slice a1 D.AG.length p1)).s0 _) (((A4.C (One b) w).an rfl 0 (.slice a1 D.AG.length p1)).an rfl 0 (.slice ak es.length pk));have aA:Hid (Dk ((w.sC b 0 (.slice a1 D.AG.length p1)).sC b 0 (.slice ak es.length pk)) b {D with A6:=es} F z):=⟨_,_,_,_,_,bC.1,λk hk=>a4.o k (bC.2 k hk)⟩;have cW:Hid (A4 z w ((w.sC b 0 (.slice a1 D.AG.length p1)).sC b 0 (.slice ak es.length pk))):=((A4.C _ w).an (a4.o _ .Ae) 0 _).an (a4.o _ .Ae) 0 _;have k0:(0:Int)<(j:Int)+1:=iC
  have k1:(0:Int)<=(j:Int):=iC
  have k2:(j:Int)<(D.As.length:Int):=iC
  have hwj:IntKind.i64.wrap (j:Int)=(j:Int):=by simp only[K8];omega
  have cC:=A1 <| b5.o
  skip
  go_enter func32,ntmps32
  go_wp2_with (first
   | (go_at_call 75;refine(cC.o _).k ?_;rintro w' rfl)
   | (go_at_call 76;refine(Pk _ b _ F _ aA.o aL).mono ?_;rintro e w2⟨v,rfl,aN,aF,a6⟩;obtain⟨al,cl,rfl,_,aP,aD,_⟩:=B8 aN))
 all_goals
  have s2:w.heap.size<=w2.heap.size:=by have:=aF.Ak;simp at this;omega
  have bF:=A1 aN;have b0:Hid (∀g,al.map Addr.block=some g->w.heap.size<=g):=by
   intro g hg
   have:=a6 g (by cases al with
    | none=>simp at hg
    | some x=>simp at hg;simp[Value.ownBlock,hg])
   simpa using this
  have aY:Hid (Dk w2 b {D with A6:=es} F z):=aA.o.aK λk hk=>aF.Al k (by have:=cN.o k hk;simpa using this) (λh=>h);have bI:Hid (A4 z w w2):=cW.o.AF aF (λx hx=>hx.elim);have bZ:=A1 aD;have cB:=A1 (Nl es es.length (An _));unfold maxLen at aP;go_loopw [44] (λiv wr=>∃i:Nat,i<=es.length/\iv=A0 i/\Hid (Dk wr b {D with A6:=es} (Eg es O (dList es) F i) z)/\Hid (A4 z w2 wr)) (λiv _=>es.length-(intOf iv).toNat)
  ·exact⟨0,Cb _,rfl,aY.o,A4.C _ _⟩
  ·obtain⟨i,hi,rfl,aR,aO⟩:=hrel;by_cases hli:i<es.length
   ·have aV:Hid (A4 z w wr):=bI.o.AF aO.o (λx hx _=>hx);have⟨lb,hlb⟩:=bZ.o iC;(have aE:i<(dList es).length:=by have:=cB.o;unfold dList;omega);have aF:wr.cell? (A9 lb i)=some (.string ((dList es)[i]'aE)):=by
     have h1:=Bu bF.o (g:=lb) (by rw[hlb];rfl) (j:=i) (u:=.string ((dList es)[i]'aE)) (by unfold Gd;rw[QB,Dx aE];rfl);have h2:=b0.o lb (by rw[hlb];rfl);rw[DU (aO.o.Al lb (Aw bF.o (by rw[hlb];rfl)) (λh=>by have:=cN.o lb h;omega))];exact h1
    subst hlb;generalize a9:(dList es)[i]'aE=nm at aF;have bG:∃e∈es,e.1=nm:=(A2z es nm).1 (by rw[<-a9];exact BT aE);(have bA:(dList es)[i]?=some nm:=by rw[<-a9];exact Dx aE);obtain⟨G,aU⟩:=iG (Eg es O (dList es) F i);have L:=aR.o;rw[aU]at L;obtain⟨b4,bR,b6,a3,VB',E,aK⟩:=L;rcases JH es nm with⟨_,h2⟩|⟨k,hk,h1,h2,h3⟩
    ·exfalso;obtain⟨e,he,h4⟩:=bG;rcases PR es nm with⟨_,h5⟩|⟨k,hk,h5,_⟩
     ·exact h5 e he h4
     ·omega
    ·have a8:=A2V es O (dList es) F 1099511627776 D.Aq cO.o i (es[k]'hk).2 (bM.o _ ⟨_,BT hk,rfl⟩);rw[aU]at a8;obtain⟨aT,a0,a5⟩:=a8;obtain⟨g,cap,a',aB,rfl,hv,z1,z2,z3,z4⟩:=E.BX k hk;have aH:=E.dN k hk rfl hv;have bK:Hid (Df wr.drew (AA g es.length cap) es):=E.A6;have cL:=A1 h1;generalize X:(es[k]'hk).2=f at aH
     have fin:Hid (∀(t:Int) (m:Nat) (w':gC),t=O.getD i 0->m=(G f).2.toNat+G3 t ((G f).1.length-(G f).2.toNat)->w'=(wr.sC f 0 (.slice a' m aB)).sC f 1 (A0 m)->
      Dk w' b {D with A6:=es} (Eg es O (dList es) F (i+1)) z/\A4 z w2 w'):=by
      intro t m w' ht hm hw;subst X;have:=A2O (t:=t) aK E aO.o hk hv ⟨aT,a0⟩ m hm w' hw;rw[A2T es O (dList es) F i nm _ bA h2,aU,<-ht];exact this
     rw[X]at aT a0 a5 z3;have x1:=aH.d;have x2:=aH.p;have x3:=aH.f0;have x4:=aH.f1;have x5:=aH.fz;unfold maxLen at z2 z4;have bE:=BJ k;have hk1:(k:Int)<(es.length:Int):=iC;obtain⟨t,ht⟩:=iG (O.getD i 0);have bS : -9223372036854775808<=t/\t<=9223372036854775807:=by
      rw[<-ht,HY];cases hx:O[i]? with
      | none=>simp
      | some y=>exact bO.o y (Mf hx)
     have⟨Y,hsn⟩:=Mr aT;obtain⟨l,hl⟩:=iG ((G f).1.length);obtain⟨p,hp⟩:=iG (G3 t (l-Y));have bJ:=Kt t (l-Y);rw[hp]at bJ;have aQ:Hid (∀w',w'=(wr.sC f 0 (.slice a' (Y+p) aB)).sC f 1 (A0 ((Y+p:Nat):Int))->Dk w' b {D with A6:=es} (Eg es O (dList es) F (i+1)) z/\A4 z w2 w'):=by
      intro w' hw;exact fin.o t (Y+p) w' ht.symm (by rw[hsn,hl,EX,hp]) hw
     rw[hsn,hl]at a0;rw[hl]at a5 z3 x3;rw[hsn]at x4;have cI:Hid (∀W:gC,Ag 75 #[A0 t,A0 ((l:Int)-(Y:Int))] W (Aj (A0 p) λw'=>W=w')):=by
      intro W;have:=T4 t ((l:Int)-(Y:Int)) W bS ⟨iC,iC⟩;rw[show ((l:Int)-(Y:Int)).toNat=l-Y from by omega,hp]at this;exact this
     have q1:Y+p<=aB:=iC;(have hw1:IntKind.i64.wrap ((l:Int)-(Y:Int))=(l:Int)-(Y:Int):=by simp only[K8];omega);(have hw2:IntKind.i64.wrap ((Y:Int)+(p:Int))=(Y:Int)+(p:Int):=by simp only[K8];omega);have q3:(0:Int)<=(Y:Int)+(p:Int):=iC;have q4:(Y:Int)+(p:Int)<=(aB:Int):=iC;(have q5:((Y:Int)+(p:Int)).toNat=Y+p:=iC);have cM:=A1 ht;by_cases aW:i<O.length
     ·have⟨tb,aI,hta2,htc2⟩:=cA.o wr aV.o i aW;(have b1:O[i]'aW=t:=by have:=cM.o;rw[HY,Dx aW]at this;exact this);rw[b1]at htc2;subst hta2;have bH:(i:Int)<(O.length:Int):=iC;go_wp2;go_region_held3 (λw'=>w'.cell? ⟨b,0,none⟩=some (.slice (some ⟨g,0,none⟩) es.length cap)/\w'.cell? ⟨g,k*2+1,none⟩=some (.pointer (some ⟨f,0,none⟩))) (refine⟨?_,?_⟩<;>go_simp) ((go_at_call 77;refine(DR _ _ es nm bK.o).k ?_;rintro w' rfl;rw[cL.o]));go_wp2;refine La 24 (by kernel_rfl) (by kernel_rfl) ?_;simp only[M1,FW,Fw,DK,Dm]
      repeat still_step
      refine wpStill_step (λK hK=>?_);go_simp;refine⟨_,(cI.o _).mono (λe w' h=>⟨h.1,h.2.symm⟩),hK _ ?_⟩
      repeat still_step
      refine Lb ?_;go_wp2;go_roundw
      ·have⟨z5,z6⟩:=aQ.o _ rfl;refine⟨i+1,iC,by go_num,?_,?_⟩
       ·exact Dk.cC z5 rfl
       ·exact A4.cC z6 rfl rfl rfl rfl
      ·simp[intOf];omega
     ·have b9:t=0:=by
       rw[<-cM.o,HY,Mi iC];rfl
      subst b9;have bH:(O.length:Int)<=(i:Int):=iC;go_wp2;go_region_held3 (λw'=>w'.cell? ⟨b,0,none⟩=some (.slice (some ⟨g,0,none⟩) es.length cap)/\w'.cell? ⟨g,k*2+1,none⟩=some (.pointer (some ⟨f,0,none⟩))) (refine⟨?_,?_⟩<;>go_simp) ((go_at_call 77;refine(DR _ _ es nm bK.o).k ?_;rintro w' rfl;rw[cL.o]));go_wp2;refine La 24 (by kernel_rfl) (by kernel_rfl) ?_;simp only[M1,FW,Fw,DK,Dm]
      repeat still_step
      refine wpStill_step (λK hK=>?_);go_simp;refine⟨_,(cI.o _).mono (λe w' h=>⟨h.1,h.2.symm⟩),hK _ ?_⟩
      repeat still_step
      refine Lb ?_;go_wp2;go_roundw
      ·have⟨z5,z6⟩:=aQ.o _ rfl;refine⟨i+1,iC,by go_num,?_,?_⟩
       ·exact Dk.cC z5 rfl
       ·exact A4.cC z6 rfl rfl rfl rfl
      ·simp[intOf];omega
   ·have cF:i=es.length:=iC;have L:=aR.o;rw[cF]at L;obtain⟨b4,bR,b6,a3,VB',E,aK⟩:=L;obtain⟨ae,ce,rfl,_⟩:=E.A6.BW;have y0:=E.Ae.c0;have y1:=E.Ae.c1;have y2:=E.Ae.c2;have y5:=E.Ae.c5;have y6:=E.Ae.c6;have y10:=E.Ae.br;have yz:=E.Ae.fz;have a7:=A1 E;have bL:=A1 aK;go_wp2;go_end0;have r1:=a7.o.aI ((a7.o.Ae.s1 _).s2 (.slice none 0 0)) (((A4.C (One b) wr).an rfl 1 _).an rfl 2 (.slice none 0 0));have r2:=r1.al (n:={D.n with Bh:=false,CZ:=0,E7:=0}) (((r1.Ae.cv false).s5 0).s6 0) ((((A4.C (One b) _).an rfl 10 (.bool false)).an rfl 5 (A0 0)).an rfl 6 (A0 0));have hq:Fm D F da O=({A6:=es,AG:=es,As:=[],n:={D.n with Bh:=false,CZ:=0,E7:=0}},Eg es O (dList es) F es.length):=by
     (have he:Gx D da=es:=by exact bN.o);unfold Fm;rw[he]
    rw[hq];refine⟨rfl,DF.bB ?_ r2 ?_⟩
    ·have aV:=bI.o.AF aO.o (λx hx _=>hx);have aJ:=a4.o _ .Ae;exact(((((aV.an aJ 1 _).an aJ 2 _).an aJ 10 _).an aJ 5 _).an aJ 6 _).ah λk _ hk=>b8.o k hk
    ·intro k hk;have bV:=Cj.n (D:={A6:=es,AG:=es,As:=[],n:=D.n}) hk;left;refine b8.o k (bL.o k ?_);cases bV using Cj.bL with
     | Ae=>exact .Ae
     | dir e=>exact .A6 e
     | Ad e=>exact .A6 e
     | Am e=>simp[Value.ownBlock]at e
     | Dj hm e=>cases hm
     | BN X=>
      rcases X with X|X|⟨c,aX,_⟩
      ·exact .BN (.inl X)
      ·exact .BN (.inl X)
      ·cases aX
     | byt X e=>
      rcases X with X|X|⟨c,aX,_⟩
      ·exact .bD (.inl X) e
      ·exact .bD (.inl X) e
      ·cases aX
end
end Go.Proofs.YtodcnkbblippnaaGreatDoor
