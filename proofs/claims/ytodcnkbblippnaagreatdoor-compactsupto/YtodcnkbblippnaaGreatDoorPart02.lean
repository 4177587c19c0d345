/- Part 2 of a proof: walks of the program. -/
import Derived.BigQuiet
import Derived.Deep.QuietTactic
import Derived.StillTailTactics
import Derived.StillTactics
import Derived.Laws.BitsAllLaws
import Derived.Laws.BytesString
import Derived.Handy
import Derived.Test.YtodcnkbblippnaaGreatDoorPart01
namespace Go.Proofs.YtodcnkbblippnaaGreatDoor
set_option maxRecDepth 100000
set_option maxHeartbeats 32000000
set_option linter.defProp false
open Go.Proofs.Tryz
section
open Go.RowKit
attribute [local go_sem ↓] Go.wp_at_zero Go.wp_at_succ
def PK{w w1 w3 w5:gx}{b:Nat}{D:DS}{F:Nat->FC}{vd vs vc vl X:gy}{I:gD gy}{aD:Nat->gy}{Ft:Nat->Prop}{n1:DN}{es:gD AO}(hr:C9 w b D F vd vs vc I aD)(d:∀k,Cf b D vd vs vc I aD k->Ft k)(aF:AM w1 b vd vs vc n1)(aA:A4 (One b) w w1)(c13:A4 (λ_=>False) w1 w3)(e3:Dd w3 vl es)(aB:∀g,vl.ownBlock=some g->w1.heap.size<=g)(Y:∀f,Dp f es->D.Aq f)(aE:AM w5 b vl vs X n1)(aG:w5.ownsRow 0 120 1 X (D.As.length+1) (I++[vl]))(O:A4 (λk=>k=b\/vc.ownBlock=some k) w3 w5)(hv:∀g,X.ownBlock=some g->vc.ownBlock=some g\/w3.heap.size<=g):
 DB w Ft w5 b {D with A6:=es,As:=D.As++[es],n:=n1} F:=by
 have s1:=aA.Ak;have s3:=c13.Ak;have r1:=hr.an aF aA;have r3:=r1.aM λk W=>c13.Al k (r1.lt W) (λh=>h)
 have e5:=Au e3 λg hg=>O.Al g (Aw e3 hg) (by
  have⟨c,hh⟩:=Bb e3 hg;rintro (e|e)
  ·exact BR hh r3.Ae (by decide) e
  ·have⟨c',hh'⟩:=Bb r3.Am e
   exact BR hh hh' (by decide) rfl)
 have r5:=r3.cA (F':=F) (VB':=aD) (es:=es) aE aG e5 O (λk W=>W) (λf E=>⟨rfl,rfl⟩) (λf E=>.inl (Y f E));have L:∀f,({D with A6:=es,As:=D.As++[es],n:=n1}:DS).Aq f->D.Aq f:=by
  rintro f (E|E|⟨c,z,E⟩)
  ·exact Y f E
  ·exact .inr (.inl E)
  ·rcases AX.1 z with z|z
   ·exact .inr (.inr ⟨c,z,E⟩)
   ·simp at z;subst z;exact Y f E
 refine DB.bC ?_ r5 ?_
 ·have a:=(aA.ai (S':=Ft) λk _ W=>by cases W;exact d b .Ae).AH c13 (λx hx=>hx.elim);refine a.AH O ?_;rintro x (e|e) _
  ·subst e;exact d x .Ae
  ·exact d x (.Am e)
 ·intro k W;cases W using Cf.bN with
  | Ae=>exact .inl (d b .Ae)
  | dir e=>right;have:=aB _ e;omega
  | Ad e=>exact .inl (d k (.AF e))
  | Am e=>
   rcases hv k e with h|h
   ·exact .inl (d k (.Am h))
   ·right;omega
  | Di hm e=>
   rcases AX.1 hm with hm|hm
   ·exact .inl (d k (.Di hm e))
   ·simp at hm;subst hm;right;have:=aB _ e;omega
  | BN E=>exact .inl (d _ (.BN (L _ E)))
  | byt E e=>exact .inl (d _ (.bE (L _ E) e))
def PJ{w I L:gx}{b:Nat}{D:DS}{F:Nat->FC}{W O E:gy}{d:gD gy}{aA:Nat->gy}{n1:DN}(hr:C9 w b D F W O E d aA)(z:AM I b W O E n1)(X:A4 (One b) w I)(c13:A4 (λ_=>False) I L):
 AM L b W O E n1/\L.ownsRow 0 120 1 E D.As.length d:=by
 have Y:=hr.an z X;exact⟨z.Am c13 (λh=>h),Au Y.Am λg hg=>c13.Al g (Aw Y.Am hg) (λh=>h)⟩
def App.bF{w w':gx}{e size n:Nat}{z:gy}{xs:gD gy}(h:App w w' e size (.slice none 0 0) z n xs):A4 Aa w w':=h.Am (λk d=>by simp[Value.ownBlock]at d)
def App.AV{w w':gx}{e size n:Nat}{z:gy}{xs:gD gy}(h:App w w' e size (.slice none 0 0) z n xs):∀g,z.ownBlock=some g->w.heap.size<=g:=by
 intro g d;rcases h.BY with h|h
 ·rw[h]at d;cases d
 ·rw[h]at d;cases d;exact Ao _
def App.cy{z w w':gx}{e size n:Nat}{v I:gy}{xs:gD gy}(h:App w w' e size v I n xs)(L:A4 (λ_=>False) z w)(O:∀g,v.ownBlock=some g->z.heap.size<=g):
 A4 (λ_=>False) z w'/\∀g,I.ownBlock=some g->z.heap.size<=g:=by
 refine⟨L.C7 h.C7 λk W hlt=>by have:=O k W;omega,λg d=>?_⟩;rcases h.BY with E|E
 ·rw[E]at d;exact O g d
 ·rw[E]at d;cases d;exact L.Ak
def Dx(D:DS)(d:gC):Int×DS:=
 if B9 D.A6 d<0 then (8,D) else
  let es:=D.A6.take (B9 D.A6 d).toNat++D.A6.drop ((B9 D.A6 d).toNat+1)
  ((bg D.n).2.1,if (bg D.n).1 then {D with A6:=es,As:=D.As++[es],n:=(bg D.n).2.2} else {D with n:=(bg D.n).2.2})
def YT(w:gx)(b:Nat)(D:DS)(F:Nat->FC)(Ft:Nat->Prop)(h:Dj w b D F Ft)(nd:gC)(hs:D.A6.length<1099511627776/\D.As.length<1099511627776):
 Ag 193 #[A5 b,.string nd] w (Aj (A0 (Dx D nd).1) λw'=>DB w Ft w' b (Dx D nd).2 F):=by
 obtain⟨vd,vs,vc,vals,VB,hr,aF⟩:=h;obtain⟨hs1,aK⟩:=hs;have W:=A1 hr;have aQ:=A1 aF;have c0:=hr.Ae.c0;have hd:=A1 hr.A6;have aE:=A1 hr.Ae;rcases Py D.A6 nd with⟨h1,h2⟩|⟨k,hk,h1,h2⟩
 ·have q:Hid (Dx D nd=(8,D)):=by unfold Hid Dx;rw[Ai (by omega)]
  have hfi:B9 D.A6 nd<0:=by omega
  go_enter func193,ntmps193
  go_wp2_with (go_at_call 77;refine(DM _ _ _ _ hd.o).k ?_;rintro w' rfl);go_ret;rw[q.o];exact⟨rfl,DB.bC (A4.C _ _) W.o λk hk=>.inl (aF k hk)⟩
 ·have q:Hid (Dx D nd=((bg D.n).2.1,if (bg D.n).1 then {D with A6:=D.A6.take k++D.A6.drop (k+1),As:=D.As++[D.A6.take k++D.A6.drop (k+1)],n:=(bg D.n).2.2} else {D with n:=(bg D.n).2.2})):=by
   unfold Hid Dx;rw[Af (by omega),h1];rfl
  have aS:=A1 h1;by_cases Y:(bg D.n).1=true
  ·have⟨i0,hi,hz0,hz1,hz2⟩:=DL Tryz.db;obtain⟨a,cap,rfl,z1,z2,aD⟩:=W.o.A6.BW;obtain⟨g,rfl,_,_⟩:=aD k hk;unfold maxLen at z2;have aL:Hid (∀z,AM z b (AA g D.A6.length cap) vs vc (bg D.n).2.2->A4 (One b) w z->z.ownsRow 0 125 2 (AA g k cap) k ((C8 D.A6).take (k*2))/\Dd z (AA g D.A6.length cap) D.A6):=λz g1 g2=>
    ⟨OI (W.o.an g1 g2).A6 (by omega),(W.o.an g1 g2).A6⟩
   have aJ:∀u∈(C8 D.A6).take (k*2),u.oneCell'=true:=λu hu=>PA _ u (Ho hu);have X:=A1 aJ;have aO:Hid (∀f,Dp f (D.A6.take k++D.A6.drop (k+1))->D.Aq f):=by
    rintro f⟨e,he,rfl⟩;rcases AX.1 he with he|he
    ·exact .inl ⟨e,Ho he,rfl⟩
    ·exact .inl ⟨e,KI he,rfl⟩
   (have aG:(D.A6.take k++D.A6.drop (k+1)).length=k+(D.A6.length-(k+1)):=by simp;omega);have aZ:Hid (∀(E O:gx) (v2 v3:gy),App E O 125 2 v2 v3 (k+(D.A6.length-(k+1))) ((C8 D.A6).take (k*2)++C8 (D.A6.drop (k+1)))->Dd O v3 (D.A6.take k++D.A6.drop (k+1))):=by
    intro E O v2 v3 h;unfold Dd;rw[aG,LA,<-A14];exact h.AB
   by_cases aR:cap=k+1
   ·subst aR;(have hz:D.A6.length=k+1:=by omega);have aU:Hid (∀z E:gx,Dd z (AA g D.A6.length (k+1)) D.A6->A4 Aa z E->Src Tryz.prog 2 92 (AA g 0 0) 0 [] E):=
     λz E _ _=>J4 E Fj _ 0 _ [] rfl (by simp) (by simp)
    have aT:Hid (∀(E O:gx) (v2 v3:gy),App E O 125 2 v2 v3 (k+0) ((C8 D.A6).take (k*2)++[])->Dd O v3 (D.A6.take k++D.A6.drop (k+1))):=by
     intro E O v2 v3 h;refine aZ.o E O v2 v3 ?_;rw[It (by omega),show D.A6.length-(k+1)=0 from by omega];exact h
    clear hz
    go_enter func193,ntmps193
    go_wp2_with (first
     | (go_at_call 77;refine(DM _ _ _ _ hd.o).k ?_;rintro w' rfl;rw[aS.o])
     | (go_at_call 121;refine(Hj _ _ _ _ _ _ aE.o).k ?_;rintro z⟨d,I⟩;have aV:=d.c0;have aH:=A1 (aL.o z d I))
     | (at_builtin;refine CU rfl (.const (.slice none 0 0)) (.tmp 28) 92 92 rfl 125 i0 _ 2 24 Fj hi hz0 hz1 hz2 rfl (by decide) (.slice none 0 0) 0 [] (by rfl) (Co _ 0 125 2) (AA g k (k+1)) k ((C8 D.A6).take (k*2)) (by rfl) (Src.bP Fj aH.o.1 X.o) (by omega) ?_;intro a2 aP E L;simp only[Ha,Fa]at L;have aA:=A1 L.AB;have aY:=(d.Am L.bF (λh=>h)).c0;have aB:=A1 (aU.o z E aH.o.2 L.bF))
     | (at_builtin;refine CU rfl (.tmp 31) (.tmp 38) 92 92 rfl 125 i0 _ 2 24 Fj hi hz0 hz1 hz2 rfl (by decide) _ k ((C8 D.A6).take (k*2)) (by rfl) aA.o _ _ _ (by rfl) aB.o (by omega) ?_;intro a3 aI O hB;have c13:=A1 (hB.cy L.bF L.AV);have hm:=A1 (PJ W.o d I c13.o.1))
     | (go_at_call 122;refine(Ml _ b _ vs vc _ _ _ _ _ _ hm.o.1 hm.o.2 aK).k ?_;rintro w5⟨aX,k1,k2,k3,k4⟩))
    go_ret;rw[q.o,Y];have e3:=aT.o _ _ _ _ hB;exact⟨rfl,PK W.o aQ.o d I c13.o.1 e3 c13.o.2 aO.o k1 k2 k3 k4⟩
   ·have aU:Hid (∀z E:gx,Dd z (AA g D.A6.length cap) D.A6->A4 Aa z E->Src Tryz.prog 2 92 (.slice (some (A9 g ((k+1)*2))) (D.A6.length-(k+1)) (cap-(k+1))) (D.A6.length-(k+1)) (C8 (D.A6.drop (k+1))) E):=by
     intro z E h1 aW;have h2:=Au h1 λx hx=>aW.Al x (Aw h1 hx) (λh=>h);refine J4 E Fj _ _ _ _ (by rw[A15,Cz]) ?_ (PA _);intro j u hu;rw[<-A16,Is]at hu;(have aN:((A9 g ((k+1)*2)):Addr).add j=(A9 g ((k+1)*2+j)):=by unfold Addr.add;split<;>simp_all);rw[aN];exact Bv h2 rfl hu
    go_enter func193,ntmps193
    go_wp2_with (first
     | (go_at_call 77;refine(DM _ _ _ _ hd.o).k ?_;rintro w' rfl;rw[aS.o])
     | (go_at_call 121;refine(Hj _ _ _ _ _ _ aE.o).k ?_;rintro z⟨d,I⟩;have aV:=d.c0;have aH:=A1 (aL.o z d I))
     | (at_builtin;refine CU rfl (.const (.slice none 0 0)) (.tmp 28) 92 92 rfl 125 i0 _ 2 24 Fj hi hz0 hz1 hz2 rfl (by decide) (.slice none 0 0) 0 [] (by rfl) (Co _ 0 125 2) (AA g k cap) k ((C8 D.A6).take (k*2)) (by rfl) (Src.bP Fj aH.o.1 X.o) (by omega) ?_;intro a2 aP E L;simp only[Ha,Fa]at L;have aA:=A1 L.AB;have aY:=(d.Am L.bF (λh=>h)).c0;have aB:=A1 (aU.o z E aH.o.2 L.bF))
     | (at_builtin;refine CU rfl (.tmp 31) (.tmp 38) 92 92 rfl 125 i0 _ 2 24 Fj hi hz0 hz1 hz2 rfl (by decide) _ k ((C8 D.A6).take (k*2)) (by rfl) aA.o _ _ _ (by rfl) aB.o (by omega) ?_;intro a3 aI O hB;have c13:=A1 (hB.cy L.bF L.AV);have hm:=A1 (PJ W.o d I c13.o.1))
     | (go_at_call 122;refine(Ml _ b _ vs vc _ _ _ _ _ _ hm.o.1 hm.o.2 aK).k ?_;rintro w5⟨aX,k1,k2,k3,k4⟩))
    go_ret;rw[q.o,Y];have e3:=aZ.o _ _ _ _ hB;exact⟨rfl,PK W.o aQ.o d I c13.o.1 e3 c13.o.2 aO.o k1 k2 k3 k4⟩
  ·(have aM:(bg D.n).1=false:=by simpa using Y)
   go_enter func193,ntmps193
   go_wp2_with (first|(go_at_call 77;refine(DM _ _ _ _ hd.o).k ?_;rintro w' rfl;rw[aS.o])|(go_at_call 121;refine(Hj _ _ _ _ _ _ aE.o).k ?_;rintro z⟨d,I⟩));go_ret;rw[q.o,aM];exact⟨rfl,W.o.bV aF d I⟩
def Dw(es:gD AO)(i:Nat)(d:gC):Nat->gD AO
 | 0=>[]
 | k+1=>Dw es i d k++(match es[k]? with
  | some e=>if k≠i/\e.1≠d then [e] else []
  | none=>[])
def My(es:gD AO)(i:Nat)(d:gC)(k:Nat):∀e∈Dw es i d k,e∈es:=by
 induction k with
 | zero=>intro e h;cases h
 | succ k ih=>
  intro e h;simp only[Dw]at h;rcases AX.1 h with h|h
  ·exact ih e h
  ·split at h
   ·rename_i x z;split at h
    ·simp at h;subst h;exact LZ z
    ·cases h
   ·cases h
def Ot(es:gD AO)(i:Nat)(d:gC)(k:Nat):(Dw es i d k).length<=k:=by
 induction k with
 | zero=>simp[Dw]
 | succ k ih=>
  simp only[Dw,B3];split
  ·split<;>simp<;>omega
  ·simp;omega
def Sc(es:gD AO)(i:Nat)(d:gC)(k:Nat)(z:k<es.length)(h:k≠i/\(es[k]'z).1≠d):Dw es i d (k+1)=Dw es i d k++[es[k]'z]:=by
 simp only[Dw,Dz z];rw[Ai h]
def Ou(es:gD AO)(i:Nat)(d:gC)(k:Nat)(z:k<es.length)(h:¬(k≠i/\(es[k]'z).1≠d)):Dw es i d (k+1)=Dw es i d k:=by
 simp only[Dw,Dz z];rw[Af h,Gt]
def D8(D:DS)(oe d:gC):Int×DS:=match lookup D.A6 oe with
 | none=>(8,D)
 | some f=>if d=ByteArray.empty then (8,D) else
  let es:=Dw D.A6 (B9 D.A6 oe).toNat d D.A6.length++[(d,f)]
  ((bg D.n).2.1,if (bg D.n).1 then {D with A6:=es,As:=D.As++[es],n:=(bg D.n).2.2} else {D with n:=(bg D.n).2.2})
def YK(w:gx)(b:Nat)(D:DS)(F:Nat->FC)(Ft:Nat->Prop)(h:Dj w b D F Ft)(oe d:gC)(hs:D.A6.length<1099511627776/\D.As.length<1099511627776):
 Ag 242 #[A5 b,.string oe,.string d] w λe w'=>e=.returned (A0 (D8 D oe d).1)/\DB w Ft w' b (D8 D oe d).2 F:=by
 obtain⟨vd,vs,vc,vals,VB,hr,aD⟩:=h;obtain⟨hs1,aS⟩:=hs;have aH:=A1 hr;have aV:=A1 aD;have c0:=hr.Ae.c0;have hd:=A1 hr.A6;have aP:=A1 hr.Ae;rcases Jv D.A6 oe with⟨h1,h2⟩|⟨k,I,h1,h2,h3⟩
 ·have q:Hid (D8 D oe d=(8,D)):=by unfold Hid D8;rw[h2]
  have hfi:B9 D.A6 oe<0:=by omega
  go_enter func242,ntmps242
  go_wp2_with (go_at_call 77;refine(DM _ _ _ _ hd.o).k ?_;rintro w' rfl);go_ret;rw[q.o];exact⟨rfl,DB.bC (A4.C _ _) aH.o λk I=>.inl (aD k I)⟩
 ·have aR:=A1 h1;by_cases hn:d.toList.isEmpty=true
  ·(have q:Hid (D8 D oe d=(8,D)):=by unfold Hid D8;rw[h2];exact Ai ((isEmpty_iff _).1 hn))
   go_enter func242,ntmps242
   go_wp2_with (go_at_call 77;refine(DM _ _ _ _ hd.o).k ?_;rintro w' rfl;rw[aR.o]);go_ret;rw[q.o];exact⟨rfl,DB.bC (A4.C _ _) aH.o λk I=>.inl (aD k I)⟩
  ·(have hn':d.toList.isEmpty=false:=by simpa using hn);have q:Hid (D8 D oe d=((bg D.n).2.1,if (bg D.n).1 then {D with A6:=Dw D.A6 k d D.A6.length++[(d,(D.A6[k]'I).2)],As:=D.As++[Dw D.A6 k d D.A6.length++[(d,(D.A6[k]'I).2)]],n:=(bg D.n).2.2} else {D with n:=(bg D.n).2.2})):=by
    unfold Hid D8;rw[h2];dsimp only;rw[Af (λe=>hn ((isEmpty_iff _).2 e)),h1];rfl
   by_cases aJ:(bg D.n).1=true
   ·have⟨i0,hi,hz0,hz1,hz2⟩:=DL Tryz.db;obtain⟨a,cap,rfl,z1,z2,aG⟩:=aH.o.A6.BW;obtain⟨g,rfl,_,_⟩:=aG k I;unfold maxLen at z2
    have cells:Hid (∀Y wr,AM Y b (.slice (some (A9 g 0)) D.A6.length cap) vs vc (bg D.n).2.2->A4 (One b) w Y->A4 Aa Y wr->A8 wr b 0 (.slice (some (A9 g 0)) D.A6.length cap)/\
     ∀j (hj:j<D.A6.length),A8 wr g (j*2) (.string (D.A6[j]'hj).1)/\A8 wr g (j*2+1) (A5 ((D.A6[j]'hj).2))):=by
     intro Y wr g1 g2 g3;have r1:=aH.o.an g1 g2;have r3:=r1.aM λx hx=>g3.Al x (r1.lt hx) (λh=>h);exact⟨r3.Ae.c0,λj hj=>⟨Bv r3.A6 rfl (PC _ j hj),Bv r3.A6 rfl (Pz _ j hj)⟩⟩
    go_enter func242,ntmps242
    go_wp2_with (first
     | (go_at_call 77;refine(DM _ _ _ _ hd.o).k ?_;rintro w' rfl;rw[aR.o])
     | (go_at_call 121;refine(Hj _ _ _ _ _ _ aP.o).k ?_;rintro Y⟨E,O⟩;have c01:=E.c0))
    go_loopw [10,35] (λv i wr=>∃j:Nat,j<=D.A6.length/\i=A0 j/\A4 Aa Y wr/\Dd wr v (Dw D.A6 k d j)/\Hid (∀x,v.ownBlock=some x->Y.heap.size<=x)) (λ_ i _=>D.A6.length-(intOf i).toNat)
    ·exact⟨0,Ch _,rfl,A4.C _ _,Co _ _ _ _,λx hx=>by simp[Value.ownBlock]at hx⟩
    ·obtain⟨j,hj,rfl,L,aT,aA⟩:=hrel;have aB:=A1 aT;have⟨cb,ce⟩:=cells.o Y wr E O L;by_cases z:j<D.A6.length
     ·have⟨cn,cp⟩:=ce j z;by_cases X:j=k
      ·(have aK:((j:Int)!=(k:Int))=false:=by simp[X]);have q2:=A1 (Ou D.A6 k d j z (λh=>h.1 X));have aO:=A1 X;go_wp2;go_roundw
       ·exact⟨j+1,by omega,by go_num,L,by rw[q2.o];exact aB.o,aA⟩
       ·simp[intOf];omega
      ·(have aK:((j:Int)!=(k:Int))=true:=by rw[bne_iff_ne];omega);have aO:=A1 X;by_cases W:(D.A6[j]'z).1=d
       ·have aM:=(Q2 _ _).2 W;have q2:=A1 (Ou D.A6 k d j z (λh=>h.2 W));go_wp2;go_roundw
        ·exact⟨j+1,by omega,by go_num,L,by rw[q2.o];exact aB.o,aA⟩
        ·simp[intOf];omega
       ·have aM:=(V8 _ _).2 W;have q2:=A1 (Sc D.A6 k d j z ⟨aO.o,W⟩);have aI:=A1 (aB.o.alloc (.cells #[.string (D.A6[j]'z).1,A5 ((D.A6[j]'z).2)] 125));have aF:=A1 (Src.bc (size:=2) Fj wr #[.string (D.A6[j]'z).1,A5 ((D.A6[j]'z).2)] 125 wr.heap.size rfl 1 1 rfl (by simp[Value.oneCell']));have aU:=Ot D.A6 k d j;go_wp2_with (at_builtin;refine CU rfl (.tmp 53) (.tmp 61) 92 92 rfl 125 i0 _ 2 24 Fj hi hz0 hz1 hz2 rfl (by decide) _ _ _ (by rfl) aI.o _ 1 _ (by rfl) aF.o (by omega) ?_;intro a3 aE w3 hB;have c13:=A1 (hB.cy (L.aj _) aA.o));go_roundw
        ·refine⟨j+1,by omega,by go_num,c13.o.1,?_,c13.o.2⟩;rw[q2.o];have:=hB.AB;unfold Dd;rw[LA,B3];exact this
        ·simp[intOf];omega
     ·have⟨cn,cp⟩:=ce k I;(have aQ:j=D.A6.length:=by omega);have aN:=aB.o;rw[aQ]at aN;have aI:=A1 (aN.alloc (.cells #[.string d,A5 ((D.A6[k]'I).2)] 125));have aF:=A1 (Src.bc (size:=2) Fj wr #[.string d,A5 ((D.A6[k]'I).2)] 125 wr.heap.size rfl 1 1 rfl (by simp[Value.oneCell']));have aU:=Ot D.A6 k d D.A6.length
      go_wp2_with (first
       | (at_builtin;refine CU rfl (.tmp 65) (.tmp 76) 92 92 rfl 125 i0 _ 2 24 Fj hi hz0 hz1 hz2 rfl (by decide) _ _ _ (by rfl) aI.o _ 1 _ (by rfl) aF.o (by omega) ?_;intro a3 aE w3 hB;have c13:=A1 (hB.cy (L.aj _) aA.o);have hm:=A1 (PJ aH.o E O c13.o.1))
       | (go_at_call 122;refine(Ml _ b _ vs vc _ _ _ _ _ _ hm.o.1 hm.o.2 aS).k ?_;rintro w5⟨vc',k1,k2,k3,k4⟩))
      go_ret;rw[q.o,aJ];have e3:Dd w3 (.slice a3 ((Dw D.A6 k d D.A6.length).length+1) aE) (Dw D.A6 k d D.A6.length++[(d,(D.A6[k]'I).2)]):=by
       have:=hB.AB;unfold Dd;rw[LA,B3];exact this
      refine⟨rfl,PK aH.o aV.o E O c13.o.1 e3 c13.o.2 ?_ k1 k2 k3 k4⟩;rintro f⟨e,he,rfl⟩;rcases AX.1 he with he|he
      ·exact .inl ⟨e,My _ _ _ _ e he,rfl⟩
      ·simp at he;subst he;exact .inl ⟨_,BV I,rfl⟩
   ·(have aL:(bg D.n).1=false:=by simpa using aJ)
    go_enter func242,ntmps242
    go_wp2_with (first|(go_at_call 77;refine(DM _ _ _ _ hd.o).k ?_;rintro w' rfl;rw[aR.o])|(go_at_call 121;refine(Hj _ _ _ _ _ _ aP.o).k ?_;rintro Y⟨E,O⟩));go_ret;rw[q.o,aL];exact⟨rfl,aH.o.bV aD E O⟩
def GK(x y:Int):Int:=if x<y then -1 else if y<x then 1 else 0
def A2Q(x y:Int)(w:gx):Ag 130 #[A0 x,A0 y] w (Aj (A0 (GK x y)) λw'=>w=w'):=by
 by_cases h:x<y
 ·have q:Hid (GK x y = -1):=by unfold Hid GK;rw[Ai h]
  go_enter func130,ntmps130
  go_wp2;go_ret;rw[q.o];exact⟨rfl,rfl⟩
 ·by_cases d:y<x
  ·(have q:Hid (GK x y=1):=by unfold Hid GK;rw[Af h,Ai d])
   go_enter func130,ntmps130
   go_wp2;go_ret;rw[q.o];exact⟨rfl,rfl⟩
  ·(obtain rfl:x=y:=by omega);(have q:Hid (GK x x=0):=by unfold Hid GK;rw[Af h,Af d])
   go_enter func130,ntmps130
   go_wp2;go_ret;rw[q.o];exact⟨rfl,rfl⟩
def PV(t v y:Int)(w:gx):Ag 163 #[.agg #[A0 t,A0 v],A0 y] w (Aj (A0 (GK t y)) λw'=>A4 Aa w w'):=by
 go_enter func163,ntmps163
 go_wp2_with (go_at_call 130;refine(A2Q _ _ _).k ?_;rintro w' rfl);go_ret;exact⟨rfl,(A4.C _ w).aj _⟩
def F5(l:gD Pt)(t:Int):Bool:=(l[BF l t]?).any λx=>x.1==t
def Yo(w:gx)(lv:gy)(L:gD Pt)(t:Int)(hL:Ck w lv L)(hs:DP L)(hl:L.length<1099511627776):
 Ag 162 #[lv,A0 t,.func (.func 163) #[] #[]] w (Aj (.tuple #[A0 (BF L t),.bool (F5 L t)]) λw'=>A4 Aa w w'):=by
 obtain⟨a,cap,rfl,h1,h2,h3,_,_⟩:=B8 hL;unfold maxLen at h2;have aK:=A1 hL;have aM:=A1 hs;have aL:=A1 h3;have aE:=Jm L t;have aJ:Hid (∀W,A4 Aa w W->∀k (hk:k<L.length),∃g,a=some (A9 g 0)/\A8 W g (k*2) (A0 (L[k]'hk).1)/\A8 W g (k*2+1) (A0 (L[k]'hk).2)):=by
  intro W hc k hk;obtain⟨g,rfl⟩:=aL.o (by omega);have hW:Ck W (AA g L.length cap) L:=Au aK.o λg hg=>hc.Al g (Aw aK.o hg) (λh=>h);exact⟨g,rfl,hW.bu k hk⟩
 go_enter func162,ntmps162
 go_wp2;go_loopw [9,10] (λiv jv wq=>∃i j:Nat,i<=j/\j<=L.length/\iv=A0 i/\jv=A0 j/\Hid (i<=BF L t/\BF L t<=j)/\Hid (A4 Aa w wq)) (λiv jv _=>(intOf jv).toNat-(intOf iv).toNat)
 ·exact⟨0,L.length,Ch _,Ao _,rfl,rfl,⟨Ch _,aE⟩,A4.C _ _⟩
 ·obtain⟨i,j,hij,hj,rfl,rfl,E,d⟩:=hrel;by_cases hlt:i<j
  ·obtain⟨m,hm⟩:∃m,(i+j)/2=m:=⟨_,rfl⟩;(have aH:i<=m:=by omega);(have hmj:m<j:=by omega);(have O:m<L.length:=by omega);obtain⟨g,rfl,c1,c2⟩:=aJ.o _ d.o m O;obtain⟨⟨tm,vm⟩,aD⟩:∃x,L[m]'O=x:=⟨_,rfl⟩;rw[aD]at c1 c2;have aB:=A1 aD;have i0:=BJ i;(have hsum:(i:Int)+(j:Int)<=9223372036854775807:=by omega);(have hlt':(i:Int)<(j:Int):=by omega);by_cases aF:tm<t
   ·(have hc:GK tm t<0:=by unfold GK;rw[Ai aF];omega);have hp:Hid (m+1<=BF L t):=by
     unfold Hid;apply QD;intro hn;have:=Ld aM.o (show BF L t<=m by omega) O;rw[aB.o]at this;simp only at this;omega
    go_wp2_with (go_at_call 163;refine(PV _ _ _ _).k ?_;rintro w' z;have I:=A1 z);go_roundw
    ·exact⟨m+1,j,by omega,hj,by rw[show ((i:Int)+(j:Int))/2+1=((m+1:Nat):Int) from by omega],rfl,⟨hp.o,E.o.2⟩,d.o.tr I.o⟩
    ·simp[intOf];omega
   ·have hc:0<=GK tm t:=by
     unfold GK;rw[Af aF];split<;>omega
    have hp:Hid (BF L t<=m):=by
     unfold Hid;apply QD;intro hn;have:=Kf (show m<BF L t by omega) O;rw[aB.o]at this;simp only at this;omega
    go_wp2_with (go_at_call 163;refine(PV _ _ _ _).k ?_;rintro w' z;have I:=A1 z);go_roundw
    ·exact⟨i,m,aH,by omega,rfl,by rw[show ((i:Int)+(j:Int))/2=(m:Int) from by omega],⟨E.o.1,hp.o⟩,d.o.tr I.o⟩
    ·simp[intOf];omega
  ·(obtain rfl:i=j:=by omega);(have aG:Hid (BF L t=i):=by have:=E.o;unfold Hid;omega);by_cases X:i<L.length
   ·obtain⟨g,rfl,c1,c2⟩:=aJ.o _ d.o i X;obtain⟨⟨Y,vi⟩,aA⟩:∃x,L[i]'X=x:=⟨_,rfl⟩;rw[aA]at c1 c2;have i0:=BJ i;(have i1:(i:Int)<(L.length:Int):=by omega);have aI:Hid (F5 L t=(GK Y t==0)):=by
     unfold Hid F5;rw[aG.o,Dz X,aA];simp only[Option.any_some];unfold GK;by_cases e1:Y<t
     ·rw[Ai e1];have:Y≠t:=by omega
      simp[this]
     ·rw[Af e1];by_cases e2:t<Y
      ·rw[Ai e2];have:Y≠t:=by omega
       simp[this]
      ·rw[Af e2];have:Y=t:=by omega
       simp[this]
    go_wp2_with (go_at_call 163;refine(PV _ _ _ _).k ?_;rintro w' z;have I:=A1 z);go_ret2;rw[aG.o,aI.o];exact⟨rfl,d.o.tr I.o⟩
   ·(have hil':(L.length:Int)<=(i:Int):=by omega);have aI:Hid (F5 L t=false):=by
     unfold Hid F5;rw[aG.o,M4 (by omega)];rfl
    go_wp2;go_ret2;rw[aG.o,aI.o];exact⟨rfl,d.o⟩
structure Nt (w:gx) (b o:Nat) (L:gD Pt) (lv:gy):Prop where
 CO:w.cell? ⟨b,o,none⟩=some lv
 Bp:Ck w lv L
 G7:DP L
 CE:L.length<1099511627776
def MZ(w:gx)(b o:Nat)(L:gD Pt)(lv:gy)(t:Int)(h:Nt w b o L lv):
 Ag 116 #[.pointer (some (A9 b o)),A0 t] w (Aj (.tuple #[A0 (BF L t),.bool (F5 L t)]) λw'=>A4 Aa w w'):=by
 have hc:=h.CO;obtain⟨a,cap,rfl,_⟩:=B8 h.Bp;have H:=A1 h
 go_enter func116,ntmps116
 go_wp2_with (go_at_call 162;refine(Yo _ _ _ _ H.o.Bp H.o.G7 H.o.CE).k ?_;rintro w' d;have z:=A1 d);go_ret2;exact⟨rfl,z.o⟩
def Tryz.cr:(Tryz.prog.info? 70).map (λi=>(i.zero,i.size,i.bytes))=some (some (.agg #[A0 0,A0 0]),2,16):=by kernel_rfl
def Zv{l:gD Pt}(z:DP l)(t:Int):BF l (t+1)=BF l t+(if F5 l t then 1 else 0):=by
 have L:=Jm l t;by_cases h:F5 l t=true
 ·rw[Ai h];unfold F5 at h;by_cases O:BF l t<l.length
  ·rw[Dz O]at h;simp at h;refine MH z (by omega) (λi d I=>?_) λi d E=>?_
   ·by_cases e:i=BF l t
    ·subst e;omega
    ·have:=Kf (show i<BF l t by omega) d;omega
   ·have:=JQ.1 z (BF l t) i O d (by omega);rw[h]at this;omega
  ·rw[M4 (by omega)]at h;cases h
 ·rw[Af h,Qk];refine MH z L (λi d I=>?_) λi d E=>?_
  ·have:=Kf I d;omega
  ·have h2:=Ld z E d;by_cases e:(l[i]'d).1=t
   ·exfalso;apply h;by_cases W:i=BF l t
    ·subst W;unfold F5;rw[Dz d];simpa using e
    ·have:=JQ.1 z (BF l t) i (by omega) d (by omega);have:=Ld z (Ao (BF l t)) (show BF l t<l.length by omega);omega
   ·omega
def Zw{l:gD Pt}(d:DP l){a b:Int}(h:a<=b):BF l a<=BF l b:=by
 apply QD;intro hn;have hl:=Jm l a;have h1:=Kf (show BF l b<BF l a by omega) (by omega);have h2:=Ld d (Ao (BF l b)) (by omega);omega
def piece(l:gD Pt)(a b:Int):gD Pt:=l.filter λx=>decide (a<=x.1)&&decide (x.1<=b)
def Zy{l:gD Pt}(d:DP l)(a b:Int):piece l a b=(l.take (BF l b+(if F5 l b then 1 else 0))).drop (BF l a):=by
 rw[<-Zv d b,<-A1W d a (b+1)];unfold piece
 congr 1
 funext x
 have:decide (x.1<=b)=decide (x.1<b+1):=by
  apply NQ.2;simp;omega
 rw[this]
def A3y(w:gx)(rb ro:Nat)(L:gD Pt)(lv:gy)(a b:Int)(h:Nt w rb ro L lv):
 Ag 80 #[.pointer (some (A9 rb ro)),A0 a,A0 b] w λe w'=>∃v,e=.returned v/\Ck w' v (piece L a b)/\A4 Aa w w'/\∀g,v.ownBlock=some g->w.heap.size<=g:=by
 have H:=A1 h;have hc:=h.CO;obtain⟨ad,cap,rfl,h1,h2,h3,h4,h5⟩:=B8 h.Bp;unfold maxLen at h2;have HA:=A1 h3;have aQ:=GO w _ hc;have aI:Hid (∀W,A4 Aa w W->Nt W rb ro L (.slice ad L.length cap)):=λW I=>
  ⟨(DO (I.Al rb aQ (λh=>h))).trans H.o.CO,Au H.o.Bp λg hg=>I.Al g (Aw H.o.Bp hg) (λh=>h),H.o.G7,H.o.CE⟩
 have⟨i0,hi,hz0,hz1,hz2⟩:=DL Tryz.cr;have hsm:=h.CE;have aU:=A1 h4;have aT:=A1 h5;by_cases hab:b<a
 ·have q:Hid (piece L a b=[]):=by
   unfold Hid piece;rw[W6];intro x _;simp;omega
  go_enter func80,ntmps80
  go_wp2;go_ret;exact⟨_,rfl,by rw[q.o];exact Co _ _ _ _,A4.C _ _,by simp[Value.ownBlock]⟩
 ·have aK:a<=b:=by omega
  have aH:=Zy H.o.G7 a b;have hm:=Zw H.o.G7 aK;have aP:=Jm L b;have X:F5 L b=true->BF L b<L.length:=λhh=>by
   unfold F5 at hh;apply QD;intro hn;rw[M4 (by omega)]at hh;cases hh
  obtain⟨i,aG⟩:∃i,BF L a=i:=⟨_,rfl⟩;obtain⟨j,Y⟩:∃j,BF L b=j:=⟨_,rfl⟩;obtain⟨hs,aE⟩:∃hs,F5 L b=hs:=⟨_,rfl⟩;rw[aG,Y]at hm;rw[Y]at aP;rw[aE,Y]at X;rw[aG,Y,aE]at aH;have aO:Hid (∀W,A4 Aa w W->Ag 116 #[.pointer (some (A9 rb ro)),A0 a] W λe w'=>∃x,e=.returned (.tuple #[A0 i,.bool x])/\A4 Aa W w'):=λW I=>
   (MZ W rb ro L _ a (aI.o W I)).mono (by rintro e w'⟨rfl,h⟩;rw[aG];exact⟨_,rfl,h⟩)
  have aS:Hid (∀W,A4 Aa w W->Ag 116 #[.pointer (some (A9 rb ro)),A0 b] W (Aj (.tuple #[A0 j,.bool hs]) λw'=>A4 Aa W w')):=λW I=>
   (MZ W rb ro L _ b (aI.o W I)).mono (by rintro e w'⟨rfl,h⟩;rw[Y,aE];exact⟨rfl,h⟩)
  have aN:=A1 aH;have O:Hid (∀W (n:Nat),A4 Aa w W->i<=n->n<=L.length->n=j+(if hs then 1 else 0)->∀v,(v=.slice (Option.map (λx=>x.add (i*2)) ad) (n-i) (cap-i)\/(n=i/\∃x c,v=.slice x 0 c))->Src Tryz.prog 2 66 v (n-i) (B7 (piece L a b)) W/\(piece L a b).length=n-i):=by
   intro W n I hin hnl hn v hv;(have aA:(piece L a b).length=n-i:=by rw[aN.o,<-hn,Cz,BK];omega);have aM:=(aI.o W I).Bp;refine⟨?_,aA⟩;have aR:∀g,ad=some (A9 g 0)->∀(k:Nat) u,(B7 (piece L a b))[k]?=some u->A8 W g (i*2+k) u:=by
    intro g hg k u hk;subst hg;refine Bv aM (g:=g) rfl ?_;rw[aN.o,<-hn,<-MG,<-OE,Is,ND]at hk;split at hk
    ·exact hk
    ·cases hk
   have aB:n-i=0->∀x c,Src Tryz.prog 2 66 (.slice x 0 c) 0 (B7 (piece L a b)) W:=by
    intro h0 x c;have:piece L a b=[]:=NH (by omega);rw[this];cases x with
    | none=>exact Src.ofNil W underlying66 c
    | some y=>exact J4 W underlying66 _ 0 c [] rfl (by simp) (by simp)
   rcases hv with rfl|⟨hni,x,c,rfl⟩
   ·cases ad with
    | none=>
     have:=(aU.o rfl).1;(have h0:n-i=0:=by omega);rw[h0];exact aB h0 _ _
    | some x=>
     obtain⟨g,rfl⟩:=aT.o x rfl;refine J4 W underlying66 _ _ _ _ (by rw[GA,aA]) (λk u hk=>?_) (Lb _);have hx:Addr.add (Addr.add (A9 g 0) (i*2)) k=(A9 g (i*2+k)):=by
      unfold Addr.add;by_cases h1:i*2=0<;>by_cases h2:k=0<;>simp[h1,h2]
     rw[hx];exact aR g rfl k u hk
   ·(have h0:n-i=0:=by omega);rw[h0];exact aB h0 x c
  have HLEN:Hid ((piece L a b).length=j+(if hs then 1 else 0)-i):=by
   unfold Hid;rw[aH,Cz,BK];cases hs with
   | true=>have:=X rfl;simp;omega
   | false=>simp;omega
  have j0:=BJ j;have iz:=BJ i;have hij:(i:Int)<=(j:Int):=by omega
  have hjc:(j:Int)<=(cap:Int):=by omega
  have hic:(i:Int)<=(cap:Int):=by omega
  have hbyt:(0+(j+1-i))*16<=140737488355328:=by omega
  have aF:Hid (∀(W w3:gx) (n:Nat) (b3:Option Addr) (d:Nat),A4 Aa w W->(piece L a b).length=n->App W w3 70 2 (.slice none 0 0) (.slice b3 (0+n) d) (0+n) ([]++B7 (piece L a b))->Ck w3 (.slice b3 n d) (piece L a b)/\A4 Aa w w3/\∀g,(Value.slice b3 n d).ownBlock=some g->w.heap.size<=g):=by
   intro W w3 n b3 d I hn hA;refine⟨?_,I.tr hA.bF,λg hg=>?_⟩
   ·have:=hA.AB;unfold Ck;rw[hn];simpa using this
   ·have:=hA.AV g (by simpa using hg);have:=I.Ak;omega
  cases hs with
  | false=>
   by_cases aL:cap=i
   ·obtain rfl:i=cap:=aL.symm;(obtain rfl:j=i:=by omega);have aJ:Hid (∀W x c,A4 Aa w W->Src Tryz.prog 2 66 (.slice x 0 c) 0 (B7 (piece L a b)) W/\(piece L a b).length=0):=λW x c I=>by
     have:=O.o W j I (Ao _) (by omega) (by simp) (.slice x 0 c) (.inr ⟨rfl,x,c,rfl⟩)
     rwa [Nx]at this
    go_enter func80,ntmps80
    go_wp2_with (fail);refine(aO.o _ (A4.C _ _)).mono ?_;rintro e w1⟨x,rfl,k1⟩;have aD:=A1 k1;go_wp2_with (fail);refine(aS.o _ aD.o).k ?_;rintro w2 k2;have E:=A1 <| aD.o.tr k2;have c2:=(aI.o _ E.o).CO;go_wp2_with (at_builtin;refine CU rfl (.const (.slice none 0 0)) (.tmp 35) 66 66 rfl 70 i0 _ 2 16 underlying66 hi hz0 hz1 hz2 rfl (by decide) (.slice none 0 0) 0 [] (by rfl) (Co _ 0 70 2) _ 0 _ (by rfl) (aJ.o _ _ _ E.o).1 (by omega) ?_;intro b3 d w3 hA;have z:=A1 (aF.o _ w3 _ b3 d E.o (aJ.o _ none 0 E.o).2 hA));go_ret;exact⟨_,rfl,z.o.1,z.o.2.1,z.o.2.2⟩
   ·skip
    go_enter func80,ntmps80
    go_wp2_with (fail);refine(aO.o _ (A4.C _ _)).mono ?_;rintro e w1⟨x,rfl,k1⟩;have aD:=A1 k1;go_wp2_with (fail);refine(aS.o _ aD.o).k ?_;rintro w2 k2;have E:=A1 <| aD.o.tr k2;have c2:=(aI.o _ E.o).CO;go_wp2_with (at_builtin;refine CU rfl (.const (.slice none 0 0)) (.tmp 35) 66 66 rfl 70 i0 _ 2 16 underlying66 hi hz0 hz1 hz2 rfl (by decide) (.slice none 0 0) 0 [] (by rfl) (Co _ 0 70 2) _ (j-i) _ (by rfl) (O.o _ j E.o (by omega) (by omega) (by simp) _ (.inl rfl)).1 (by omega) ?_;intro b3 d w3 hA;have z:=A1 (aF.o _ w3 _ b3 d E.o (O.o _ j E.o (by omega) (by omega) (by simp) _ (.inl rfl)).2 hA));go_ret;exact⟨_,rfl,z.o.1,z.o.2.1,z.o.2.2⟩
  | true=>
   have hjl:=X rfl;(have hjc':(j:Int)+1<=(cap:Int):=by omega);(have hij':(i:Int)<=(j:Int)+1:=by omega);(have hjt:((j:Int)+1).toNat=j+1:=by omega);by_cases aL:cap=i
   ·exfalso;omega
   ·skip
    go_enter func80,ntmps80
    go_wp2_with (fail);refine(aO.o _ (A4.C _ _)).mono ?_;rintro e w1⟨x,rfl,k1⟩;have aD:=A1 k1;go_wp2_with (fail);refine(aS.o _ aD.o).k ?_;rintro w2 k2;have E:=A1 <| aD.o.tr k2;have c2:=(aI.o _ E.o).CO;go_wp2_with (at_builtin;refine CU rfl (.const (.slice none 0 0)) (.tmp 35) 66 66 rfl 70 i0 _ 2 16 underlying66 hi hz0 hz1 hz2 rfl (by decide) (.slice none 0 0) 0 [] (by rfl) (Co _ 0 70 2) _ ((j+1)-i) _ (by rfl) (O.o _ (j+1) E.o (by omega) (by omega) (by simp) _ (.inl rfl)).1 (by omega) ?_;intro b3 d w3 hA;have z:=A1 (aF.o _ w3 _ b3 d E.o (O.o _ (j+1) E.o (by omega) (by omega) (by simp) _ (.inl rfl)).2 hA));go_ret;exact⟨_,rfl,z.o.1,z.o.2.1,z.o.2.2⟩
structure HI (w:gx) (b o:Nat) (cs:Array gy) (T:Nat) (L:gD Pt) (lv:gy):Prop where
 Ae:w.heap[b]?=some (.cells cs T (0,0))
 BY:cs[o]?=some lv
 Bp:Ck w lv L
 G7:DP L
 CE:L.length<1099511627776
def HI.b3{w:gx}{b o:Nat}{cs:Array gy}{T:Nat}{L:gD Pt}{lv:gy}(h:HI w b o cs T L lv):Nt w b o L lv:=
 ⟨by simp[World.cell?,h.Ae,h.BY],h.Bp,h.G7,h.CE⟩
def HI.Am{w w':gx}{b o:Nat}{cs:Array gy}{T:Nat}{L:gD Pt}{lv:gy}(h:HI w b o cs T L lv)(d:A4 Aa w w'):HI w' b o cs T L lv:=
 ⟨(d.Al b (By h.Ae) (λh=>h)).trans h.Ae,h.BY,Au h.Bp λg z=>d.Al g (Aw h.Bp z) (λh=>h),h.G7,h.CE⟩
structure I1 (w w':gx) (b o:Nat) (cs:Array gy) (T:Nat) (lv:gy) (L':gD Pt) (lv':gy):Prop where
 Bp:HI w' b o (cs.setIfInBounds o lv') T L' lv'
 Am:A4 (λk=>k=b\/lv.ownBlock=some k) w w'
 AB:∀g,lv'.ownBlock=some g->lv.ownBlock=some g\/w.heap.size<=g
def A1S(w:gx)(X I:Nat)(cs:Array gy)(T:Nat)(hT:T≠70)(L:gD Pt)(lv:gy)(t:Int)(h:HI w X I cs T L lv):
 Ag 72 #[.pointer (some (A9 X I)),A0 t] w (Aj (.tuple #[]) λw'=>∃aQ lv',(aQ=L\/aQ=L.drop (BF L t))/\I1 w w' X I cs T lv aQ lv'):=by
 have H:=A1 h;obtain⟨ad,cap,rfl,h1,h2,h3,h4,h5⟩:=B8 h.Bp;unfold maxLen at h2;have HA:=A1 h3;have aT:=A1 h4;have aS:=A1 h5;have⟨i0,hi,hz0,hz1,hz2⟩:=DL Tryz.cr;have hsm:=h.CE;have aP:=Jm L t;obtain⟨i,aB⟩:∃i,BF L t=i:=⟨_,rfl⟩;rw[aB]at aP;have aN:Hid (Ag 116 #[.pointer (some (A9 X I)),A0 t] w λe w'=>∃x,e=.returned (.tuple #[A0 i,.bool x])/\A4 Aa w w'):=
  (MZ w X I L _ t h.b3).mono (by rintro e w'⟨rfl,h⟩;rw[aB];exact⟨_,rfl,h⟩)
 have aL:=A1 aB;clear h h3 h4 h5 aB;have iz:=BJ i;have hic:(i:Int)<=(L.length:Int):=by omega
 have hlc:(L.length:Int)<=(cap:Int):=by omega
 by_cases hgt:((L.length:Int)/2<(i:Int))
 ·
  have aH:Hid (∀W,A4 Aa w W->∀v m,(v=.slice (Option.map (λx=>x.add (i*2)) ad) m (cap-i)/\m=L.length-i\/(L.length=i/\m=0/\∃x c,v=.slice x 0 c))->Src Tryz.prog 2 66 v m (B7 (L.drop i)) W):=by
   intro W hW v m hv;have E:=(H.o.Am hW).Bp;have aD:L.length-i=0->∀x c,Src Tryz.prog 2 66 (.slice x 0 c) 0 (B7 (L.drop i)) W:=by
    intro h0 x c;have:L.drop i=[]:=It (by omega);rw[this];cases x with
    | none=>exact Src.ofNil W underlying66 c
    | some y=>exact J4 W underlying66 _ 0 c [] rfl (by simp) (by simp)
   rcases hv with⟨rfl,rfl⟩|⟨hni,rfl,x,c,rfl⟩
   ·cases ad with
    | none=>
     have:=(aT.o rfl).1;(have h0:L.length-i=0:=by omega);rw[h0];exact aD h0 _ _
    | some x=>
     obtain⟨g,rfl⟩:=aS.o x rfl;refine J4 W underlying66 _ _ _ _ (by rw[GA,Cz]) (λk u hk=>?_) (Lb _);have hx:Addr.add (Addr.add (A9 g 0) (i*2)) k=(A9 g (i*2+k)):=by
      unfold Addr.add;by_cases h1:i*2=0<;>by_cases h2:k=0<;>simp[h1,h2]
     rw[hx];refine Bv E (g:=g) rfl ?_;rw[<-MG,Is]at hk;exact hk
   ·exact aD (by omega) x c
  have aJ:Hid (∀(W Y:gx) (m:Nat) (O:Option Addr) (d:Nat),A4 Aa w W->m=L.length-i->App W Y 70 2 (.slice none 0 0) (.slice O (0+m) d) (0+m) ([]++B7 (L.drop i))->
   Y.cell? (A9 X I)=some (.slice ad L.length cap)/\Y.frozen? (A9 X I)=false/\I1 w (Y.sC X I (.slice O m d)) X I cs T (.slice ad L.length cap) (L.drop i) (.slice O m d)):=by
   intro W Y m O d hW hm hA;subst hm;have aA:=(hA.bF.Al X (By (H.o.Am hW).Ae) (λh=>h)).trans (H.o.Am hW).Ae;have E:Ck Y (.slice O (L.length-i) d) (L.drop i):=by
    have:=hA.AB;unfold Ck;rw[Cz];simpa using this
   have aR:=hW.tr hA.bF;refine⟨by simp[World.cell?,aA,H.o.BY],by simp[World.frozen?,aA],⟨⟨BQ aA,?_,?_,H.o.G7.cj i,by rw[Cz];omega⟩,?_,?_⟩⟩
   ·have aF:=(QJ.1 H.o.BY).1;simp[aF]
   ·refine Au E λg hg=>?_;have aM:g≠X:=λe=>by
     have⟨c,hh⟩:=Bb E hg;subst e;rw[aA]at hh;cases hh;exact hT rfl
    exact Fw _ _ _ _ (λe=>aM (by simpa using e))
   ·exact(aR.ai (λ_ _ h=>h.elim)).ao (.inl rfl) I _
   ·intro g hg;right;have:=hA.AV g (by simpa using hg);have:=hW.Ak;omega
  by_cases aO:cap=i
  ·obtain rfl:i=cap:=aO.symm;(have aK:L.length=i:=by omega);have aG:=A1 aK;clear aK
   go_enter func72,ntmps72
   go_wp2_with (fail);refine aN.m ?_;rintro e w1⟨x,rfl,k1⟩;have aE:=A1 k1;have c2:=(H.o.Am k1).b3.CO;clear k1;go_wp2_with (at_builtin;refine CU rfl (.const (.slice none 0 0)) (.tmp 26) 66 66 rfl 70 i0 _ 2 16 underlying66 hi hz0 hz1 hz2 rfl (by decide) (.slice none 0 0) 0 [] (by rfl) (Co _ 0 70 2) _ 0 _ (by rfl) (aH.o _ aE.o _ 0 (.inr ⟨aG.o,rfl,_,_,rfl⟩)) (by omega) ?_;intro O d Y hA;have z:=A1 (aJ.o _ Y 0 O d aE.o (by have:=aG.o;omega) hA);have y1:=z.o.1;have y2:=z.o.2.1;clear hA);go_end0;refine⟨rfl,_,.slice O 0 d,.inr rfl,?_⟩;rw[aL.o];have:=z.o.2.2;simpa using this
  ·go_enter func72,ntmps72
   go_wp2_with (fail);refine aN.m ?_;rintro e w1⟨x,rfl,k1⟩;have aE:=A1 k1;have c2:=(H.o.Am k1).b3.CO;go_wp2_with (at_builtin;refine CU rfl (.const (.slice none 0 0)) (.tmp 26) 66 66 rfl 70 i0 _ 2 16 underlying66 hi hz0 hz1 hz2 rfl (by decide) (.slice none 0 0) 0 [] (by rfl) (Co _ 0 70 2) _ (L.length-i) _ (by rfl) (aH.o _ aE.o _ _ (.inl ⟨rfl,rfl⟩)) (by omega) ?_;intro O d Y hA;have z:=A1 (aJ.o _ Y _ O d aE.o rfl hA);have y1:=z.o.1;have y2:=z.o.2.1);go_end0;refine⟨rfl,_,.slice O (L.length-i) d,.inr rfl,?_⟩;rw[aL.o];have:=z.o.2.2;simpa using this
 ·have hgt':(i:Int)<=(L.length:Int)/2:=by omega
  go_enter func72,ntmps72
  go_wp2_with (fail);refine aN.m ?_;rintro e w1⟨x,rfl,k1⟩;have aE:=A1 k1;have c2:=(H.o.Am k1).b3.CO;go_wp2;go_end0;have hR:=H.o.Am aE.o;refine⟨rfl,L,_,.inl rfl,⟨?_,aE.o.ai (λ_ _ h=>h.elim),λg hg=>.inl hg⟩⟩;have aI:cs.setIfInBounds I (.slice ad L.length cap)=cs:=by
   have⟨aF,he⟩:=QJ.1 H.o.BY;apply A4U;intro k;by_cases hk:I=k
   ·subst hk;simp[aF,he]
   ·rw[Wq hk]
  rw[aI];exact hR
def Mj{P:Program}(w:gx){ops:Array Oper}{rest:gD Oper}{o:Oper}{a:Act}{Q:Exit->Act->gx->Prop}(z:o.guard=none)(d s:Operand)(t I:TypeId)(W:o.op=.call {callee:=.builtin .copy,args:=#[d,s],argTypes:=#[t,I]})(v u:gy)(L:a.eval d=v)(Y:a.eval s=u){E:gy}{w':gx}(X:(Builtin.copy_ #[t,I] o.type #[v,u]).run P w=.ok E w')(h:wpList P ops Q rest (a.put o.dst E) w'):wpList P ops Q (o::rest) a w:=
 wpList_plain z λ_ O=>by
  unfold Oper.wp execOp;simp only[W,resolve,invoke,builtin,Sem.run_bind,Sem.run_pure,Result.andThen_ok,List.map_toArray,GW,List.map_nil,L,Y,X];exact O _ _ h
def DE(d:gD gy)(L:gD Pt)(i:Nat):gD Value:=d.take ((i+1)*2)++B7 (L.drop i)++d.drop ((i+1)*2+(B7 (L.drop i)).length)
def DY(c:gD gy)(i:Nat)(t v:Int):gD Value:=c.take (i*2)++[A0 t,A0 v]++c.drop (i*2+2)
def U9(L:gD Pt)(i:Nat)(t v:Int):B7 (L.take i++(t,v):: L.drop i)=B7 (L.take i)++[A0 t,A0 v]++B7 (L.drop i):=by
 rw[Lc];simp[B7]
def Uj(d:gD gy)(L:gD Pt)(i:Nat)(hi:i<=L.length)(hlen:(L.length+1)*2<=d.length):(DE d L i).length=d.length:=by
 have h:(B7 (L.drop i)).length=(L.length-i)*2:=by rw[GA,Cz]
 unfold DE;simp only[B3,BK,Cz,h];omega
def Pj(c:gD gy)(i:Nat)(t v:Int)(h:i*2+2<=c.length):(DY c i t v).length=c.length:=by
 unfold DY;simp only[B3,BK,Cz,CA,Ja];omega
def A1s(L:gD Pt)(i:Nat)(hi:i<=L.length)(t v:Int)(d:gD gy)(h:d.take (i*2)=B7 (L.take i))(hlen:(L.length+1)*2<=d.length):
 (DY (DE d L i) i t v).take ((L.length+1)*2)=B7 (L.take i++(t,v):: L.drop i):=by
 have z:(B7 (L.drop i)).length=(L.length-i)*2:=by rw[GA,Cz]
 have I:(d.take ((i+1)*2)).length=(i+1)*2:=by rw[BK];omega
 have O:(DE d L i).take (i*2)=B7 (L.take i):=by
  unfold DE;rw[Ci,Hn (by rw[I];omega),KF,show min (i*2) ((i+1)*2)=i*2 from by omega,h]
 have W:(DE d L i).drop (i*2+2)=B7 (L.drop i)++d.drop ((i+1)*2+(B7 (L.drop i)).length):=by
  unfold DE;rw[Ci]
  conv=>lhs;rw[show i*2+2=(d.take ((i+1)*2)).length from by rw[I];omega]
  rw[W9]
 have E:(B7 (L.take i)++[A0 t,A0 v]++B7 (L.drop i)).length=(L.length+1)*2:=by
  simp only[B3,GA,z,BK,CA,Ja];omega
 unfold DY;rw[O,W,U9,<-Ci,<-E,JP]
structure Iw (w w':gx) (lv:gy) (L':gD Pt) (lv':gy):Prop where
 Bp:Ck w' lv' L'
 Am:A4 (λk=>lv.ownBlock=some k) w w'
 AB:∀g,lv'.ownBlock=some g->lv.ownBlock=some g\/w.heap.size<=g
def A1i(w:gx)(g cap:Nat)(L:gD Pt)(i z:Nat)(t v:Int)(hL:Ck w (AA g L.length cap) L)(hi:i<L.length)(O:L.length+1<=cap)(hsm:L.length<1099511627776)(hv:w.heap[z]?=some (.cells #[A0 t,A0 v] 70 (0,0)))(aB:z≠g):
 Ag 139 #[AA g L.length cap,A0 i,AA z 1 1] w λe w'=>∃lv',e=.returned lv'/\Iw w w' (AA g L.length cap) (L.take i++(t,v):: L.drop i) lv':=by
 have⟨cur,hg,hcs,htake,_,hcm⟩:=SX hL;unfold maxLen at hcm;have⟨i0,hi0,hz0,hz1,hz2⟩:=DL Tryz.cr;have aJ:∀lb cb,(callFunc 181 #[AA z 1 1,.slice (some (A9 g ((i+1)*2))) lb cb]).run Tryz.prog w=.ok (.value (.bool false)) w:=λlb cb=>by
  have aL:∀w,(Go.sizeOf 70).run Tryz.prog w=.ok 2 w:=λw=>by simp[sizeOf,typeInfo,hi0,hz1]
  rw[Ys func181 (by kernel_rfl) (by kernel_rfl) (by kernel_rfl) (e:=Extern.SlicesOverlaps.overlaps #[66,66] #[4]) (by kernel_rfl),
   Lib.run_overlaps_apart w 66 4 70 underlying66 2 aL (A9 z 0) (A9 g ((i+1)*2)) 1 1 lb cb aB 70 70 2 cur.size (by simp[World.shape?,hv]) (by simp[World.shape?,hg]) (by rw[hcs];omega) (by simp[World.frozen?,hv]) (by simp[World.frozen?,hv])]
  rfl
 have aG:(L.length+1)*2<=cur.toList.length:=by have:=Mf (xs:=cur);omega
 have d:(DE cur.toList L i).length=cap*2:=by rw[Uj _ _ _ (by omega) aG,Mf,hcs]
 have aF:(B7 (L.drop i)).length=(L.length-i)*2:=by rw[GA,Cz]
 have aI:cur.toList.take (i*2)=B7 (L.take i):=by
  rw[show i*2=min (i*2) (L.length*2) from by omega,<-KF,htake,OE]
 have aM:∀(x y:Nat),Addr.add (A9 g x) y=(A9 g (x+y)):=λx y=>by unfold Addr.add;by_cases h:y=0<;>simp[h]
 have aN:∀(y:Nat),Addr.add (A9 z 0) y=(A9 z y):=λy=>by unfold Addr.add;by_cases h:y=0<;>simp[h]
 have aD:Hid (∀X I sc,(Builtin.copy_ #[66,66] X #[.slice (some (A9 g ((i+1)*2))) (L.length-i) I,.slice (some (A9 g (i*2))) (L.length+1-i) sc]).run Tryz.prog w.drew=.ok (goInt ((L.length-i:Nat):Int)) (w.drew.setRow g (DE cur.toList L i).toArray)):=λX I sc=>
  Mt w.drew _ _ X 70 i0 2 g ((i+1)*2) _ I (A9 g (i*2)) _ sc (L.length-i) cur 70 (B7 (L.drop i)) underlying66 hi0 hz1 hg (by simp only[VO];split<;>omega) aF
   (λj u E=>by
    rw[aM];refine Bv (w:=w) hL (g:=g) rfl ?_
    rw[<-MG,Is]at E;exact E)
   (by rw[aF,hcs];omega) (Lb _)
 have aA:Hid (∀X I,(Builtin.copy_ #[66,66] X #[.slice (some (A9 g (i*2))) (L.length+1-i) I,AA z 1 1]).run Tryz.prog (w.drew.setRow g (DE cur.toList L i).toArray)=.ok (goInt ((1:Nat):Int)) ((w.drew.setRow g (DE cur.toList L i).toArray).setRow g (DY (DE cur.toList L i) i t v).toArray)):=λX I=>by
  have W:(w.drew.setRow g (DE cur.toList L i).toArray).heap[g]?=some (.cells (DE cur.toList L i).toArray 70 (0,0)):=L4 w.drew g cur _ 70 _ hg;have:=Mt (P:=Tryz.prog) (w.drew.setRow g (DE cur.toList L i).toArray) 66 66 X 70 i0 2 g (i*2) (L.length+1-i) I (A9 z 0) 1 1 1 (DE cur.toList L i).toArray 70 [A0 t,A0 v] underlying66 hi0 hz1 W (by simp only[VO];split<;>omega) rfl
   (λj u E=>by
    rw[aN];have aH:(w.drew.setRow g (DE cur.toList L i).toArray).heap[z]?=some (.cells #[A0 t,A0 v] 70 (0,0)):=(K6 w.drew g z _ aB).trans hv;unfold World.cell?;rw[aH]
    match j,E with
    | 0,E=>simpa using E
    | 1,E=>simpa using E
    | j+2,E=>simp at E)
   (by simp only[LY,d,CA,Ja];omega) (by simp[Value.oneCell'])
  simpa[DY] using this
 have aO:Hid (Iw w ((w.drew.setRow g (DE cur.toList L i).toArray).setRow g (DY (DE cur.toList L i) i t v).toArray) (AA g L.length cap) (L.take i++(t,v):: L.drop i) (AA g (L.length+1) cap)):=by
  have W:(w.drew.setRow g (DE cur.toList L i).toArray).heap[g]?=some (.cells (DE cur.toList L i).toArray 70 (0,0)):=L4 w.drew g cur _ 70 _ hg;have aK:((w.drew.setRow g (DE cur.toList L i).toArray).setRow g (DY (DE cur.toList L i) i t v).toArray).heap[g]?=some (.cells (DY (DE cur.toList L i) i t v).toArray 70 (0,0)):=L4 _ g _ _ 70 _ W;have Y:(L.take i++(t,v):: L.drop i).length=L.length+1:=by simp;omega
  refine⟨?_,?_,λg' h'=>.inl h'⟩
  ·unfold Ck;rw[Y];refine⟨by rw[GA,Y],.inr ⟨g,cap,_,rfl,Ch _,aK,O,by unfold maxLen;omega,?_,?_⟩⟩
   ·rw[LY,Pj _ _ _ _ (by rw[d];omega),d]
   ·exact A1s L i (by omega) t v cur.toList aI aG
  ·refine⟨rfl,rfl,rfl,by simp,λk hk hn=>?_⟩;have aE:k≠g:=λe=>hn (by simp[Value.ownBlock,e]);rw[K6 _ g k _ aE,K6 _ g k _ aE];rfl
 have q1:((i:Int)==(L.length:Int))=false:=by simp;omega
 have q2:¬(cap=i):=by omega
 have q3:¬(cap=i+1):=by omega
 have q4:(i:Int)<=(L.length:Int):=by omega
 have q7:((L.length:Int)+1).toNat=L.length+1:=by omega
 have q8:((i:Int)+1).toNat=i+1:=by omega
 have q9:(i:Int)+1<=(L.length:Int)+1:=by omega
 have q10:=BJ i;have q11:(i:Int)<=(L.length:Int)+1:=by omega
 have q13:(0:Int)<=(i:Int)+1:=by omega
 have q12:IntKind.i64.wrap ((i:Int)+1)=(i:Int)+1:=by simp only[JV];omega
 go_enter func139,ntmps139
 go_wp2_with (simp only[aJ]);refine KU 8 (by kernel_rfl) (by kernel_rfl) ?_;simp only[LM,FJ,Fp,DH,Dl]
 repeat still_step
 refine KV ?_;refine Mj _ rfl (.tmp 73) (.tmp 76) 66 66 rfl _ _ (by rfl) (by rfl) (aD.o _ _ _) ?_;go_wp2_with (refine Mj _ rfl (.tmp 80) (.tmp 81) 66 66 rfl _ _ (by rfl) (by rfl) (aA.o _ _) ?_);go_ret;exact⟨_,rfl,aO.o⟩
def A1k(w:gx)(W:Option Addr)(cap:Nat)(L:gD Pt)(vb:Nat)(t v:Int)(hL:Ck w (.slice W L.length cap) L)(hsm:L.length<1099511627776)(hv:w.heap[vb]?=some (.cells #[A0 t,A0 v] 70 (0,0))):
 Ag 139 #[.slice W L.length cap,A0 L.length,AA vb 1 1] w λe w'=>∃lv',e=.returned lv'/\Iw w w' (.slice W L.length cap) (L.take L.length++(t,v):: L.drop L.length) lv':=by
 have⟨i0,hi0,hz0,hz1,hz2⟩:=DL Tryz.cr;have⟨_,_,he,h1,h2,_,h4,h5⟩:=B8 hL;cases he;unfold maxLen at h2;have O:Hid (Src Tryz.prog 2 66 (AA vb 1 1) 1 [A0 t,A0 v] w):=Src.cc underlying66 hv 1 1 rfl (by simp[Value.oneCell']);have Y:Hid (∀z d h,App w h 70 2 (.slice W L.length cap) (.slice z (L.length+1) d) (L.length+1) (B7 L++[A0 t,A0 v])->Iw w h (.slice W L.length cap) (L.take L.length++(t,v):: L.drop L.length) (.slice z (L.length+1) d)):=by
  intro z d h E;refine⟨?_,E.Am λk hk=>hk,λg hg=>?_⟩
  ·have:=E.AB;unfold Ck;rw[El (Ao _),It (Ao _),Lc,B3];exact this
  ·rcases E.BY with e|e
   ·rw[e]at hg;exact .inl hg
   ·rw[e]at hg;cases hg;exact .inr (Ao _)
 have aA:=A1 hL;have q4:(0:Int)<=(L.length:Int):=Gu _;have X:(L.length+1)*16<=140737488355328:=by omega
 by_cases hc:cap=L.length
 ·subst hc
  go_enter func139,ntmps139
  go_wp2_with (at_builtin;refine CU rfl (.tmp 23) (.tmp 24) 66 66 rfl 70 i0 _ 2 16 underlying66 hi0 hz0 hz1 hz2 rfl (by decide) _ L.length (B7 L) (by rfl) aA.o _ 1 _ (by rfl) O.o X ?_;intro z d h E;have I:=A1 (Y.o z d h E));go_ret;exact⟨_,rfl,I.o⟩
 ·go_enter func139,ntmps139
  go_wp2_with (at_builtin;refine CU rfl (.tmp 23) (.tmp 24) 66 66 rfl 70 i0 _ 2 16 underlying66 hi0 hz0 hz1 hz2 rfl (by decide) _ L.length (B7 L) (by rfl) aA.o _ 1 _ (by rfl) O.o X ?_;intro z d h E;have I:=A1 (Y.o z d h E));go_ret;exact⟨_,rfl,I.o⟩
def A1r(L:gD Pt)(i:Nat)(W:i<=L.length)(t v:Int)(c:gD gy)(d:c.take (i*2)=B7 (L.take i))(hlen:(L.length+1)*2<=c.length):
 (DE (DY c i t v) L i).take ((L.length+1)*2)=B7 (L.take i++(t,v):: L.drop i)/\(DE (DY c i t v) L i).length=c.length:=by
 have z:(B7 (L.drop i)).length=(L.length-i)*2:=by rw[GA,Cz]
 have h:(DY c i t v).length=c.length:=Pj c i t v (by omega);refine⟨?_,by rw[Uj _ _ _ W (by omega),h]⟩;have I:(B7 (L.take i)++[A0 t,A0 v]).length=(i+1)*2:=by
  simp only[B3,GA,BK,CA,Ja];omega
 have O:(DY c i t v).take ((i+1)*2)=B7 (L.take i)++[A0 t,A0 v]:=by
  unfold DY;rw[d,<-I,JP]
 have E:(B7 (L.take i)++[A0 t,A0 v]++B7 (L.drop i)).length=(L.length+1)*2:=by
  rw[B3,I,z];omega
 unfold DE;rw[O,U9,<-E,JP]
def A1j(w:gx)(g cap:Nat)(L:gD Pt)(i vb:Nat)(t v:Int)(hL:Ck w (AA g L.length cap) L)(hi:i<L.length)(hroom:cap<L.length+1)(hsm:L.length<1099511627776)(hv:w.heap[vb]?=some (.cells #[A0 t,A0 v] 70 (0,0))):
 Ag 139 #[AA g L.length cap,A0 i,AA vb 1 1] w λe w'=>∃lv',e=.returned lv'/\Iw w w' (AA g L.length cap) (L.take i++(t,v):: L.drop i) lv':=by
 have⟨cur,hg,hcs,htake,hnc,hcm⟩:=SX hL;unfold maxLen at hcm;obtain rfl:cap=L.length:=by omega
 have⟨i0,hi0,hz0,hz1,hz2⟩:=DL Tryz.cr;have aM:(B7 (L.drop i)).length=(L.length-i)*2:=by rw[GA,Cz]
 have X:∀(b x y:Nat),Addr.add (A9 b x) y=(A9 b (x+y)):=λb x y=>by unfold Addr.add;by_cases h:y=0<;>simp[h]
 have aH:(Builtin.firstCells i0.size i (AA g i L.length)).run Tryz.prog w.drew=.ok (B7 (L.take i)).toArray w.drew:=
  RM w.drew i0.size i (A9 g 0) i L.length (B7 (L.take i)) (by rw[hz1,GA,BK];omega) (λj u d=>by
   rw[X,Ha];refine Bv (w:=w) hL (g:=g) rfl ?_;rw[<-OE,ND]at d;split at d
   ·exact d
   ·cases d)
 have z:=Yt (P:=Tryz.prog) w 66 3 66 70 i0 _ .i64 underlying66 HZ hi0 hz0 (by omega) (some (A9 g 0)) i L.length (B7 (L.take i)) aH (L.length+1-i) (by omega) (by omega) (by omega) (by rw[hz2];omega) (by rw[hz2];exact growslice_fits (by omega) (by omega));rw[show i+(L.length+1-i)=L.length+1 from by omega,show ((L.length+1-i:Nat):Int)=(L.length:Int)+1-(i:Int) from by omega]at z;obtain⟨I,aN⟩:∃I,grownCap w (L.length+1) L.length 70=I:=⟨_,rfl⟩;have aA:=grownCap_ge w (L.length+1) L.length 70;have aO:grownCap w (L.length+1) L.length 70<=maxLen:=grownCap_le_maxLen w (L.length+1) L.length 70 (by unfold maxLen;omega);rw[aN]at z aA aO;obtain⟨c0,O⟩:∃c0,(B7 (L.take i)).toArray++Builtin.zeroCells (Value.agg #[A0 0,A0 0]).cells (L.length+1-i)++Builtin.zeroCells (Value.agg #[A0 0,A0 0]).cells (I-(L.length+1))=c0:=⟨_,rfl⟩;have E:c0.toList.length=I*2:=by
  rw[<-O];have e1:(Value.agg #[A0 0,A0 0]).cells.size=2:=rfl;simp only[QH,B3,Mf,size_zeroCells,e1,GA,BK];omega
 have aL:c0.toList.take (i*2)=B7 (L.take i):=by
  rw[<-O,QH,QH,Ci];have:(B7 (L.take i)).length=i*2:=by rw[GA,BK];omega
  rw[<-this,JP]
 rw[O]at z;unfold maxLen at aO;have aI:((w.drew.aC c0 70)).heap[w.heap.size]?=some (.cells c0 70 (0,0)):=Bl w.drew _;have aQ:=By hv;have aS:=By hg;have aP:((w.drew.aC c0 70)).heap[vb]?=some (.cells #[A0 t,A0 v] 70 (0,0)):=(CY w.drew _ _ aQ).trans hv;have aF:Hid (∀Y W,(Builtin.copy_ #[66,66] Y #[.slice (some (A9 w.heap.size (i*2))) (L.length+1-i) W,AA vb 1 1]).run Tryz.prog (w.drew.aC c0 70)=.ok (goInt ((1:Nat):Int)) ((w.drew.aC c0 70).setRow w.heap.size (DY c0.toList i t v).toArray)):=λY W=>by
  have:=Mt (P:=Tryz.prog) (w.drew.aC c0 70) 66 66 Y 70 i0 2 w.heap.size (i*2) (L.length+1-i) W (A9 vb 0) 1 1 1 c0 70 [A0 t,A0 v] underlying66 hi0 hz1 aI (by simp only[VO];split<;>omega) rfl
   (λj u d=>by
    rw[X,Ha];unfold World.cell?;rw[aP]
    match j,d with
    | 0,d=>simpa using d
    | 1,d=>simpa using d
    | j+2,d=>simp at d)
   (by rw[<-Mf,E];simp only[CA,Ja];omega) (by simp[Value.oneCell'])
  simpa[DY] using this
 have aK:(DY c0.toList i t v).length=I*2:=by rw[Pj _ _ _ _ (by omega),E]
 have aJ:((w.drew.aC c0 70).setRow w.heap.size (DY c0.toList i t v).toArray).heap[w.heap.size]?=some (.cells (DY c0.toList i t v).toArray 70 (0,0)):=L4 _ w.heap.size c0 _ 70 _ aI;have aD:Hid (∀Y W sc,(Builtin.copy_ #[66,66] Y #[.slice (some (A9 w.heap.size ((i+1)*2))) (L.length-i) W,.slice (some (A9 g (i*2))) (L.length-i) sc]).run Tryz.prog ((w.drew.aC c0 70).setRow w.heap.size (DY c0.toList i t v).toArray).drew=.ok (goInt ((L.length-i:Nat):Int)) (((w.drew.aC c0 70).setRow w.heap.size (DY c0.toList i t v).toArray).drew.setRow w.heap.size (DE (DY c0.toList i t v) L i).toArray)):=λY W sc=>
  Mt (P:=Tryz.prog) ((w.drew.aC c0 70).setRow w.heap.size (DY c0.toList i t v).toArray).drew 66 66 Y 70 i0 2 w.heap.size ((i+1)*2) (L.length-i) W (A9 g (i*2)) (L.length-i) sc (L.length-i) (DY c0.toList i t v).toArray 70 (B7 (L.drop i)) underlying66 hi0 hz1 aJ (by simp) aM
   (λj u d=>by
    rw[X];have h0:w.cell? (A9 g (i*2+j))=some u:=by
     refine Bv (w:=w) hL (g:=g) rfl ?_;rw[<-MG,Is]at d;exact d
    refine(DO ?_).trans h0
    exact(K6 _ w.heap.size g _ (by omega)).trans (CY w.drew _ _ aS))
   (by rw[aM,LY,aK];omega) (Lb _)
 have aT:Hid (Iw w (((w.drew.aC c0 70).setRow w.heap.size (DY c0.toList i t v).toArray).drew.setRow w.heap.size (DE (DY c0.toList i t v) L i).toArray) (AA g L.length L.length) (L.take i++(t,v):: L.drop i) (AA w.heap.size (L.length+1) I)):=by
  have aR:(((w.drew.aC c0 70).setRow w.heap.size (DY c0.toList i t v).toArray).drew.setRow w.heap.size (DE (DY c0.toList i t v) L i).toArray).heap[w.heap.size]?=some (.cells (DE (DY c0.toList i t v) L i).toArray 70 (0,0)):=L4 _ w.heap.size _ _ 70 _ aJ;have aB:(L.take i++(t,v):: L.drop i).length=L.length+1:=by simp;omega
  have⟨k1,k2⟩:=A1r L i (by omega) t v c0.toList aL (by omega);refine⟨?_,?_,λg' h'=>by simp[Value.ownBlock]at h';exact .inr (by omega)⟩
  ·unfold Ck;rw[aB];refine⟨by rw[GA,aB],.inr ⟨w.heap.size,I,_,rfl,Ch _,aR,aA,by unfold maxLen;omega,?_,k1⟩⟩;rw[LY,k2,E]
  ·refine⟨rfl,rfl,rfl,by simp,λk hk hn=>?_⟩;(have aG:k≠w.heap.size:=by omega);rw[K6 _ _ k _ aG];exact(K6 _ _ k _ aG).trans (CY w.drew _ _ hk)
 have q1:((i:Int)==(L.length:Int))=false:=by simp;omega
 have q2:¬(I=i):=by omega
 have q3:¬(I=i+1):=by omega
 have q3':¬(L.length=i):=by omega
 have q4:(i:Int)<=(L.length:Int):=by omega
 have q8:((i:Int)+1).toNat=i+1:=by omega
 have q9:(i:Int)+1<=(L.length:Int)+1:=by omega
 have q10:=BJ i;have q11:(i:Int)<=(L.length:Int)+1:=by omega
 have q13:(0:Int)<=(i:Int)+1:=by omega
 have q12:IntKind.i64.wrap ((i:Int)+1)=(i:Int)+1:=by simp only[JV];omega
 have q14:IntKind.i64.wrap ((L.length:Int)+1-(i:Int))=(L.length:Int)+1-(i:Int):=by simp only[JV];omega
 have aE:=A1 z
 go_enter func139,ntmps139
 go_wp2_with (first
  | (at_builtin;refine Lib.wpList_append_run _ rfl (.tmp 34) (.tmp 39) 66 3 rfl _ _ (by rfl) (by rfl) _ _ aE.o ?_)
  | (refine Mj _ rfl (.tmp 43) (.tmp 44) 66 66 rfl _ _ (by rfl) (by rfl) (aF.o _ _) ?_))
 refine KU 8 (by kernel_rfl) (by kernel_rfl) ?_;simp only[LM,FJ,Fp,DH,Dl]
 repeat still_step
 refine KV ?_;refine Mj _ rfl (.tmp 50) (.tmp 53) 66 66 rfl _ _ (by rfl) (by rfl) (aD.o _ _ _) ?_;go_wp2;go_ret;exact⟨_,rfl,aT.o⟩
def A1l(w:gx)(E:Option Addr)(cap:Nat)(L:gD Pt)(i h:Nat)(t v:Int)(I:Ck w (.slice E L.length cap) L)(hi:i<=L.length)(z:L.length<1099511627776)(Y:w.heap[h]?=some (.cells #[.int .i64 t,.int .i64 v] 70 (0,0)))(W:(Value.slice E L.length cap).ownBlock≠some h):
 Calls Tryz.prog 139 #[.slice E L.length cap,.int .i64 i,.slice (some ⟨h,0,none⟩) 1 1] w λe w'=>∃lv',e=.returned lv'/\Iw w w' (.slice E L.length cap) (L.take i++(t,v):: L.drop i) lv':=by
 by_cases X:i=L.length
 ·subst X;exact A1k w E cap L h t v I z Y
 ·have⟨_,_,he,h1,h2,h3,h4,h5⟩:=B8 I;cases he;obtain⟨g,rfl⟩:=h3 (by omega);have O:h≠g:=λe=>W (by simp[Value.ownBlock,e]);by_cases d:L.length+1<=cap
  ·exact A1i w g cap L i h t v I (by omega) d z Y O
  ·exact A1j w g cap L i h t v I (by omega) (by omega) z Y
def Us{l:gD Pt}{t:Int}(h:F5 l t=true):∃d:BF l t<l.length,(l[BF l t]'d).1=t:=by
 unfold F5 at h;by_cases d:BF l t<l.length
 ·rw[Dz d]at h;exact⟨d,by simpa using h⟩
 ·rw[M4 (by omega)]at h;cases h
def Ug(l:gD Pt)(t v:Int):Cc l t v=if F5 l t then l.set (BF l t) (t,v) else l.take (BF l t)++(t,v):: l.drop (BF l t):=by
 rw[Ph];show _++_::(if F5 l t then _ else _)=_;by_cases h:F5 l t=true
 ·have⟨hl,_⟩:=Us h;rw[Ai h,Ai h,A4s,Ai hl]
 ·rw[Af h,Af h]
def Uf{l:gD Pt}{t v:Int}(h:l.length<1099511627775):(Cc l t v).length<1099511627776:=by
 have:(Cc l t v).length<=l.length+1:=by
  rw[Ug];split
  ·simp
  ·simp;omega
 omega
def Zg(w:gx)(d z:Nat)(cs:Array gy)(T:Nat)(hT:T≠70)(L:gD Pt)(lv:gy)(t v:Int)(h:HI w d z cs T L lv)(aJ:L.length<1099511627775):
 Ag 102 #[.pointer (some (A9 d z)),.agg #[A0 t,A0 v]] w (Aj (.tuple #[]) λw'=>∃lv',I1 w w' d z cs T lv (Cc L t v) lv'):=by
 have H:=A1 h;obtain⟨O,cap,rfl,h1,h2,h3,h4,h5⟩:=B8 h.Bp;unfold maxLen at h2;have aX:=A1 h3;have aK:=Ug L t v;have aM:=Jm L t;obtain⟨i,aD⟩:∃i,BF L t=i:=⟨_,rfl⟩;obtain⟨hs,aF⟩:∃hs,F5 L t=hs:=⟨_,rfl⟩;have a0:Hid (hs=true->i<L.length):=λe=>by
  have⟨q,_⟩:=Us (aF.trans e);rw[aD]at q;exact q
 have aW:Hid (∀W,A4 Aa w W->Ag 116 #[.pointer (some (A9 d z)),A0 t] W (Aj (.tuple #[A0 i,.bool hs]) λw'=>A4 Aa W w')):=λW hW=>
  (MZ W d z L _ t (H.o.Am hW).b3).mono (by rintro e w'⟨rfl,h⟩;rw[aD,aF];exact⟨rfl,h⟩)
 rw[aD,aF]at aK;rw[aD]at aM;have aO:=A1 aK;have aR:=Bl w (.cells #[A0 t,A0 v] 70);have aZ:=A1 aR;have hbl:=By h.Ae;have aQ:L.length<1099511627776:=h.CE;have iz:=BJ i;have aL:Hid (∀W,A4 Aa (w.aC #[A0 t,A0 v] 70) W->A4 Aa w W/\W.heap[w.heap.size]?=some (.cells #[A0 t,A0 v] 70 (0,0))/\HI W d z cs T L (.slice O L.length cap)):=λW hW=>by
  have h1:A4 Aa w W:=((A4.C _ w).aj _).tr hW;exact⟨h1,(hW.Al _ (by simp) (λh=>h)).trans aZ.o,H.o.Am h1⟩
 cases hs with
 | true=>
  have aN:=a0.o rfl;obtain⟨g,rfl⟩:=aX.o (by omega);have i1:(i:Int)<(L.length:Int):=by omega
  have aH:Hid (∀W n,A4 Aa (w.aC #[A0 t,A0 v] 70) W->I1 w (((W.drewN n).sC g (i*2) (A0 t)).sC g (i*2+1) (A0 v)) d z cs T (AA g L.length cap) (Cc L t v) (AA g L.length cap)):=by
   intro W n hW;have⟨X,k2,k3⟩:=aL.o W hW;have s1:=((Au k3.Bp (w':=W.drewN n) λ_ _=>rfl).stored (i*2) (A0 t)).1;have s2:=(s1.stored (i*2+1) (A0 v)).1;have e:=La L i (t,v) aN;simp only at e;rw[e]at s2;have⟨ce,hce⟩:=Bb k3.Bp (g:=g) rfl;(have aA:d≠g:=λe=>by subst e;rw[k3.Ae]at hce;cases hce;exact hT rfl);have I:Cc L t v=L.set i (t,v):=aO.o;have aE:cs.setIfInBounds z (AA g L.length cap)=cs:=by
    have⟨aG,he⟩:=QJ.1 H.o.BY;apply A4U;intro k;by_cases hk:z=k
    ·subst hk;simp[aG,he]
    ·rw[Wq hk]
   refine⟨⟨?_,by rw[aE];exact H.o.BY,?_,Lx H.o.G7 t v,Uf aJ⟩,?_,λg hg=>.inl hg⟩
   ·rw[aE,Fw _ _ _ _ aA,Fw _ _ _ _ aA];exact k3.Ae
   ·rw[I];unfold Ck;rw[HK];exact s2
   ·exact(((X.a7 n).ai (S':=λk=>k=d\/(AA g L.length cap).oB k) (λ_ _ h=>h.elim)).ao (b:=g) (.inr rfl) (i*2) _).ao (b:=g) (.inr rfl) (i*2+1) _
  go_enter func102,ntmps102
  go_wp2_with (fail);refine(aW.o _ ((A4.C _ w).aj _)).k ?_;rintro Y X;have aP:=A1 X;have⟨k2,k3,k4⟩:=aL.o Y X;have c0:=k4.b3.CO;have p0:Y.cell? (A9 w.heap.size 0)=some (A0 t):=by simp[World.cell?,k3]
  have p1:Y.cell? (A9 w.heap.size 1)=some (A0 v):=by simp[World.cell?,k3]
  have⟨o0,o1⟩:=k4.Bp.bu i aN;have z0:=EK k4.Bp (g:=g) rfl (i*2);have z1:=EK k4.Bp (g:=g) rfl (i*2+1);go_wp2;refine KU 7 (by kernel_rfl) (by kernel_rfl) ?_;simp only[LM,FJ,Fp,DH,Dl]
  repeat still_step
  refine KV ?_;go_wp2;refine JK (Jk rfl _ _ _) rfl ?_;exact⟨rfl,_,aH.o Y 1 aP.o⟩
 | false=>
  have aV:Hid (∀W,A4 Aa (w.aC #[A0 t,A0 v] 70) W->Ag 139 #[.slice O L.length cap,A0 i,AA W.heap.size 1 1] (W.aC #[A0 t,A0 v] 70) λe w'=>∃lv',e=.returned lv'/\Iw (W.aC #[A0 t,A0 v] 70) w' (.slice O L.length cap) (L.take i++(t,v):: L.drop i) lv'):=λW hW=>by
   have⟨X,k2,k3⟩:=aL.o W hW;exact A1l _ O cap L i W.heap.size t v (Au k3.Bp λg hg=>CY _ _ _ (Aw k3.Bp hg)) aM aQ (Bl W _) (λe=>by have:=Aw k3.Bp e;omega)
  have aH:Hid (∀W E lv',A4 Aa (w.aC #[A0 t,A0 v] 70) W->Iw (W.aC #[A0 t,A0 v] 70) E (.slice O L.length cap) (L.take i++(t,v):: L.drop i) lv'->
   (E.cell? (A9 d z)=some (.slice O L.length cap)/\E.cell? (A9 w.heap.size 0)=some (A0 t)/\E.cell? (A9 w.heap.size 1)=some (A0 v))/\E.frozen? (A9 d z)=false/\I1 w (E.sC d z lv') d z cs T (.slice O L.length cap) (Cc L t v) lv'/\∃a c,lv'=.slice a (L.length+1) c):=by
   intro W E lv' hW hI;have⟨X,k2,k3⟩:=aL.o W hW;have aS:(Value.slice O L.length cap).ownBlock≠some d:=λe=>by
    have⟨c,hh⟩:=Bb k3.Bp e;rw[k3.Ae]at hh;cases hh;exact hT rfl
   have aT:(Value.slice O L.length cap).ownBlock≠some w.heap.size:=λe=>by
    have:=Aw H.o.Bp e;omega
   have aB:E.heap[d]?=some (.cells cs T (0,0)):=(hI.Am.Al d (by have:=By k3.Ae;simp;omega) aS).trans ((CY _ _ _ (By k3.Ae)).trans k3.Ae);have aI:E.heap[w.heap.size]?=some (.cells #[A0 t,A0 v] 70 (0,0)):=(hI.Am.Al _ (by have:=By k2;simp;omega) aT).trans ((CY _ _ _ (By k2)).trans k2);(have aU:(L.take i++(t,v):: L.drop i).length=L.length+1:=by simp;omega);(have I:Cc L t v=L.take i++(t,v):: L.drop i:=by have:=aO.o;simpa using this);refine⟨⟨by simp[World.cell?,aB,H.o.BY],by simp[World.cell?,aI],by simp[World.cell?,aI]⟩,by simp[World.frozen?,aB],⟨⟨BQ aB,?_,?_,Lx H.o.G7 t v,Uf aJ⟩,?_,?_⟩,?_⟩
   ·have aG:z<cs.size:=(QJ.1 H.o.BY).1;simp[aG]
   ·rw[I];refine Au hI.Bp λg hg=>?_;have aA:g≠d:=λe=>by
     have⟨c,hh⟩:=Bb hI.Bp hg;subst e;rw[aB]at hh;cases hh;exact hT rfl
    exact Fw _ _ _ _ (λe=>aA (by simpa using e))
   ·have c1:A4 (λk=>k=d\/(Value.slice O L.length cap).oB k) w E:=((X.aj (.cells #[A0 t,A0 v] 70)).ai (λ_ _ h=>h.elim)).AH hI.Am (λx hx _=>.inr hx);exact c1.ao (.inl rfl) z _
   ·intro g hg;rcases hI.AB g hg with h|h
    ·exact .inl h
    ·right;have:=X.Ak;simp at h;omega
   ·have⟨a,c,e,_⟩:=B8 hI.Bp;rw[aU]at e;exact⟨a,c,e⟩
  go_enter func102,ntmps102
  go_wp2_with (fail);refine(aW.o _ ((A4.C _ w).aj _)).k ?_;rintro Y X;have aP:=A1 X;have⟨k2,k3,k4⟩:=aL.o Y X;have c0:=k4.b3.CO;have p0:Y.cell? (A9 w.heap.size 0)=some (A0 t):=by simp[World.cell?,k3]
  have p1:Y.cell? (A9 w.heap.size 1)=some (A0 v):=by simp[World.cell?,k3]
  go_wp2;refine FN (λw'=>w'.cell? (A9 d z)=some (.slice O L.length cap)/\w'.cell? (A9 w.heap.size 0)=some (A0 t)/\w'.cell? (A9 w.heap.size 1)=some (A0 v)) 9
   (Ba [0,1,2,3,4,5,6,7,8] [7,8]) (by kernel_rfl) (by kernel_rfl) (λ_ _ _ _ _ h=>h) ⟨c0,p0,p1⟩ ?_
  iterate 7 (refine E1 (v:=?_) rfl (by rfl) ?_ ?_;rotate_left;(· (intro w' hS;(try dsimp only at hS);go_simp;try with_reducible rfl));(try simp only[BO]))
  refine Dv rfl (by rfl) (λK hK=>?_);go_simp;refine hK _ _ ?_ (λhS=>?_)
  ·simp[World.cell?_alloc_some,c0,p0,p1]
  (try simp only[BO])
  refine Dv rfl (by rfl) (λK hK=>?_);go_simp;refine(aV.o Y.drew aP.o.aa).mono ?_;rintro e E⟨lv',rfl,hI⟩;obtain⟨f1,f2,f3,a3,d3,rfl⟩:=aH.o Y.drew E lv' aP.o.aa hI;have aY:=A1 f3;refine hK _ _ f1 (λhS=>?_);obtain⟨f1,-,-⟩:=f1
  (try simp only[BO])
  refine Fx ?_;simp only[DH,Dl];go_wp2;go_end0;exact⟨rfl,_,aY.o⟩
end
section
open Go
section
variable{P:Program}{Q:Exit->Act->gx->Prop}
def R8(y:Nat->gy)(i:Nat)(v:gy):Nat->Value:=λj=>if j=i then v else y j
def GI(o:Oper):gD Nat:=(o.after.toList.filter (Region.binds .any)).map (·.on)
def FL(G:Nat->gy->gx->Prop)(y:Nat->gy)(w:gx):gD Nat->Prop
 | []=>True
 | j::r=>G j (y j) w/\FL G y w r
def FL.of{G:Nat->gy->gx->Prop}{y:Nat->gy}{w:gx}:∀(l:gD Nat),(∀j∈l,G j (y j) w)->FL G y w l
 | [],_=>trivial
 | j::r,h=>⟨h j (by simp),FL.of r λk d=>h k (by simp[d])⟩
def Wm(P:Program)(ops:Array Oper)(A:(Nat->gy)->Act)(S:gx->Prop)(R:gx->gx->Prop)(G:Nat->gy->gx->Prop)(Q:Exit->Act->gx->Prop)(i:Nat)(o:Oper):Prop:=
 (∀y w,S w->FL G y w (GI o)->Region.wanted o (yielded ops (A y).tmps)=true->∀K:Act->gx->Prop,(∀v a' w',G i v w'->a'=(A y).put o.dst v->R w w'->S w'->K a' w')->o.wp P (A y) w K Q)/\
 (∀y w,S w->FL G y w (GI o)->Region.wanted o (yielded ops (A y).tmps)=false->G i undef w)/\
 (∀y v,(A y).put o.dst v=A (R8 y i v))
def Ge(P:Program)(ops:Array Oper)(A:(Nat->gy)->Act)(S:gx->Prop)(R:gx->gx->Prop)(G:Nat->gy->gx->Prop)(Q:Exit->Act->gx->Prop):Nat->gD Oper->Prop
 | _,[]=>True
 | i,o::r=>Wm P ops A S R G Q i o/\Ge P ops A S R G Q (i+1) r
def Ge.eT{ops:Array Oper}{A:(Nat->gy)->Act}{S:gx->Prop}{R:gx->gx->Prop}{G:Nat->gy->gx->Prop}:∀ {k:Nat} {l:gD Oper},Ge P ops A S R G Q k l->∀(i:Nat) (o:Oper),l[i]?=some o->Wm P ops A S R G Q (k+i) o
 | _,[],_,i,o,h=>by simp at h
 | k,o'::r,hh,0,o,h=>by
  have:o'=o:=by simpa using h
  subst this;exact hh.1
 | k,o'::r,hh,i+1,o,h=>by
  have:=Ge.eT hh.2 i o (by simpa using h)
  rwa [show k+1+i=k+(i+1) by omega]at this
def GJ(d:Array Bool):Nat->Nat
 | 0=>0
 | k+1=>GJ d k+(if d.getD k true then 0 else 1)
def V0(d:Array Bool)(i:Nat):∀n,n<=i->GJ (d.setIfInBounds i true) n=GJ d n
 | 0,_=>rfl
 | n+1,h=>by
  unfold GJ;rw[V0 d i n (by omega),MW true (by omega)]
def UY(d:Array Bool)(i:Nat)(I:d.getD i true=false):∀n,i<n->GJ d n=GJ (d.setIfInBounds i true) n+1
 | 0,h=>by omega
 | n+1,h=>by
  unfold GJ;by_cases z:i=n
  ·subst z;have L:i<d.size:=by
    rcases F9 i d.size with E | E
    ·exact E
    ·simp[Array.getElem?_eq_none E]at I
   rw[V0 d i i (Ao _),I];simp[L]
  ·rw[UY d i I n (by omega),MW true z];omega
def UW(d:Array Bool):∀n,GJ d n=0->∀j,j<n->d.getD j true=true
 | 0,_,j,h=>by omega
 | n+1,h,j,hj=>by
  unfold GJ at h;rcases F9 j n with z | z
  ·exact UW d n (by omega) j z
  ·(obtain rfl:j=n:=by omega);cases hg:d.getD j true with
   | true=>rfl
   | false=>rw[hg]at h;simp at h
def UZ(d:Array Bool):∀n,GJ d n≠0->∃j,j<n/\d.getD j true=false
 | 0,h=>absurd rfl h
 | n+1,h=>by
  cases hg:d.getD n true with
  | false=>exact⟨n,by omega,hg⟩
  | true=>
   unfold GJ at h;rw[hg]at h;have⟨j,hj,h2⟩:=UZ d n (by simpa using h);exact⟨j,by omega,h2⟩
def UX(m:Nat):∀n,n<=m->GJ (Array.replicate m false) n=n
 | 0,_=>rfl
 | n+1,h=>by
  unfold GJ;rw[UX m n (by omega)];have d:n<m:=by omega
  have:(Array.replicate m false).getD n true=false:=by simp[d]
  rw[this];simp
def N3(ops:Array Oper)(n:Nat):Bool:=
 decide (n<ops.size)&&Region.sinkB .any ops n&&Region.chainB .any ops n &&
  ((List.range n).all λi=>((ops[i]?).map λo=>o.after.all λe=>!Region.binds .any e||decide (e.on<i)).getD false) &&
  Region.seqB .any ops (ops.size-n) n (List.replicate n true++List.replicate (ops.size-n) false).toArray
def Z0{ops:Array Oper}{n:Nat}{z:Array Bool}(L:HeadInv .any ops n z)(hn:n<ops.size)(d:((List.range n).all λi=>((ops[i]?).map λo=>o.after.all λe=>!Region.binds .any e||decide (e.on<i)).getD false)=true):
 ∀(i:Nat),i<n->z.getD i true=false->∃k,k∈Region.ready .any ops z:=by
 intro i
 induction i using Nat.strongRecOn with
 | _ i ih=>
  intro hi W;have E:ops[i]?=some (ops[i]'(by omega)):=A4T (by omega);obtain⟨o,E⟩:∃o,ops[i]?=some o:=⟨_,E⟩;by_cases hall:∀e∈o.after,Region.binds .any e=true->z.getD e.on false=true
  ·exact⟨i,IM.2 ⟨W,o,E,hall⟩⟩
  ·simp only[Classical.not_forall]at hall;obtain⟨e,he,Y,I⟩:=hall;have O:=(NK.1 d) i (KH.2 hi);rw[E]at O;simp only[Iq,Option.getD_some,A4V]at O;have X:=O e he;rw[Y]at X;(have h3:e.on<i:=by simpa using X);refine ih e.on h3 (by omega) (getD_in (by rw[L.size];omega) ?_);cases h:z.getD e.on false with
   | true=>exact absurd h I
   | false=>rfl
def A18{l:gD Oper}{n:Nat}{A:(Nat->gy)->Act}{S:gx->Prop}{R:gx->gx->Prop}{G:Nat->gy->gx->Prop}(hB:N3 l.toArray n=true)(aM:Ge P l.toArray A S R G Q 0 (l.take n))(aK:∀j v w w',R w w'->S w'->G j v w->G j v w')(aH:∀y w,S w->(∀j,j<n->G j (y j) w)->wpList P l.toArray Q (l.drop n) (A y) w):
 ∀(f:Nat) (d:Array Bool) (y:Nat->gy) (w:gx),HeadInv .any l.toArray n d->GJ d n=f->S w->(∀j,j<n->d.getD j false=true->G j (y j) w)->
  wpAny P .any l.toArray Q (f+(l.toArray.size-n)) d (A y) w:=by
 simp only[N3,G3,E2]at hB;obtain⟨⟨⟨⟨hn,hs⟩,hc⟩,aB⟩,aG⟩:=hB;intro f
 induction f with
 | zero=>
  intro d y w z aA hS hG;have hall:=UW d n aA;have aN:=z.size;have E:∀j,j<n->d.getD j false=true:=λj O=>by
   have W:=hall j O;(have h2:j<d.size:=by omega);simp[h2]at W ⊢;exact W
  have hL:d=(List.replicate n true++List.replicate (l.toArray.size-n) false).toArray:=by
   refine Array.ext (by (simp[aN];have:n<l.length:=by simpa using hn);omega) λi W h2=>?_;rcases F9 i n with h|h
   ·have:=E i h;simp[W]at this;simp[this,h]
   ·have:=z.tail i h (by omega);simp[W]at this;simp[this,List.getElem_append,Nat.not_lt.2 h]
  rw[Ha];have aJ:(l.drop n).length=l.toArray.size-n:=by simp
  have:=QN (P:=P) (md:=.any) (ops:=l.toArray) (Q':=Q) (l.drop n) n d (A y) w (λj=>by simp[List.getElem?_drop]) (by rw[aJ,hL];exact aG) (aH y w hS λj O=>hG j O (E j O))
  rwa [aJ]at this
 | succ f ih=>
  intro d y w z aA hS hG;have⟨i0,hi0,hun0⟩:=UZ d n (by omega);have aE:f+1+(l.toArray.size-n)=(f+(l.toArray.size-n))+1:=by omega
  rw[aE];refine⟨λh0=>?_,λi hi=>?_⟩
  ·have⟨k,hk⟩:=Z0 z hn aB i0 hi0 hun0;rw[h0]at hk;cases hk
  ·have X:i<n:=by
    rcases F9 i n with h|h
    ·exact h
    ·exact absurd hi (Mn hs hc hn z _ i0 rfl hi0 hun0 i h)
   have⟨hun,o,ho,hall⟩:=IM.1 hi;have aL:(l.take n)[i]?=some o:=by
    rw[List.getElem?_take_of_lt X];simpa using ho
   have W:=(NK.1 aB) i (KH.2 X);rw[ho]at W;simp only[Iq,Option.getD_some,A4V]at W;have ob:=aM.eT i o aL;rw[Ha]at ob;have L:FL G y w (GI o):=by
    refine FL.of _ λj O=>?_;unfold GI at O;rw[Cl]at O;obtain⟨e,he,rfl⟩:=O;rw[GV]at he;(have aI:e∈o.after:=by simpa using he.1);have h2:=W e aI;rw[he.2]at h2;(have h3:e.on<i:=by simpa using h2);exact hG e.on (by omega) (hall e aI he.2)
   have I:∀v w',S w'->(R w w'\/w'=w)->G i v w'->wpAny P .any l.toArray Q (f+(l.toArray.size-n)) (d.setIfInBounds i true) ((A y).put o.dst v) w':=by
    intro v w' Y hR aF;rw[ob.2.2 y v];refine ih _ _ _ (z.set hi X) (by have:=UY d i hun n X;omega) Y λj O hl=>?_;unfold R8;by_cases aD:j=i
    ·subst aD;simpa using aF
    ·rw[Af aD];rw[MW false (Qd aD)]at hl;rcases hR with hR|rfl
     ·exact aK j _ w w' hR Y (hG j O hl)
     ·exact hG j O hl
   unfold wpOp;simp only[ho];split
   ·rename_i hw;exact .inl (ob.1 y w hS L hw _ λv a' w' aF aO hR Y=>aO ▸ I v w' Y (.inl hR) aF)
   ·rename_i hw;exact I _ w hS (.inr rfl) (ob.2.1 y w hS L (by simpa using hw))
def HN{id:Nat}{a:Act}{w:gx}{l:gD Oper}(n:Nat)(A:(Nat->gy)->Act)(O:Nat->gy)(S:gx->Prop)(R:gx->gx->Prop)(G:Nat->gy->gx->Prop)(X:P.follows .mixedOrders=true)(L:N3 l.toArray n=true)(Y:a=A O)(hS:S w.drew)(E:∀j v w w',R w w'->S w'->G j v w->G j v w')(I:Ge P l.toArray A S R G Q 0 (l.take n))(d:∀y w,S w->(∀j,j<n->G j (y j) w)->wpList P l.toArray Q (l.drop n) (A y) w):(Code.region id l.toArray true).wp P Q a w:=by
 have hn:n<l.toArray.size:=by
  simp only[N3,G3,E2]at L;exact L.1.1.1.1
 refine QM X ?_;have h:HeadInv .any l.toArray n (Array.replicate l.toArray.size false):=
  ⟨by simp,λj oj _ z=>(by rw[Kr]at z;cases z),λt _ W=>getD_in (by simpa using W) (Kr _ _)⟩
 have H:=A18 L I E d n _ O w.drew h (UX _ n (by omega)) hS (λj _ z=>by rw[Kr]at z;cases z);rw[show n+(l.toArray.size-n)=l.toArray.size by omega]at H;rw[Y];exact H
end
end
section
open Go.RowKit
def K1(s:Nat):Nat:=(s/2) ^^^ (3988292384*(s &&& 1))
def K0(s:Nat):Nat->Nat
 | 0=>s
 | n+1=>K1 (K0 s n)
def Mq(s:Nat)(b:UInt8):Nat:=K0 (s ^^^ b.toNat) 8
def AY(s:Nat)(bs:gD UInt8):Nat:=bs.foldl Mq s
def Vw(s:Nat):s &&& 1<=1:=Nat.and_le_right
def Rr(s:Nat)(h:s<4294967296):K1 s<4294967296:=by
 unfold K1;have:=Vw s;exact VK (n:=32) (by omega) (by omega)
def XG(s n:Nat)(h:s<4294967296):K0 s n<4294967296:=by
 induction n with
 | zero=>exact h
 | succ n ih=>exact Rr _ ih
def XF(s:Nat)(b:UInt8)(h:s<4294967296):Mq s b<4294967296:=by
 have:=b.toNat_lt;exact XG _ _ (VK (n:=32) (by omega) (by omega))
def JZ(s:Nat)(bs:gD UInt8)(h:s<4294967296):AY s bs<4294967296:=by
 unfold AY
 induction bs generalizing s with
 | nil=>exact h
 | cons b t ih=>exact ih _ (XF s b h)
def XC(s:Nat)(a b:gD UInt8):AY s (a++b)=AY (AY s a) b:=NF
def XB(s:Nat)(bs:gD UInt8)(k:Nat)(d:k<bs.length):AY s (bs.take (k+1))=Mq (AY s (bs.take k)) (bs[k]'d):=by
 rw[Dq d,XC];rfl
def A4b(w:gx)(s:Nat)(text:gC)(hs:s<4294967296)(hl:text.size<=9223372036854775807):
 Ag 165 #[.int .u32 s,.string text] w (Aj (.int .u32 (AY s text.data.toList)) λw'=>w=w'):=by
 go_enter func165,ntmps165
 go_wp2;go_loop [0,8] (λc i=>∃k x:Nat,k<=text.size/\i=A0 k/\c=.int .u32 x/\x<4294967296/\Hid (x=AY s (text.data.toList.take k))) (λ_ i=>text.size-(intOf i).toNat)
 ·exact⟨0,s,Ch _,rfl,rfl,hs,rfl⟩
 ·obtain⟨k,x,hk,rfl,rfl,hx,L⟩:=hrel;by_cases d:k<text.size
  ·have hb:=(text[k]'d).toNat_lt;have Y:bits .xor .u32 (x:Int) (((text[k]'d).toNat:Int) % 4294967296)=((x ^^^ (text[k]'d).toNat:Nat):Int):=by
    rw[show (((text[k]'d).toNat:Int) % 4294967296)=(((text[k]'d).toNat:Nat):Int) by omega];exact u32_xor_nat _ _ hx (by omega)
   have hy:x ^^^ (text[k]'d).toNat<4294967296:=VK (n:=32) (by omega) (by omega);have I:Hid (K0 (x ^^^ (text[k]'d).toNat) 8=AY s (text.data.toList.take (k+1))):=by
    unfold Hid;rw[XB s _ k (by simpa using d),<-L.o];simp[Mq];rfl
   generalize O:x ^^^ (text[k]'d).toNat=y at Y hy I;clear O hb L;go_wp2;clear Y;go_loop [0,17] (λc i=>∃j z:Nat,j<=8/\i=A0 j/\c=.int .u32 z/\z<4294967296/\Hid (z=K0 y j)) (λ_ i=>8-(intOf i).toNat)
   ·exact⟨0,y,Ch _,rfl,rfl,hy,rfl⟩
   ·obtain⟨j,z,hj,rfl,rfl,W,E⟩:=hrel;by_cases hj8:j<8
    ·have e1:bits .xor .u32 ((z:Int)/2) (3988292384*bits .and .u32 (z:Int) 1 % 4294967296)=((K1 z:Nat):Int):=by
      rw[show (1:Int)=((1:Nat):Int) from rfl,u32_and_nat z 1 W (by omega)];have:=Vw z;(have e2:(3988292384:Int)*((z &&& 1:Nat):Int) % 4294967296=((3988292384*(z &&& 1):Nat):Int):=by omega);rw[e2,show ((z:Int)/2)=((z/2:Nat):Int) by omega];exact u32_xor_nat _ _ (by omega) (by omega)
     have X:=Rr z W;(have h:Hid (K1 z=K0 y (j+1)):=by unfold Hid;rw[E.o];rfl);go_wp2;exact⟨⟨j+1,K1 z,by omega,by go_num,rfl,X,h⟩,by simp[intOf];omega⟩
    ·(obtain rfl:j=8:=by omega);(have h:Hid (z=AY s (text.data.toList.take (k+1))):=by unfold Hid;rw[E.o];exact I.o);go_wp2;exact⟨⟨k+1,z,by omega,by go_num,rfl,W,h⟩,by simp[intOf];omega⟩
  ·have h:Hid (x=AY s text.data.toList):=by
    unfold Hid;rw[L.o,El];simpa using by omega
   go_wp2;go_ret;rw[h.o];exact⟨rfl,rfl⟩
def extract_mk(l:gD UInt8)(i j:Nat):(ByteArray.mk l.toArray).extract i j=⟨((l.drop i).take (j-i)).toArray⟩:=by
 apply ByteArray.ext;simp[ByteArray.data_extract]
def Kw(a b:gD UInt8):(ByteArray.mk a.toArray)++(ByteArray.mk b.toArray)=⟨(a++b).toArray⟩:=by
 apply ByteArray.ext;simp[ByteArray.data_append]
def Fe:gD UInt8->Nat
 | []=>0
 | b::t=>b.toNat+256*Fe t
def A0O(a b:gD UInt8):Fe (a++b)=Fe a+256 ^ a.length*Fe b:=by
 induction a with
 | nil=>simp[Fe]
 | cons c t ih=>simp only[G2,Fe,ih,CA,KB];rw[Nat.mul_add,<-Qg,LS (256 ^ t.length) 256];omega
def A0M(bs:gD UInt8)(k:Nat)(d:k<bs.length):Fe (bs.take (k+1))=Fe (bs.take k)+(bs[k]'d).toNat*256 ^ k:=by
 rw[Dq d,A0O];simp[Fe,Nat.min_eq_left (Nat.le_of_lt d),Nat.mul_comm]
def A1g(w:gx)(text:gC)(hl:8<=text.size/\text.size<=9223372036854775807):
 Ag 168 #[.string text] w (Aj (A0 (wrap64 (Fe (text.data.toList.take 8):Nat))) λw'=>w=w'):=by
 obtain⟨hl1,hl2⟩:=hl
 go_enter func168,ntmps168
 go_wp2;go_loop [3,5] (λc i=>∃k x:Nat,k<=8/\i=A0 k/\c=.int .u64 x/\x<18446744073709551616/\Hid (x<256 ^ k)/\Hid (x=Fe (text.data.toList.take k))) (λ_ i=>8-(intOf i).toNat)
 ·exact⟨0,0,Ch _,rfl,rfl,by omega,(by unfold Hid;decide),rfl⟩
 ·obtain⟨k,x,hk,rfl,rfl,hx,I,X⟩:=hrel;by_cases hlt:k<8
  ·(have d:k<text.size:=by omega);have hb:=(text[k]'d).toNat_lt;have hb0:=hb;have h:Hid (x+(text[k]'d).toNat*256 ^ k=Fe (text.data.toList.take (k+1))):=by
    unfold Hid;rw[A0M _ k (by simpa using d),<-X.o];rfl
   generalize E:(text[k]'d).toNat=b at hb h;obtain⟨y,L,z,e1⟩:∃y,y=x+b*256 ^ k/\y<256 ^ (k+1)/\bits .or .u64 (x:Int) (IntKind.u64.wrap (((text[k]'d).toNat:Int)*2 ^ (8*k)))=((y:Nat):Int):=by
    have h1:=I.o;(have O:(256:Nat) ^ k=2 ^ (8*k):=by rw[Nat.pow_mul]);have h3:b*256 ^ k<=255*256 ^ k:=I4 _ (by omega);have h5:(256:Nat) ^ (k+1)<=256 ^ 8:=Nat.pow_le_pow_right (by omega) (by omega);refine⟨_,rfl,by omega,?_⟩;rw[E,IntKind.wrap_u64,show ((b:Int)*2 ^ (8*k))=((b*2 ^ (8*k):Nat):Int) by push_cast;rfl];rw[<-O,show ((b*256 ^ k:Nat):Int) % 18446744073709551616=((b*256 ^ k:Nat):Int) by omega];rw[u64_or_nat _ _ hx (by omega)]
    congr 1
    have h7:=Nat.shiftLeft_add_eq_or_of_lt (i:=8*k) (b:=x) (by rw[<-O];exact h1) b;rw[Nat.shiftLeft_eq,<-O]at h7;rw[Nat.or_comm,<-h7];omega
   have W:y<18446744073709551616:=by
    have h5:(256:Nat) ^ (k+1)<=256 ^ 8:=Nat.pow_le_pow_right (by omega) (by omega);omega
   (have aA:Hid (y=Fe (text.data.toList.take (k+1))):=by unfold Hid;rw[L];exact h.o);have Y:=A1 <| z;clear L E z h X I;go_wp2;exact⟨⟨k+1,y,by omega,by go_num,rfl,W,Y,aA⟩,by simp[intOf];omega⟩
  ·(obtain rfl:k=8:=by omega);go_wp2;go_ret;rw[X.o];exact⟨rfl,rfl⟩
def Hf(n:Nat)(k:Nat):gD UInt8:=(List.range k).map λi=>UInt8.ofNat (n/256 ^ i)
def A0Q(n k:Nat):(Hf n k).length=k:=by simp[Hf]
def A0P(n k:Nat):Hf n (k+1)=UInt8.ofNat n::Hf (n/256) k:=by
 simp only[Hf,List.range_succ_eq_map,GW,VX,Nat.pow_zero,Nat.div_one]
 congr 1
 apply NB;intro i _;simp only[Function.comp,Nat.succ_eq_add_one,KB,Nat.div_div_eq_div_mul];rw[LS (256 ^ i) 256]
def A0N(n k:Nat):Fe (Hf n k)=n % 256 ^ k:=by
 induction k generalizing n with
 | zero=>simp[Hf,Fe,Nat.mod_one]
 | succ k ih=>
  rw[A0P,Fe,ih,KB,LS (256 ^ k) 256,Nat.mod_mul];simp
def Fi(n:Int):Nat:=(n % 18446744073709551616).toNat
def A3K(n:Int):Fi n<18446744073709551616:=by unfold Fi;omega
def Vg(n:Int):n % 18446744073709551616=(Fi n:Int):=by unfold Fi;omega
def AQ(n:Int):gD UInt8:=Hf (Fi n) 8
def CP(n:Int):(AQ n).length=8:=A0Q _ _
def Wy(n:Int)(h : -9223372036854775808<=n/\n<=9223372036854775807):wrap64 (Fe (AQ n):Nat)=n:=by
 have d:Fe (AQ n)=Fi n:=by
  unfold AQ;rw[A0N];have:=A3K n;have z:(256:Nat) ^ 8=18446744073709551616:=by decide
  rw[z];omega
 rw[d];have:=Vg n;unfold wrap64;omega
def J1(n:Nat)(k:Nat):gD Value:=Ek (Hf n k)++List.replicate (8-k) (.int .u8 0)
def Lw(w:gx)(n:Int)(hn : -9223372036854775808<=n/\n<=9223372036854775807):
 Ag 239 #[A0 n] w (Aj (.string ⟨(AQ n).toArray⟩) λw'=>A4 Aa w w'):=by
 obtain⟨n1,n2⟩:=hn;have eu:IntKind.u64.wrap n=(Fi n:Int):=by rw[IntKind.wrap_u64];exact Vg n
 go_enter func239,ntmps239
 go_wp2;go_loopw [5] (λi wr=>∃k:Nat,k<=8/\i=A0 k/\Hid (A4 Aa w wr)/\Hid (wr.heap[w.heap.size]?=some (.cells (J1 (Fi n) k).toArray 318 (0,0)))) (λi _=>8-(intOf i).toNat)
 ·exact⟨0,Ch _,rfl,(A4.C _ _).aj _,by unfold Hid;show (w.heap.push _)[w.heap.size]?=_;rw[Je];rfl⟩
 ·obtain⟨k,hk,rfl,X,I⟩:=hrel;by_cases hlt:k<8
  ·(have hfz:wr.frozen? (A9 w.heap.size k)=false:=by have:=I.o;simp[World.frozen?,this]);have hce:wr.cell? (A9 w.heap.size k)=some (.int .u8 0):=by
    have:=I.o;have O:(J1 (Fi n) k)[k]?=some (.int .u8 0):=by
     (have Y:(Ek (Hf (Fi n) k)).length=k:=by simp[Ek,Hf]);unfold J1;rw[I7 (by omega),Y,List.getElem?_replicate];simp;omega
    simp[World.cell?,this,O]
   have d:=A1 (BQ (o:=k) (v:=.int .u8 (Fi n/2 ^ (8*k) % 256:Nat)) I.o);have E:Hid (A4 Aa w (wr.sC w.heap.size k (.int .u8 (Fi n/2 ^ (8*k) % 256:Nat)))):=A4.bh X.o (by simp) _;have L:Hid ((J1 (Fi n) k).toArray.setIfInBounds k (.int .u8 (Fi n/2 ^ (8*k) % 256:Nat))=(J1 (Fi n) (k+1)).toArray):=by
    unfold Hid;rcases(show k=0\/k=1\/k=2\/k=3\/k=4\/k=5\/k=6\/k=7 by omega) with rfl|rfl|rfl|rfl|rfl|rfl|rfl|rfl<;>simp[J1,Ek,Hf,List.range_succ,List.replicate]
   (have e1:(Fi n:Int)/2 ^ (8*k) % 256=((Fi n/2 ^ (8*k) % 256:Nat):Int):=by push_cast;rfl);unfold Hid at d;rw[L.o]at d;have h:=A1 d;generalize hq:Fi n/2 ^ (8*k) % 256=q at h E e1;go_wp2;exact⟨⟨k+1,by omega,by go_num,E,h⟩,by simp[intOf];omega⟩
  ·(obtain rfl:k=8:=by omega);have cv:(convert 127 9 (AA w.heap.size 8 8)).run Tryz.prog wr=.ok (.string ⟨(AQ n).toArray⟩) wr:=by
    have O:=CP n
    have:=Oi (P:=Tryz.prog) wr 127 9 5 (A9 w.heap.size 0) 8 (AQ n) Hl Np GQ (by
     intro j hj;(have z:((A9 w.heap.size 0):Addr).add j=(A9 w.heap.size j):=by unfold Addr.add;split<;>simp_all);rw[z];have W:=I.o;(have h3:(J1 (Fi n) 8)=Ek (AQ n):=by simp[J1,AQ]);rw[h3]at W
     simp[World.cell?,W,Ek,List.getElem?_eq_getElem hj])
    rw[O]at this;exact this
   go_wp2;go_ret;exact⟨rfl,X.o⟩
def Cj(s:Nat):gD UInt8:=(AQ s).take 4
def HQ(s:Nat):(Cj s).length=4:=by simp[Cj,CP]
def XE(w:gx)(s:Nat)(hs:s<4294967296):
 Ag 250 #[.int .u32 s] w (Aj (.string ⟨(Cj s).toArray⟩) λw'=>A4 Aa w w'):=by
 have h : -9223372036854775808<=(s:Int)/\(s:Int)<=9223372036854775807:=by omega
 have hl:=CP s
 go_enter func250,ntmps250
 go_wp2_with (go_at_call 239;refine(Lw _ _ h).k ?_;rintro w' d);go_ret;exact⟨by rw[extract_mk];simp[Cj],d⟩
def Bg(s t v:Int):gD UInt8:=UInt8.ofNat (s % 256).toNat::(AQ t++AQ v)
def SG(w:gx)(s t v:Int)(hs:0<=s/\s<256)(ht : -9223372036854775808<=t/\t<=9223372036854775807)(hv : -9223372036854775808<=v/\v<=9223372036854775807):
 Ag 195 #[.agg #[A0 s,A0 t,A0 v]] w (Aj (.string ⟨(Bg s t v).toArray⟩) λw'=>A4 Aa w w'):=by
 go_enter func195,ntmps195
 go_wp2;refine HN 15 (λy=>{tmps:=#[.agg #[A0 s,A0 t,A0 v],A5 w.heap.size,.string ⟨#[]⟩,y 0,y 1,y 2,y 3,y 4,y 5,y 6,y 7,y 8,y 9,y 10,y 11,y 12,y 13,y 14],defers:=[]}) (λ_=>undef)
  (λw'=>w'.heap[w.heap.size]?=some (.cells #[A0 s,A0 t,A0 v] 113 (0,0))/\A4 Aa w w') (A4 Aa)
  (λj x w'=>match j with
   | 0=>x=(A5 w.heap.size)
   | 1=>x=A0 s
   | 2=>x=.int .u8 s
   | 3=>∃g e,x=AA g 1 1/\w'.heap[g]?=some (.cells #[.int .u8 s] e (0,0))
   | 4=>x=.string ⟨#[UInt8.ofNat (s % 256).toNat]⟩
   | 5=>x=.pointer (some (A9 w.heap.size 1))
   | 6=>x=.pointer (some (A9 w.heap.size 1))
   | 7=>x=A0 t
   | 8=>x=.string ⟨(AQ t).toArray⟩
   | 9=>x=.string ⟨(UInt8.ofNat (s % 256).toNat::AQ t).toArray⟩
   | 10=>x=.pointer (some (A9 w.heap.size 1))
   | 11=>x=.pointer (some (A9 w.heap.size 2))
   | 12=>x=A0 v
   | 13=>x=.string ⟨(AQ v).toArray⟩
   | 14=>x=.string ⟨(Bg s t v).toArray⟩
   | _=>True)
  (by kernel_rfl) (by kernel_rfl) rfl ?_ ?_ ?_ ?_
 ·exact⟨(by show (w.heap.push _)[w.heap.size]?=_;rw[Je]),((A4.C _ _).aj _).aa⟩
 ·intro j x w1 w2 hR hS' Y;split at Y<;>first|exact Y|(obtain⟨g,e,h1,h2⟩:=Y;exact⟨g,e,h1,hR.al h2 (by simp)⟩)
 ·simp only[FJ,Fp,Ge,Io]
  repeat' (with_reducible apply And.intro)
  all_goals refine⟨?_,(by intro y d _ _ h;exact Bool.noConfusion h),λy x=>rfl⟩
  all_goals
   intro y d hS I hw K hK;obtain⟨E,O⟩:=hS;simp[GI,Region.binds,FL,List.filter_cons]at I;(have hc0:A8 d w.heap.size 0 (A0 s):=by simp[A8,World.cell?,E]);(have hc1:A8 d w.heap.size 1 (A0 t):=by simp[A8,World.cell?,E]);(have hc2:A8 d w.heap.size 2 (A0 v):=by simp[A8,World.cell?,E]);(have hw8:IntKind.u8.wrap s=s:=by simp[IntKind.wrap,IntKind.bits,IntKind.signed];omega);have hlt:=CP t;have hlv:=CP v;have L:=A1 E;have z:=A1 O;have aA:=A1 hK;have ap1:(ByteArray.mk #[UInt8.ofNat (s % 256).toNat])++(ByteArray.mk (AQ t).toArray)=⟨(UInt8.ofNat (s % 256).toNat::AQ t).toArray⟩:=Kw [_] _;have ap2:(ByteArray.mk (UInt8.ofNat (s % 256).toNat::AQ t).toArray)++(ByteArray.mk (AQ v).toArray)=⟨(Bg s t v).toArray⟩:=Kw _ _
   try
    (have aB:∃g,y 3=AA g 1 1/\∃e,d.heap[g]?=some (.cells #[.int .u8 s] e (0,0)):=by with_reducible exact I);obtain⟨g,I,e,hg⟩:=aB;(have aF:A8 d g 0 (.int .u8 s):=by simp[A8,World.cell?,hg])
    have cv:(convert 127 9 (AA g 1 1)).run Tryz.prog d=.ok (.string ⟨#[UInt8.ofNat (s % 256).toNat]⟩) d:=Oi (P:=Tryz.prog) d 127 9 5 (A9 g 0) 1 [UInt8.ofNat (s % 256).toNat] Hl Np GQ (by
     intro j hj;(have aE:j=0:=by simpa using hj);subst aE;(have X:((A9 g 0):Addr).add 0=(A9 g 0):=by unfold Addr.add;split<;>simp_all);(have aD:((UInt8.ofNat (s % 256).toNat).toNat:Int)=s:=by simp;omega);rw[X,aF]
     simp only[KM,aD])
  all_goals dsimp only
  all_goals try go_simp
  all_goals try with_reducible exact aA.o _ _ _ rfl (by simp[Act.put,I]) (A4.C _ _) ⟨L.o,z.o⟩
  all_goals try
   (have hd7:y 7=A0 t:=by with_reducible exact I);refine(Lw d t ht).k ?_;rintro w2 W;exact aA.o _ _ _ rfl (by simp[Act.put,I]) W ⟨W.al L.o (by simp),z.o.AH W (by simp)⟩
  all_goals try
   (have hd12:y 12=A0 v:=by with_reducible exact I.1);refine(Lw d v hv).k ?_;rintro w2 W;exact aA.o _ _ _ rfl (by simp[Act.put,I]) W ⟨W.al L.o (by simp),z.o.AH W (by simp)⟩
  ·exact aA.o _ _ _ ⟨d.heap.size,_,rfl,(by show (d.heap.push _)[d.heap.size]?=_;rw[Je])⟩ (by simp[Act.put,I]) ((A4.C _ _).aj _) ⟨((A4.C Aa d).aj _).al L.o (by simp),z.o.aj _⟩
 ·intro y d hS Y;obtain⟨E,O⟩:=hS;have h14:y 14=.string ⟨(Bg s t v).toArray⟩:=Y 14 (by omega);have z:=A1 O;go_wp2;go_ret;exact⟨rfl,z.o⟩
def BM(l:gD UInt8):Int:=wrap64 (Fe (l.take 8):Nat)
def MT(w:gx)(l:gD UInt8)(d:8<=l.length/\l.length<=9223372036854775807):
 Ag 168 #[.string ⟨l.toArray⟩] w (Aj (A0 (BM l)) λw'=>w=w'):=
 A1g w ⟨l.toArray⟩ d
def MU(n:Int)(h : -9223372036854775808<=n/\n<=9223372036854775807)(r:gD UInt8):BM (AQ n++r)=n:=by
 unfold BM;rw[Hn (by rw[CP];omega),El (by rw[CP];omega)];exact Wy n h
def Ce(w:gx)(p:Nat)(s t v:Int):Prop:=w.heap[p]?=some (.cells #[.int .i64 s,.int .i64 t,.int .i64 v] 113 (0,0))
def Ce.c0{w:gx}{p:Nat}{s t v:Int}(h:Ce w p s t v):A8 w p 0 (A0 s):=by unfold Ce at h;simp[A8,World.cell?,h]
def Ce.c1{w:gx}{p:Nat}{s t v:Int}(h:Ce w p s t v):A8 w p 1 (A0 t):=by unfold Ce at h;simp[A8,World.cell?,h]
def Ce.c2{w:gx}{p:Nat}{s t v:Int}(h:Ce w p s t v):A8 w p 2 (A0 v):=by unfold Ce at h;simp[A8,World.cell?,h]
def Ce.fz{w:gx}{p:Nat}{s t v:Int}(h:Ce w p s t v)(o:Nat):w.frozen? (A9 p o)=false:=by unfold Ce at h;simp[World.frozen?,h]
def Ce.lt{w:gx}{p:Nat}{s t v:Int}(h:Ce w p s t v):p<w.heap.size:=By h
def Ce.al{S:Nat->Prop}{w w':gx}{p:Nat}{s t v:Int}(h:Ce w p s t v)(d:A4 S w w')(z:¬S p):Ce w' p s t v:=d.al h z
def Ce.aa{w:gx}{p:Nat}{s t v:Int}(h:Ce w p s t v):Ce w.drew p s t v:=by unfold Ce at h ⊢;exact h
def Ce.bx{w:gx}{p:Nat}{s t v:Int}(h:Ce w p s t v)(s' z d:Int):Ce (((w.setCell (A9 p 0) (A0 s')).setCell (A9 p 1) (A0 z)).setCell (A9 p 2) (A0 d)) p s' z d:=
 BQ (o:=2) (v:=A0 d) (BQ (o:=1) (v:=A0 z) (BQ (o:=0) (v:=A0 s') h))
def SD(w:gx)(b:UInt8)(l:gD UInt8)(hl:16<=l.length/\l.length<9223372036854775807):
 Ag 176 #[.string ⟨(b::l).toArray⟩] w (Aj (.tuple #[.agg #[A0 b.toNat,A0 (BM l),A0 (BM (l.drop 8))],.bool (decide (b.toNat<8))]) λw'=>A4 Aa w w'):=by
 obtain⟨hl1,hl2⟩:=hl;have hb:=b.toNat_lt
 go_enter func176,ntmps176
 go_wp2;refine HN 12 (λy=>{tmps:=#[.string ⟨(b::l).toArray⟩,undef,A5 w.heap.size,.bool false,y 11,y 0,y 1,y 2,y 3,y 4,y 5,y 6,y 7,y 8,y 9,y 10,undef,undef,undef,undef],defers:=[]}) (λ_=>undef)
  (λw'=>Ce w' w.heap.size 0 0 0/\A4 Aa w w') (A4 Aa)
  (λj x w'=>match j with
   | 0=>x=.string ⟨(b::l).toArray⟩
   | 1=>x=.int .u8 b.toNat
   | 2=>x=A0 b.toNat
   | 3=>x=.string ⟨(b::l).toArray⟩
   | 4=>x=.string ⟨l.toArray⟩
   | 5=>x=A0 (BM l)
   | 6=>x=.string ⟨(b::l).toArray⟩
   | 7=>x=.string ⟨(l.drop 8).toArray⟩
   | 8=>x=A0 (BM (l.drop 8))
   | 9=>x=.agg #[A0 (BM l),A0 (BM (l.drop 8))]
   | 10=>x=.agg #[A0 b.toNat,A0 (BM l),A0 (BM (l.drop 8))]
   | 11=>∃p,x=(A5 p)/\w.heap.size<p/\Ce w' p 0 0 0
   | _=>True)
  (by kernel_rfl) (by kernel_rfl) rfl ?_ ?_ ?_ ?_
 ·exact⟨(by show (w.heap.push _)[w.heap.size]?=_;rw[Je]),((A4.C _ _).aj _).aa⟩
 ·intro j x w1 w2 hR aN W;split at W
  case h_12=>
   obtain⟨p,h1,h2,h3⟩:=W;exact⟨p,h1,h2,h3.al hR (λh=>h)⟩
  all_goals exact W
 ·simp only[FJ,Fp,Ge,Io]
  repeat' (with_reducible apply And.intro)
  all_goals refine⟨?_,(by intro y O _ _ h;exact Bool.noConfusion h),λy x=>rfl⟩
  all_goals
   intro y O hS hd hw K hK;obtain⟨I,d⟩:=hS;simp[GI,Region.binds,FL,List.filter_cons]at hd;have e0:(ByteArray.mk (b::l).toArray)[0]'(by show 0<l.length+1;omega)=b:=rfl;have e1:(ByteArray.mk (b::l).toArray).extract 1 (l.length+1)=⟨l.toArray⟩:=by
    rw[extract_mk];simp
   have e9:(ByteArray.mk (b::l).toArray).extract 9 (l.length+1)=⟨(l.drop 8).toArray⟩:=by
    rw[extract_mk,DH,El (by simp)]
   (have g1:(1:Int)<=(l.length:Int)+1:=by omega);(have g9:(9:Int)<=(l.length:Int)+1:=by omega);have ew:IntKind.i64.wrap (b.toNat:Int)=b.toNat:=Eo (by omega);have E:=A1 I;have L:=A1 d;have aD:=A1 hK
  all_goals dsimp only
  all_goals try go_simp
  all_goals try with_reducible exact aD.o _ _ _ rfl (by simp[Act.put,hd]) (A4.C _ _) ⟨E.o,L.o⟩
  all_goals try
   (have hd4:y 4=.string ⟨l.toArray⟩:=by with_reducible exact hd);refine(MT O l (by omega)).k ?_;rintro w2 rfl;exact aD.o _ _ _ rfl (by simp[Act.put,hd]) (A4.C _ _) ⟨E.o,L.o⟩
  all_goals try
   (have hd7:y 7=.string ⟨(l.drop 8).toArray⟩:=by with_reducible exact hd.1);refine(MT O (l.drop 8) (by rw[Cz];omega)).k ?_;rintro w2 rfl;exact aD.o _ _ _ rfl (by simp[Act.put,hd]) (A4.C _ _) ⟨E.o,L.o⟩
  ·refine aD.o _ _ _ ⟨O.heap.size,rfl,?_,Bl O _⟩ (by simp[Act.put]) ((A4.C _ _).aj _) ⟨E.o.al ((A4.C Aa _).aj _) (λh=>h),L.o.aj _⟩;exact E.o.lt
 ·intro y O hS W;obtain⟨I,d⟩:=hS;have h10:y 10=.agg #[A0 b.toNat,A0 (BM l),A0 (BM (l.drop 8))]:=W 10 (by omega);obtain⟨p,h11,aF,hp⟩:∃p,y 11=(A5 p)/\w.heap.size<p/\Ce O p 0 0 0:=W 11 (by omega);have c0:=hp.c0;have c1:=hp.c1;have c2:=hp.c2;have f0:=hp.fz 0;have f1:=hp.fz 1;have f2:=hp.fz 2;have h3:=hp.bx b.toNat (BM l) (BM (l.drop 8));have cr:A4 (One p) O (((O.setCell (A9 p 0) (A0 b.toNat)).setCell (A9 p 1) (A0 (BM l))).setCell (A9 p 2) (A0 (BM (l.drop 8)))):=(((A4.C (One p) O).ao rfl _ _).ao rfl _ _).ao rfl _ _;have aB:=A1 h3;have aA:=A1 (I.al cr (λh=>by have h':w.heap.size=p:=h;omega));have aK:Hid (A4 Aa w (((O.setCell (A9 p 0) (A0 b.toNat)).setCell (A9 p 1) (A0 (BM l))).setCell (A9 p 2) (A0 (BM (l.drop 8))))):=d.AH cr (λk hk hlt2=>by have h':k=p:=hk;omega);have aO:Hid (w.heap.size<p):=aF;go_wp2;generalize (((O.setCell (A9 p 0) (A0 b.toNat)).setCell (A9 p 1) (A0 (BM l))).setCell (A9 p 2) (A0 (BM (l.drop 8))))=w3 at aB aA aK ⊢;obtain⟨X,aI⟩:∃X,BM l=X:=⟨_,rfl⟩;obtain⟨Y,aG⟩:∃Y,BM (l.drop 8)=Y:=⟨_,rfl⟩;rw[aI,aG]at aB ⊢;have aJ:Hid (((b.toNat:Int)<8)=(b.toNat<8)):=by unfold Hid;simp;omega
  obtain⟨n,hn⟩:∃n:Nat,b.toNat=n:=⟨_,rfl⟩;have aE:Hid (b.toNat=n/\BM l=X/\BM (l.drop 8)=Y):=⟨hn,aI,aG⟩;rw[hn]at aB aJ ⊢;have q0:=aB.o.c0;have q1:=aB.o.c1;have q2:=aB.o.c2;have r0:=aA.o.c0;have r1:=aA.o.c1;have r2:=aA.o.c2;have z0:=aA.o.fz 0;have z1:=aA.o.fz 1;have z2:=aA.o.fz 2;go_wp2;refine HN 5 (λz=>{tmps:=#[.string ⟨(b::l).toArray⟩,undef,A5 w.heap.size,.bool false,A5 p,y 0,y 1,y 2,y 3,y 4,y 5,y 6,y 7,y 8,y 9,.agg #[A0 n,A0 X,A0 Y],z 0,z 1,z 2,z 3],defers:=[]}) (λ_=>undef)
   (λw'=>Ce w' p n X Y/\(∃a b c,Ce w' w.heap.size a b c)/\A4 Aa w w') (λw1 w2=>Ce w1 w.heap.size n X Y->Ce w2 w.heap.size n X Y)
   (λj x w'=>match j with
    | 0=>x=.agg #[A0 n,A0 X,A0 Y]
    | 1=>x=(A5 p)
    | 2=>x=A0 n
    | 3=>x=.bool (decide ((n:Int)<8))
    | 4=>Ce w' w.heap.size n X Y
    | _=>True)
   (by kernel_rfl) (by kernel_rfl) rfl ?_ ?_ ?_ ?_
  ·exact⟨aB.o.aa,⟨_,_,_,aA.o.aa⟩,aK.o.aa⟩
  ·intro j x w1 w2 hR aN W;split at W
   case h_5=>exact hR W
   all_goals exact W
  ·clear aB aA aK;simp only[FJ,Fp,Ge,Io]
   repeat' (with_reducible apply And.intro)
   all_goals refine⟨?_,(by intro y O _ _ h;exact Bool.noConfusion h),λy x=>rfl⟩
   all_goals
    intro z wz hS hd hw K hK;obtain⟨I,⟨a1,a2,a3,d⟩,aL⟩:=hS;simp[GI,Region.binds,FL,List.filter_cons]at hd;have q0:=I.c0;have q1:=I.c1;have q2:=I.c2;have r0:=d.c0;have r1:=d.c1;have r2:=d.c2;have z0:=d.fz 0;have z1:=d.fz 1;have z2:=d.fz 2;have E:=A1 I;have L:=A1 d;have aH:=A1 aL;have aD:=A1 hK
   all_goals dsimp only
   all_goals try go_simp
   all_goals try with_reducible exact aD.o _ _ _ rfl (by simp[Act.put,hd]) (λh=>h) ⟨E.o,⟨_,_,_,L.o⟩,aH.o⟩
   have st:=L.o.bx n X Y;have cr:A4 (One w.heap.size) wz (((wz.setCell (A9 w.heap.size 0) (A0 n)).setCell (A9 w.heap.size 1) (A0 X)).setCell (A9 w.heap.size 2) (A0 Y)):=(((A4.C (One w.heap.size) wz).ao rfl _ _).ao rfl _ _).ao rfl _ _;refine aD.o undef _ _ st (by simp[Act.put,hd]) (λ_=>st) ⟨E.o.al cr (λh=>by have h':p=w.heap.size:=h;have:=aO.o;omega),⟨_,_,_,st⟩,aH.o.AH cr (λk hk aF=>by have h':k=w.heap.size:=hk;omega)⟩
  ·intro z wz hS W;have h3:z 3=.bool (decide ((n:Int)<8)):=W 3 (by omega);have h4:Ce wz w.heap.size n X Y:=W 4 (by omega);have r0:=h4.c0;have r1:=h4.c1;have r2:=h4.c2;have aP:=A1 hS.2.2;have aM:decide ((n:Int)<8)=decide (n<8):=by
    by_cases h:n<8
    ·rw[Cu h,Cu (by omega)]
    ·rw[Cv h,Cv (by omega)]
   rw[aM]at h3;go_wp2;refine JK (v:=.tuple #[.agg #[A0 n,A0 X,A0 Y],.bool (decide (n<8))]) (by simp[results,Tryz.results176,go_sem,r0,r1,r2]) rfl ?_;exact⟨by rw[aE.o.1,aE.o.2.1,aE.o.2.2],aP.o⟩
def Vz(w:gx)(s:Nat)(l:gD UInt8)(h:s<4294967296)(d:l.length<=9223372036854775807):
 Ag 165 #[.int .u32 s,.string ⟨l.toArray⟩] w (Aj (.int .u32 (AY s l)) λw'=>w=w'):=
 A4b w s ⟨l.toArray⟩ h d
def Bi(w:gx)(h:Nat)(T:TypeId)(p:gy)(d:gC)(s:Nat):Prop:=w.heap[h]?=some (.cells #[p,.string d,.int .u32 s] T (0,0))
def Bi.c0{w:gx}{d:Nat}{T:TypeId}{p:gy}{z:gC}{s:Nat}(h:Bi w d T p z s):A8 w d 0 p:=by unfold Bi at h;simp[A8,World.cell?,h]
def Bi.c1{w:gx}{z:Nat}{T:TypeId}{p:gy}{d:gC}{s:Nat}(h:Bi w z T p d s):A8 w z 1 (.string d):=by unfold Bi at h;simp[A8,World.cell?,h]
def Bi.c2{w:gx}{d:Nat}{T:TypeId}{p:gy}{z:gC}{s:Nat}(h:Bi w d T p z s):A8 w d 2 (.int .u32 s):=by unfold Bi at h;simp[A8,World.cell?,h]
def Bi.fz{w:gx}{d:Nat}{T:TypeId}{p:gy}{z:gC}{s:Nat}(h:Bi w d T p z s)(o:Nat):w.frozen? (A9 d o)=false:=by unfold Bi at h;simp[World.frozen?,h]
def Bi.lt{w:gx}{d:Nat}{T:TypeId}{p:gy}{z:gC}{s:Nat}(h:Bi w d T p z s):d<w.heap.size:=By h
def Bi.s2{w:gx}{d:Nat}{T:TypeId}{p:gy}{z:gC}{s:Nat}(h:Bi w d T p z s)(s':Nat):Bi (w.setCell (A9 d 2) (.int .u32 s')) d T p z s':=BQ h
def Bi.al{S:Nat->Prop}{w w':gx}{d:Nat}{T:TypeId}{p:gy}{z:gC}{s:Nat}(h:Bi w d T p z s)(E:A4 S w w')(I:¬S d):Bi w' d T p z s:=E.al h I
def RJ(w:gx)(z:Nat)(T:TypeId)(p:gy)(O:gC)(s:Nat)(l:gD UInt8)(h:Bi w z T p O s)(W:s<4294967296)(hl:l.length<=9223372036854775803):
 Ag 214 #[A5 z,.string ⟨l.toArray⟩] w (Aj (.string ⟨(l++Cj (AY s l)).toArray⟩) λw'=>Bi w' z T p O (AY s l)/\A4 (One z) w w'):=by
 have c2:=h.c2;have fz:=h.fz 2;have L:=h.s2 (AY s l);have E:=JZ s l W;obtain⟨s1,d⟩:∃s1,AY s l=s1:=⟨_,rfl⟩;have hq:=A1 d;rw[d]at L E ⊢;have c3:=L.c2;have Y:A4 (One z) w (w.sC z 2 (.int .u32 s1)):=(A4.C _ w).ao (show One z z from rfl) 2 _;have ap:=Kw l (Cj s1);have hsb:=HQ s1;have aB:=A1 L;have aA:=A1 Y;have I:l.length<=9223372036854775807:=by omega
 go_enter func214,ntmps214
 go_wp2_with (first|(go_at_call 165;refine(Vz _ _ _ W I).k ?_;rintro w' rfl;rw[hq.o])|(go_at_call 250;refine(XE _ _ E).k ?_;rintro w' X));go_ret;exact⟨rfl,aB.o.al X (by simp),aA.o.AH X (by simp)⟩
def O4(w:gx)(O:Nat)(T:TypeId)(p:gy)(Y:gC)(s:Nat)(l t:gD UInt8)(h:Bi w O T p Y s)(hs:s<4294967296)(ht:t.length=4)(hl:l.length<=9223372036854775803):
 Ag 167 #[A5 O,.string ⟨(l++t).toArray⟩] w (Aj (.tuple #[.string ⟨l.toArray⟩,.bool (decide (Cj (AY s l)=t))]) λw'=>Bi w' O T p Y (AY s l)/\A4 (One O) w w'):=by
 have d:(l++Cj (AY s l)==l++t)=decide (Cj (AY s l)=t):=by
  by_cases z:Cj (AY s l)=t
  ·rw[Cu z,z];exact Vd _
  ·rw[Cv z];exact HX.2 λh=>z (Wc h)
 generalize hbb:decide (Cj (AY s l)=t)=bb at d ⊢;have W:=A1 d;have hlt0:((ByteArray.mk (l++t).toArray).size:Int)=(l.length:Int)+4:=by show (((l++t).length:Nat):Int)=_;simp[ht]
 have hn4:¬((l.length:Int)+4<4):=by omega
 go_enter func167,ntmps167
 go_wp2;refine HN 11 (λy=>{tmps:=#[A5 O,.string ⟨(l++t).toArray⟩,undef,undef,.string ⟨#[]⟩,.bool false,y 10,undef,.string ⟨(l++t).toArray⟩,A0 ((l.length:Int)+4),.bool false,y 0,y 1,y 2,y 3,y 4,y 5,y 6,y 7,y 8,y 9,undef,undef,undef,undef,undef,undef,undef,undef],defers:=[]}) (λ_=>undef)
  (λw'=>Bi w' O T p Y s/\A4 Aa w w') (A4 Aa)
  (λj x w'=>match j with
   | 0=>x=.string ⟨(l++t).toArray⟩
   | 1=>x=.string ⟨(l++t).toArray⟩
   | 2=>x=A0 ((l.length:Int)+4)
   | 3=>x=A0 l.length
   | 4=>x=.string ⟨l.toArray⟩
   | 5=>x=.string ⟨(l++t).toArray⟩
   | 6=>x=.string ⟨(l++t).toArray⟩
   | 7=>x=A0 ((l.length:Int)+4)
   | 8=>x=A0 l.length
   | 9=>x=.string ⟨t.toArray⟩
   | 10=>x=.string ⟨l.toArray⟩
   | _=>True)
  (by kernel_rfl) (by kernel_rfl) rfl ?_ ?_ ?_ ?_
 ·exact⟨h,(A4.C _ _).aa⟩
 ·intro j x w1 w2 hR hS' X;split at X<;>exact X
 ·simp only[FJ,Fp,Ge,Io]
  repeat' (with_reducible apply And.intro)
  all_goals refine⟨?_,(by intro y wx _ _ h;exact Bool.noConfusion h),λy x=>rfl⟩
  all_goals
   intro y wx hS hd hw K hK;obtain⟨I,L⟩:=hS;simp[GI,Region.binds,FL,List.filter_cons]at hd;have e1:(ByteArray.mk (l++t).toArray).extract 0 l.length=⟨l.toArray⟩:=by
    rw[extract_mk];simp
   have e9:(ByteArray.mk (l++t).toArray).extract l.length (l.length+4)=⟨t.toArray⟩:=by
    rw[extract_mk,W9,show l.length+4-l.length=t.length by omega,C5]
   (have g1:(l.length:Int)<=(l.length:Int)+4:=by omega);have ew:IntKind.i64.wrap (l.length:Int)=l.length:=Eo (by omega);have aA:=A1 I;have E:=A1 L;have aE:=A1 hK
  all_goals dsimp only
  all_goals try go_simp
  all_goals try with_reducible exact aE.o _ _ _ rfl (by simp[Act.put,hd]) (A4.C _ _) ⟨aA.o,E.o⟩
 ·intro y wx hS X;obtain⟨I,L⟩:=hS;have h10:y 10=.string ⟨l.toArray⟩:=X 10 (by omega);have h9:y 9=.string ⟨t.toArray⟩:=X 9 (by omega);have hk:=I;have E:=A1 L;have ap:=Kw l t;have hq:=W.o;have aF:=A1 (RJ wx O T p Y s l hk hs hl);have hlt:(ByteArray.mk (l++t).toArray).size=l.length+4:=by show (l++t).length=_;simp[ht]
  go_wp2_with (go_at_call 214;refine aF.k ?_;rintro w'⟨hb,hc⟩;have aB:=A1 hb;have aD:=A1 hc);go_ret2;exact⟨rfl,aB.o,E.o.ai (λ_ _ h=>h.elim) |>.tr aD.o⟩
def X2(w:gx)(z:Nat)(l:gD UInt8)(hl:l.length<4):
 Ag 167 #[A5 z,.string ⟨l.toArray⟩] w (Aj (.tuple #[.string ⟨#[]⟩,.bool false]) λw'=>w=w'):=by
 have h:(ByteArray.mk l.toArray).size=l.length:=by show l.toArray.size=_;simp
 have d:((ByteArray.mk l.toArray).size:Int)<4:=by rw[h];omega
 generalize htx:ByteArray.mk l.toArray=tx at d ⊢
 go_enter func167,ntmps167
 go_wp2;go_ret2;exact⟨rfl,rfl⟩
end
section
open Go.RowKit
attribute [local go_sem ↓] Go.wp_at_zero Go.wp_at_succ
def E9(D:DS):Int×DS:=
 ((bg D.n).2.1,if (bg D.n).2.1=0 then {D with AF:=D.A6,As:=[],n:=(bg D.n).2.2} else {D with n:=(bg D.n).2.2})
def C9.aJ{w w':gx}{b:Nat}{D:DS}{F:Nat->FC}{L vs vc:gy}{I:gD gy}{Y:Nat->gy}(h:C9 w b D F L vs vc I Y)(hb:AM w' b L L (.slice none 0 0) D.n)(hc:A4 (One b) w w'):C9 w' b {D with AF:=D.A6,As:=[]} F L L (.slice none 0 0) [] Y:=by
 have E:∀(k:Nat) (c:Array gy) (e:Nat),w.heap[k]?=some (Obj.cells c e (0,0))->e≠95->w'.heap[k]?=w.heap[k]?:=λk c e E he=>
  hc.Al k (By E) (BR E h.Ae he)
 have X:=Au h.A6 λg O=>by have⟨c,hh⟩:=Bb h.A6 O;exact E g _ _ hh (by decide)
 have d:∀f,({D with AF:=D.A6,As:=[]}:DS).Aq f->D.Aq f:=by
  rintro f (z|z|⟨c,hcm,z⟩)
  ·exact .inl z
  ·exact .inl z
  ·cases hcm
 refine⟨hb,X,X,Co _ _ _ _,λi hi=>by simp at hi,λf z=>?_,λf f' g z W=>h.GG f f' g (d f z) (d f' W)⟩;have⟨h1,h2⟩:=h.BN f (d f z);refine⟨?_,Au h2 λg O=>by have⟨c,hh⟩:=Bb h2 O;exact E g _ _ hh (by decide)⟩;unfold Db at h1 ⊢;rw[E f _ _ h1 (by decide)];exact h1
def Xk(w:gx)(b:Nat)(D:DS)(F:Nat->FC)(Ft:Nat->Prop)(h:Dj w b D F Ft):
 Ag 86 #[A5 b] w (Aj (A0 (E9 D).1) λw'=>DB w Ft w' b (E9 D).2 F):=by
 obtain⟨vd,vs,vc,vals,VB,hr,d⟩:=h;obtain⟨ad,cap,rfl,_⟩:=hr.A6.BW;have aA:=A1 hr;have Y:=A1 hr.Ae;by_cases E:(bg D.n).2.1=0
 ·have q:Hid (E9 D=(0,{D with AF:=D.A6,As:=[],n:=(bg D.n).2.2})):=by unfold Hid E9;rw[Ai E,E]
  have W:((bg D.n).2.1==0)=true:=by simpa using E
  have X:=A1 <| E;clear E
  go_enter func86,ntmps86
  go_wp2_with (go_at_call 121;refine(Hj _ _ _ _ _ _ Y.o).k ?_;rintro w1⟨z,L⟩;have c01:=z.c0;have c11:=z.c1;have c21:=z.c2;have hf1:=z.fz);go_ret;refine⟨by rw[q.o];simp[X.o],?_⟩;rw[q.o];have r1:=aA.o.an z L;have r2:=r1.aJ ((z.s1 _).s2 (.slice none 0 0)) (((A4.C (One b) w1).ao rfl 1 _).ao rfl 2 (.slice none 0 0));refine DB.bC ?_ r2 ?_
  ·exact(((L.ai (S':=Ft) λk _ hk=>by cases hk;exact d b .Ae)).ao (d b .Ae) 1 _).ao (d b .Ae) 2 _
  ·intro k hk;left;cases hk using Cf.bN with
   | Ae=>exact d _ .Ae
   | dir e=>exact d _ (.A6 e)
   | Ad e=>exact d _ (.A6 e)
   | Am e=>simp[Value.ownBlock]at e
   | Di hm e=>cases hm
   | BN I=>
    rcases I with I|I|⟨c,O,_⟩
    ·exact d _ (.BN (.inl I))
    ·exact d _ (.BN (.inl I))
    ·cases O
   | byt I e=>
    rcases I with I|I|⟨c,O,_⟩
    ·exact d _ (.bE (.inl I) e)
    ·exact d _ (.bE (.inl I) e)
    ·cases O
 ·have q:Hid (E9 D=((bg D.n).2.1,{D with n:=(bg D.n).2.2})):=by unfold Hid E9;rw[Af E]
  have W:((bg D.n).2.1==0)=false:=by simpa using E
  go_enter func86,ntmps86
  go_wp2_with (go_at_call 121;refine(Hj _ _ _ _ _ _ Y.o).k ?_;rintro w1⟨z,L⟩);go_ret;refine⟨by rw[q.o];rfl,?_⟩;rw[q.o];exact aA.o.bV d z L
def AU(F:Nat->FC):gD AO->Nat
 | []=>0
 | e::r=>(F e.2).1.length+AU F r
def L1(F:Nat->FC)(a c:gD AO):AU F (a++c)=AU F a+AU F c:=by
 induction a with
 | nil=>simp[AU]
 | cons e r ih=>simp[AU,ih];omega
def R5(F:Nat->FC)(es:gD AO)(k:Nat)(d:k<es.length):AU F (es.take (k+1))=AU F (es.take k)+(F (es[k]'d).2).1.length:=by
 rw[Dq d,L1];simp[AU]
def X0(F:Nat->FC)(es:gD AO)(k:Nat):AU F (es.take k)<=AU F es:=by
 conv=>rhs;rw[<-E4 k es]
 rw[L1];omega
def JY(w:gx)(b:Nat)(D:DS)(F:Nat->FC)(Ft:Nat->Prop)(h:Dj w b D F Ft)(hu:AU F D.A6<=4611686018427387904):
 Ag 90 #[A5 b] w (Aj (A0 (AU F D.A6)) λw'=>A4 Aa w w'):=by
 obtain⟨vd,vs,vc,vals,VB,X,hft⟩:=h;have c0:=X.Ae.c0;obtain⟨a,cap,rfl,hc1,Y,E⟩:=X.A6.BW;unfold maxLen at Y;have aB:=A1 X
 go_enter func90,ntmps90
 go_wp2;go_loopw [3,11] (λt i wr=>∃k:Nat,k<=D.A6.length/\i=A0 k/\t=A0 (AU F (D.A6.take k))/\A4 Aa w wr) (λ_ i _=>D.A6.length-(intOf i).toNat)
 ·exact⟨0,Ch _,rfl,by simp[AU],A4.C _ _⟩
 ·obtain⟨k,hk,rfl,rfl,z⟩:=hrel;by_cases d:k<D.A6.length
  ·obtain⟨g,rfl,hn,hp⟩:=E k d;have⟨hfb,hbs⟩:=aB.o.cq k d;have⟨a',cap',hv,_,_⟩:=hbs.BW;rw[hv]at hfb;have O:g<w.heap.size:=GO w _ hn;have W:=By hfb;have hn':A8 wr g (k*2) (.string (D.A6[k]'d).1):=(DO (z.Al g O (λh=>h))).trans hn;have hp':A8 wr g (k*2+1) (A5 ((D.A6[k]'d).2)):=(DO (z.Al g O (λh=>h))).trans hp;have hb0:A8 wr ((D.A6[k]'d).2) 0 (.slice a' (F (D.A6[k]'d).2).1.length cap'):=(DO (z.Al _ W (λh=>h))).trans hfb.c0;have hsz:=z.Ak;(have hflr:(D.A6[k]'d).2<wr.heap.size:=by omega);have ht:=A1 (R5 F D.A6 k d);have aA:=X0 F D.A6 (k+1);rw[R5 F D.A6 k d]at aA;go_wp2;go_roundw
   ·exact⟨k+1,by omega,by go_num,by rw[ht.o];go_num,z.aj _⟩
   ·simp[intOf];omega
  ·have L:D.A6.take k=D.A6:=El (by omega);have I:=A1 L;go_wp2;go_ret;exact⟨by rw[I.o];rfl,z⟩
def FH(D:DS)(F:Nat->FC)(d:gC)(at_ n:Int):gD UInt8×Int:=match lookup D.A6 d with
 | some f=>if at_<0\/n<0\/at_>(F f).1.length\/n>(F f).1.length-at_ then ([],9) else (((F f).1.drop at_.toNat).take n.toNat,0)
 | none=>([],8)
end
end Go.Proofs.YtodcnkbblippnaaGreatDoor
