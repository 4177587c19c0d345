/- Part 7 of a proof: walks of the program. -/
import Derived.BigRegion
import Derived.BigQuiet
import Derived.Deep.QuietTactic
import Derived.Deep.RegionLaw
import Derived.Test.YtodcnkbblippnabGreatDoorPart05
namespace Go.Proofs.YtodcnkbblippnabGreatDoor
set_option maxRecDepth 100000
set_option maxHeartbeats 32000000
set_option linter.defProp false
open Go.Proofs.Tryz
section
open Go.RowKit
attribute [local go_sem ↓] Go.wp_at_zero Go.wp_at_succ
def OJ{w w1 w3 w5:World}{b:Nat}{D:DS}{F:Nat->FC}{vd vs vc vl aA:Value}{O:List Value}{aG:Nat->Value}{Ft:Nat->Prop}{n1:DN}{es:List AI}(hr:BY w b D F vd vs vc O aG)(z:∀k,C7 b D vd vs vc O aG k->Ft k)(aI:AO w1 b vd vs vc n1)(aE:A5 (One b) w w1)(aB:A5 (λ_=>False) w1 w3)(e3:CG w3 vl es)(aF:∀g,vl.ownBlock=some g->w1.heap.size<=g)(aD:∀f,D9 f es->D.As f)(aH:AO w5 b vl vs aA n1)(aJ:w5.ownsRow 0 98 1 aA (D.Ap.length+1) (O++[vl]))(X:A5 (λk=>k=b\/vc.ownBlock=some k) w3 w5)(hv:∀g,aA.ownBlock=some g->vc.ownBlock=some g\/w3.heap.size<=g):
 Ds w Ft w5 b {D with A6:=es,Ap:=D.Ap++[es],n:=n1} F:=by
 have s1:=aE.Am;have s3:=aB.Am;have r1:=hr.ai aI aE;have r3:=r1.aM λk Y=>aB.Ao k (r1.lt Y) (λh=>h)
 have e5:=AA e3 λg hg=>X.Ao g (AG e3 hg) (by
  have⟨c,hh⟩:=Bd e3 hg;rintro (e|e)
  ·exact BP hh r3.Ai (by decide) e
  ·have⟨c',hh'⟩:=Bd r3.An e
   exact BP hh hh' (by decide) rfl)
 have r5:=r3.ct (F':=F) (VB':=aG) (es:=es) aH aJ e5 X (λk Y=>Y) (λf I=>⟨rfl,rfl⟩) (λf I=>.inl (aD f I));have W:∀f,({D with A6:=es,Ap:=D.Ap++[es],n:=n1}:DS).As f->D.As f:=by
  rintro f (I|I|⟨c,H,I⟩)
  ·exact aD f I
  ·exact .inr (.inl I)
  ·rcases AU.1 H with H|H
   ·exact .inr (.inr ⟨c,H,I⟩)
   ·simp at H;subst H;exact aD f I
 refine Ds.bt ?_ r5 ?_
 ·have a:=(aE.ae (S':=Ft) λk _ Y=>by cases Y;exact z b .Ai).AJ aB (λx hx=>hx.elim);refine a.AJ X ?_;rintro x (e|e) _
  ·subst e;exact z x .Ai
  ·exact z x (.An e)
 ·intro k Y;cases Y using C7.bE with
  | Ai=>exact .inl (z b .Ai)
  | dir e=>right;have:=aF _ e;omega
  | Ag e=>exact .inl (z k (.AK e))
  | An e=>
   rcases hv k e with h|h
   ·exact .inl (z k (.An h))
   ·right;omega
  | Da hm e=>
   rcases AU.1 hm with hm|hm
   ·exact .inl (z k (.Da hm e))
   ·simp at hm;subst hm;right;have:=aF _ e;omega
  | BL I=>exact .inl (z _ (.BL (W _ I)))
  | byt I e=>exact .inl (z _ (.bw (W _ I) e))
def OI{w W X:World}{b:Nat}{D:DS}{F:Nat->FC}{vd Y O:Value}{z:List Value}{aB:Nat->Value}{n1:DN}(hr:BY w b D F vd Y O z aB)(I:AO W b vd Y O n1)(aA:A5 (One b) w W)(H:A5 (λ_=>False) W X):
 AO X b vd Y O n1/\X.ownsRow 0 98 1 O D.Ap.length z:=by
 have r1:=hr.ai I aA;exact⟨I.An H (λh=>h),AA r1.An λg hg=>H.Ao g (AG r1.An hg) (λh=>h)⟩
def App.bL{w w':World}{e size n:Nat}{H:Value}{xs:List Value}(h:App w w' e size (.slice none 0 0) H n xs):A5 Ab w w':=h.An (λk z=>by simp[Value.ownBlock]at z)
def App.AS{w w':World}{e size n:Nat}{H:Value}{xs:List Value}(h:App w w' e size (.slice none 0 0) H n xs):∀g,H.ownBlock=some g->w.heap.size<=g:=by
 intro g z;rcases h.Cu with h|h
 ·rw[h]at z;cases z
 ·rw[h]at z;cases z;exact Aq _
def App.cq{H w w':World}{e size n:Nat}{v O:Value}{xs:List Value}(h:App w w' e size v O n xs)(W:A5 (λ_=>False) H w)(X:∀g,v.ownBlock=some g->H.heap.size<=g):
 A5 (λ_=>False) H w'/\∀g,O.ownBlock=some g->H.heap.size<=g:=by
 refine⟨W.Cp h.Cp λk Y hlt=>by have:=X k Y;omega,λg z=>?_⟩;rcases h.Cu with I|I
 ·rw[I]at z;exact X g z
 ·rw[I]at z;cases z;exact W.Am
def Dx(D:DS)(name:ByteArray):Int×DS:=
 if B4 D.A6 name<0 then (8,D) else
  let es:=D.A6.take (B4 D.A6 name).toNat++D.A6.drop ((B4 D.A6 name).toNat+1)
  ((bg D.n).2.1,if (bg D.n).1 then {D with A6:=es,Ap:=D.Ap++[es],n:=(bg D.n).2.2} else {D with n:=(bg D.n).2.2})
def XK(w:World)(b:Nat)(D:DS)(F:Nat->FC)(Ft:Nat->Prop)(h:D7 w b D F Ft)(name:ByteArray)(hs:D.A6.length<1099511627776/\D.Ap.length<1099511627776):
 Aj 158 #[A7 b,.string name] w (Au (A0 (Dx D name).1) λw'=>Ds w Ft w' b (Dx D name).2 F):=by
 obtain⟨vd,vs,vc,vals,VB,hr,aI⟩:=h;obtain⟨hs1,aN⟩:=hs;have aA:=A4 hr;have aT:=A4 aI;have c0:=hr.Ai.c0;have hd:=A4 hr.A6;have aH:=A4 hr.Ai;rcases Oz D.A6 name with⟨h1,h2⟩|⟨k,hk,h1,h2⟩
 ·have q:Hid (Dx D name=(8,D)):=by unfold Hid Dx;rw[Ah (by omega)]
  have hfi:B4 D.A6 name<0:=by omega
  go_enter func158,ntmps158
  go_wp2_with (go_at_call 24;refine(DC _ _ _ _ hd.o).k ?_;rintro w' rfl);go_ret;rw[q.o];exact⟨rfl,Ds.bt (A5.C _ _) aA.o λk hk=>.inl (aI k hk)⟩
 ·have q:Hid (Dx D name=((bg D.n).2.1,if (bg D.n).1 then {D with A6:=D.A6.take k++D.A6.drop (k+1),Ap:=D.Ap++[D.A6.take k++D.A6.drop (k+1)],n:=(bg D.n).2.2} else {D with n:=(bg D.n).2.2})):=by
   unfold Hid Dx;rw[Ae (by omega),h1];rfl
  have aV:=A4 h1;by_cases aD:(bg D.n).1=true
  ·have⟨i0,hi,hz0,hz1,hz2⟩:=Eb Tryz.cI;obtain⟨a,cap,rfl,z1,z2,aG⟩:=aA.o.A6.BV;obtain⟨g,rfl,_,_⟩:=aG k hk;unfold maxLen at z2;have aO:Hid (∀H,AO H b (AN g D.A6.length cap) vs vc (bg D.n).2.2->A5 (One b) w H->H.ownsRow 0 70 2 (AN g k cap) k ((BW D.A6).take (k*2))/\CG H (AN g D.A6.length cap) D.A6):=λH g1 g2=>
    ⟨RT (aA.o.ai g1 g2).A6 (by omega),(aA.o.ai g1 g2).A6⟩
   have aM:∀u∈(BW D.A6).take (k*2),u.oneCell'=true:=λu hu=>OC _ u (Iv hu);have aB:=A4 aM;have aR:Hid (∀f,D9 f (D.A6.take k++D.A6.drop (k+1))->D.As f):=by
    rintro f⟨e,he,rfl⟩;rcases AU.1 he with he|he
    ·exact .inl ⟨e,Iv he,rfl⟩
    ·exact .inl ⟨e,Lh he,rfl⟩
   (have aJ:(D.A6.take k++D.A6.drop (k+1)).length=k+(D.A6.length-(k+1)):=by simp;omega);have a4:Hid (∀(I Y:World) (v2 v3:Value),App I Y 70 2 v2 v3 (k+(D.A6.length-(k+1))) ((BW D.A6).take (k*2)++BW (D.A6.drop (k+1)))->CG Y v3 (D.A6.take k++D.A6.drop (k+1))):=by
    intro I Y v2 v3 h;unfold CG;rw[aJ,KU,<-A0Y];exact h.AP
   by_cases aU:cap=k+1
   ·subst aU;(have hz:D.A6.length=k+1:=by omega);have aX:Hid (∀H I:World,CG H (AN g D.A6.length (k+1)) D.A6->A5 Ab H I->Src Tryz.prog 2 57 (AN g 0 0) 0 [] I):=
     λH I _ _=>L9 I underlying57 _ 0 _ [] rfl (by simp) (by simp)
    have aW:Hid (∀(I Y:World) (v2 v3:Value),App I Y 70 2 v2 v3 (k+0) ((BW D.A6).take (k*2)++[])->CG Y v3 (D.A6.take k++D.A6.drop (k+1))):=by
     intro I Y v2 v3 h;refine a4.o I Y v2 v3 ?_;rw[Ke (by omega),show D.A6.length-(k+1)=0 from by omega];exact h
    clear hz
    go_enter func158,ntmps158
    go_wp2_with (first
     | (go_at_call 24;refine(DC _ _ _ _ hd.o).k ?_;rintro w' rfl;rw[aV.o])
     | (go_at_call 25;refine(GU _ _ _ _ _ _ aH.o).k ?_;rintro H⟨z,O⟩;have aY:=z.c0;have aK:=A4 (aO.o H z O))
     | (at_builtin;refine De rfl (.const (.slice none 0 0)) (.tmp 28) 57 57 rfl 70 i0 _ 2 24 underlying57 hi hz0 hz1 hz2 rfl (by decide) (.slice none 0 0) 0 [] (by rfl) (CL _ 0 70 2) (AN g k (k+1)) k ((BW D.A6).take (k*2)) (by rfl) (Src.bM underlying57 aK.o.1 aB.o) (by omega) ?_;intro a2 aS I X;simp only[GC,F7]at X;have aE:=A4 X.AP;have a1:=(z.An X.bL (λh=>h)).c0;have aF:=A4 (aX.o H I aK.o.2 X.bL))
     | (at_builtin;refine De rfl (.tmp 31) (.tmp 38) 57 57 rfl 70 i0 _ 2 24 underlying57 hi hz0 hz1 hz2 rfl (by decide) _ k ((BW D.A6).take (k*2)) (by rfl) aE.o _ _ _ (by rfl) aF.o (by omega) ?_;intro a3 aL Y hB;have W:=A4 (hB.cq X.bL X.AS);have hm:=A4 (OI aA.o z O W.o.1))
     | (go_at_call 26;refine(Ly _ b _ vs vc _ _ _ _ _ _ hm.o.1 hm.o.2 aN).k ?_;rintro w5⟨a0,k1,k2,k3,k4⟩))
    go_ret;rw[q.o,aD];have e3:=aW.o _ _ _ _ hB;exact⟨rfl,OJ aA.o aT.o z O W.o.1 e3 W.o.2 aR.o k1 k2 k3 k4⟩
   ·have aX:Hid (∀H I:World,CG H (AN g D.A6.length cap) D.A6->A5 Ab H I->Src Tryz.prog 2 57 (.slice (some (Ad g ((k+1)*2))) (D.A6.length-(k+1)) (cap-(k+1))) (D.A6.length-(k+1)) (BW (D.A6.drop (k+1))) I):=by
     intro H I h1 aZ;have h2:=AA h1 λx hx=>aZ.Ao x (AG h1 hx) (λh=>h);refine L9 I underlying57 _ _ _ _ (by rw[A0Z,CM]) ?_ (OC _);intro j u hu;rw[<-A00,Jb]at hu;(have aQ:((Ad g ((k+1)*2)):Addr).add j=(Ad g ((k+1)*2+j)):=by unfold Addr.add;split<;>simp_all);rw[aQ];exact BB h2 rfl hu
    go_enter func158,ntmps158
    go_wp2_with (first
     | (go_at_call 24;refine(DC _ _ _ _ hd.o).k ?_;rintro w' rfl;rw[aV.o])
     | (go_at_call 25;refine(GU _ _ _ _ _ _ aH.o).k ?_;rintro H⟨z,O⟩;have aY:=z.c0;have aK:=A4 (aO.o H z O))
     | (at_builtin;refine De rfl (.const (.slice none 0 0)) (.tmp 28) 57 57 rfl 70 i0 _ 2 24 underlying57 hi hz0 hz1 hz2 rfl (by decide) (.slice none 0 0) 0 [] (by rfl) (CL _ 0 70 2) (AN g k cap) k ((BW D.A6).take (k*2)) (by rfl) (Src.bM underlying57 aK.o.1 aB.o) (by omega) ?_;intro a2 aS I X;simp only[GC,F7]at X;have aE:=A4 X.AP;have a1:=(z.An X.bL (λh=>h)).c0;have aF:=A4 (aX.o H I aK.o.2 X.bL))
     | (at_builtin;refine De rfl (.tmp 31) (.tmp 38) 57 57 rfl 70 i0 _ 2 24 underlying57 hi hz0 hz1 hz2 rfl (by decide) _ k ((BW D.A6).take (k*2)) (by rfl) aE.o _ _ _ (by rfl) aF.o (by omega) ?_;intro a3 aL Y hB;have W:=A4 (hB.cq X.bL X.AS);have hm:=A4 (OI aA.o z O W.o.1))
     | (go_at_call 26;refine(Ly _ b _ vs vc _ _ _ _ _ _ hm.o.1 hm.o.2 aN).k ?_;rintro w5⟨a0,k1,k2,k3,k4⟩))
    go_ret;rw[q.o,aD];have e3:=a4.o _ _ _ _ hB;exact⟨rfl,OJ aA.o aT.o z O W.o.1 e3 W.o.2 aR.o k1 k2 k3 k4⟩
  ·(have aP:(bg D.n).1=false:=by simpa using aD)
   go_enter func158,ntmps158
   go_wp2_with (first|(go_at_call 24;refine(DC _ _ _ _ hd.o).k ?_;rintro w' rfl;rw[aV.o])|(go_at_call 25;refine(GU _ _ _ _ _ _ aH.o).k ?_;rintro H⟨z,O⟩));go_ret;rw[q.o,aP];exact⟨rfl,aA.o.bN aI z O⟩
def Dm(es:List AI)(i:Nat)(name:ByteArray):Nat->List AI
 | 0=>[]
 | k+1=>Dm es i name k++(match es[k]? with
  | some e=>if k≠i/\e.1≠name then [e] else []
  | none=>[])
def LK(es:List AI)(i:Nat)(name:ByteArray)(k:Nat):∀e∈Dm es i name k,e∈es:=by
 induction k with
 | zero=>intro e h;cases h
 | succ k ih=>
  intro e h;simp only[Dm]at h;rcases AU.1 h with h|h
  ·exact ih e h
  ·split at h
   ·rename_i x z;split at h
    ·simp at h;subst h;exact Li z
    ·cases h
   ·cases h
def Nw(es:List AI)(i:Nat)(name:ByteArray)(k:Nat):(Dm es i name k).length<=k:=by
 induction k with
 | zero=>simp[Dm]
 | succ k ih=>
  simp only[Dm,AX];split
  ·split<;>simp<;>omega
  ·simp;omega
def Ra(es:List AI)(i:Nat)(name:ByteArray)(k:Nat)(z:k<es.length)(h:k≠i/\(es[k]'z).1≠name):Dm es i name (k+1)=Dm es i name k++[es[k]'z]:=by
 simp only[Dm,Ef z];rw[Ah h]
def Nx(es:List AI)(i:Nat)(name:ByteArray)(k:Nat)(z:k<es.length)(h:¬(k≠i/\(es[k]'z).1≠name)):Dm es i name (k+1)=Dm es i name k:=by
 simp only[Dm,Ef z];rw[Ae h,Fz]
def CZ(D:DS)(old name:ByteArray):Int×DS:=match lookup D.A6 old with
 | none=>(8,D)
 | some f=>if name=ByteArray.empty then (8,D) else
  let es:=Dm D.A6 (B4 D.A6 old).toNat name D.A6.length++[(name,f)]
  ((bg D.n).2.1,if (bg D.n).1 then {D with A6:=es,Ap:=D.Ap++[es],n:=(bg D.n).2.2} else {D with n:=(bg D.n).2.2})
def XB(w:World)(b:Nat)(D:DS)(F:Nat->FC)(Ft:Nat->Prop)(h:D7 w b D F Ft)(old name:ByteArray)(hs:D.A6.length<1099511627776/\D.Ap.length<1099511627776):
 Aj 204 #[A7 b,.string old,.string name] w λe w'=>e=.returned (A0 (CZ D old name).1)/\Ds w Ft w' b (CZ D old name).2 F:=by
 obtain⟨vd,vs,vc,vals,VB,hr,aE⟩:=h;obtain⟨hs1,aT⟩:=hs;have aI:=A4 hr;have aW:=A4 aE;have c0:=hr.Ai.c0;have hd:=A4 hr.A6;have aQ:=A4 hr.Ai;rcases IQ D.A6 old with⟨h1,h2⟩|⟨k,O,h1,h2,h3⟩
 ·have q:Hid (CZ D old name=(8,D)):=by unfold Hid CZ;rw[h2]
  have hfi:B4 D.A6 old<0:=by omega
  go_enter func204,ntmps204
  go_wp2_with (go_at_call 24;refine(DC _ _ _ _ hd.o).k ?_;rintro w' rfl);go_ret;rw[q.o];exact⟨rfl,Ds.bt (A5.C _ _) aI.o λk O=>.inl (aE k O)⟩
 ·have aS:=A4 h1;by_cases hn:name.toList.isEmpty=true
  ·(have q:Hid (CZ D old name=(8,D)):=by unfold Hid CZ;rw[h2];exact Ah ((isEmpty_iff _).1 hn))
   go_enter func204,ntmps204
   go_wp2_with (go_at_call 24;refine(DC _ _ _ _ hd.o).k ?_;rintro w' rfl;rw[aS.o]);go_ret;rw[q.o];exact⟨rfl,Ds.bt (A5.C _ _) aI.o λk O=>.inl (aE k O)⟩
  ·(have hn':name.toList.isEmpty=false:=by simpa using hn);have q:Hid (CZ D old name=((bg D.n).2.1,if (bg D.n).1 then {D with A6:=Dm D.A6 k name D.A6.length++[(name,(D.A6[k]'O).2)],Ap:=D.Ap++[Dm D.A6 k name D.A6.length++[(name,(D.A6[k]'O).2)]],n:=(bg D.n).2.2} else {D with n:=(bg D.n).2.2})):=by
    unfold Hid CZ;rw[h2];dsimp only;rw[Ae (λe=>hn ((isEmpty_iff _).2 e)),h1];rfl
   by_cases aK:(bg D.n).1=true
   ·have⟨i0,hi,hz0,hz1,hz2⟩:=Eb Tryz.cI;obtain⟨a,cap,rfl,z1,z2,aH⟩:=aI.o.A6.BV;obtain⟨g,rfl,_,_⟩:=aH k O;unfold maxLen at z2
    have cells:Hid (∀w1 wr,AO w1 b (.slice (some (Ad g 0)) D.A6.length cap) vs vc (bg D.n).2.2->A5 (One b) w w1->A5 Ab w1 wr->Aa wr b 0 (.slice (some (Ad g 0)) D.A6.length cap)/\
     ∀j (hj:j<D.A6.length),Aa wr g (j*2) (.string (D.A6[j]'hj).1)/\Aa wr g (j*2+1) (A7 ((D.A6[j]'hj).2))):=by
     intro w1 wr g1 g2 g3;have r1:=aI.o.ai g1 g2;have r3:=r1.aM λx hx=>g3.Ao x (r1.lt hx) (λh=>h);exact⟨r3.Ai.c0,λj hj=>⟨BB r3.A6 rfl (OD _ j hj),BB r3.A6 rfl (OB _ j hj)⟩⟩
    go_enter func204,ntmps204
    go_wp2_with (first
     | (go_at_call 24;refine(DC _ _ _ _ hd.o).k ?_;rintro w' rfl;rw[aS.o])
     | (go_at_call 25;refine(GU _ _ _ _ _ _ aQ.o).k ?_;rintro w1⟨I,X⟩;have c01:=I.c0))
    go_loopw [10,35] (λv i wr=>∃j:Nat,j<=D.A6.length/\i=A0 j/\A5 Ab w1 wr/\CG wr v (Dm D.A6 k name j)/\Hid (∀x,v.ownBlock=some x->w1.heap.size<=x)) (λ_ i _=>D.A6.length-(intOf i).toNat)
    ·exact⟨0,C8 _,rfl,A5.C _ _,CL _ _ _ _,λx hx=>by simp[Value.ownBlock]at hx⟩
    ·obtain⟨j,hj,rfl,W,aU,aB⟩:=hrel;have aD:=A4 aU;have⟨cb,ce⟩:=cells.o w1 wr I X W;by_cases z:j<D.A6.length
     ·have⟨cn,cp⟩:=ce j z;by_cases aA:j=k
      ·(have aL:((j:Int)!=(k:Int))=false:=by simp[aA]);have q2:=A4 (Nx D.A6 k name j z (λh=>h.1 aA));have aP:=A4 aA;go_wp2;go_roundw
       ·exact⟨j+1,by omega,by go_num,W,by rw[q2.o];exact aD.o,aB⟩
       ·simp[intOf];omega
      ·(have aL:((j:Int)!=(k:Int))=true:=by rw[bne_iff_ne];omega);have aP:=A4 aA;by_cases Y:(D.A6[j]'z).1=name
       ·have aN:=(OW _ _).2 Y;have q2:=A4 (Nx D.A6 k name j z (λh=>h.2 Y));go_wp2;go_roundw
        ·exact⟨j+1,by omega,by go_num,W,by rw[q2.o];exact aD.o,aB⟩
        ·simp[intOf];omega
       ·have aN:=(Ug _ _).2 Y;have q2:=A4 (Ra D.A6 k name j z ⟨aP.o,Y⟩);have aJ:=A4 (aD.o.alloc (.cells #[.string (D.A6[j]'z).1,A7 ((D.A6[j]'z).2)] 70));have aG:=A4 (Src.ba (size:=2) underlying57 wr #[.string (D.A6[j]'z).1,A7 ((D.A6[j]'z).2)] 70 wr.heap.size rfl 1 1 rfl (by simp[Value.oneCell']));have aV:=Nw D.A6 k name j;go_wp2_with (at_builtin;refine De rfl (.tmp 53) (.tmp 61) 57 57 rfl 70 i0 _ 2 24 underlying57 hi hz0 hz1 hz2 rfl (by decide) _ _ _ (by rfl) aJ.o _ 1 _ (by rfl) aG.o (by omega) ?_;intro a3 aF w3 hB;have H:=A4 (hB.cq (W.aj _) aB.o));go_roundw
        ·refine⟨j+1,by omega,by go_num,H.o.1,?_,H.o.2⟩;rw[q2.o];have:=hB.AP;unfold CG;rw[KU,AX];exact this
        ·simp[intOf];omega
     ·have⟨cn,cp⟩:=ce k O;(have aR:j=D.A6.length:=by omega);have aO:=aD.o;rw[aR]at aO;have aJ:=A4 (aO.alloc (.cells #[.string name,A7 ((D.A6[k]'O).2)] 70));have aG:=A4 (Src.ba (size:=2) underlying57 wr #[.string name,A7 ((D.A6[k]'O).2)] 70 wr.heap.size rfl 1 1 rfl (by simp[Value.oneCell']));have aV:=Nw D.A6 k name D.A6.length
      go_wp2_with (first
       | (at_builtin;refine De rfl (.tmp 65) (.tmp 76) 57 57 rfl 70 i0 _ 2 24 underlying57 hi hz0 hz1 hz2 rfl (by decide) _ _ _ (by rfl) aJ.o _ 1 _ (by rfl) aG.o (by omega) ?_;intro a3 aF w3 hB;have H:=A4 (hB.cq (W.aj _) aB.o);have hm:=A4 (OI aI.o I X H.o.1))
       | (go_at_call 26;refine(Ly _ b _ vs vc _ _ _ _ _ _ hm.o.1 hm.o.2 aT).k ?_;rintro w5⟨vc',k1,k2,k3,k4⟩))
      go_ret;rw[q.o,aK];have e3:CG w3 (.slice a3 ((Dm D.A6 k name D.A6.length).length+1) aF) (Dm D.A6 k name D.A6.length++[(name,(D.A6[k]'O).2)]):=by
       have:=hB.AP;unfold CG;rw[KU,AX];exact this
      refine⟨rfl,OJ aI.o aW.o I X H.o.1 e3 H.o.2 ?_ k1 k2 k3 k4⟩;rintro f⟨e,he,rfl⟩;rcases AU.1 he with he|he
      ·exact .inl ⟨e,LK _ _ _ _ e he,rfl⟩
      ·simp at he;subst he;exact .inl ⟨_,BS O,rfl⟩
   ·(have aM:(bg D.n).1=false:=by simpa using aK)
    go_enter func204,ntmps204
    go_wp2_with (first|(go_at_call 24;refine(DC _ _ _ _ hd.o).k ?_;rintro w' rfl;rw[aS.o])|(go_at_call 25;refine(GU _ _ _ _ _ _ aQ.o).k ?_;rintro w1⟨I,X⟩));go_ret;rw[q.o,aM];exact⟨rfl,aI.o.bN aE I X⟩
def less(a b:ByteArray):Bool:=Op.bytesLess a.toList b.toList
def FE(l:List ByteArray):List Value:=l.map Value.string
def Ex(l:List ByteArray)(x:ByteArray):Nat->Nat
 | 0=>0
 | k+1=>match l[k]? with
  | some y=>if less x y then Ex l x k else k+1
  | none=>k+1
def ins(l:List ByteArray)(x:ByteArray):List ByteArray:=l.take (Ex l x l.length)++x::l.drop (Ex l x l.length)
def EJ(es:List AI):Nat->List ByteArray
 | 0=>[]
 | k+1=>match es[k]? with
  | some e=>ins (EJ es k) e.1
  | none=>EJ es k
def dList(es:List AI):List ByteArray:=EJ es es.length
def Tr(l:List ByteArray)(x:ByteArray)(k:Nat):Ex l x k<=k:=by
 induction k with
 | zero=>simp[Ex]
 | succ k ih=>
  simp only[Ex];split
  ·split<;>omega
  ·omega
def A0l(l:List ByteArray)(x:ByteArray):(ins l x).length=l.length+1:=by
 have:=Tr l x l.length;simp[ins];omega
def Mp(es:List AI)(k:Nat)(hk:k<=es.length):(EJ es k).length=k:=by
 induction k with
 | zero=>rfl
 | succ k ih=>
  simp only[EJ,Ef (show k<es.length by omega)];rw[A0l,ih (by omega)]
def Mo(es:List AI)(k:Nat)(h:k<es.length):EJ es (k+1)=ins (EJ es k) (es[k]'h).1:=by
 simp only[EJ,Ef h]
def Tq(l:List ByteArray)(x:ByteArray)(k:Nat)(z:k<l.length)(h:less x (l[k]'z)=true):Ex l x (k+1)=Ex l x k:=by
 simp only[Ex,Ef z];rw[Ah h]
def Tp(l:List ByteArray)(x:ByteArray)(k:Nat)(z:k<l.length)(h:less x (l[k]'z)=false):Ex l x (k+1)=k+1:=by
 simp only[Ex,Ef z];rw[Ae (by simp[h])]
def Wb(l:List ByteArray)(x:ByteArray)(m:Nat)(z:m<l.length):
 ((FE (l.take (m+1)++x::l.drop (m+1))).set (m+1) (.string (l[m]'z))).set m (.string x)=FE (l.take m++x::l.drop m):=by
 have H:=Dz z;have O:=Fy z;have I:(l.take m).length=m:=by simp;omega
 rw[H,O];unfold FE;simp only[Ed,F8,C6,Fb,F7];have h:(List.map Value.string (l.take m)).length=m:=by simpa using I
 rw[K7 _ _ (by omega),h,show m+1-m=1 from by omega];simp only[V3,List.set_cons_zero];rw[K7 _ _ (by omega),h,UU];rfl
def O8(w:World)(b:Nat)(D:DS)(F:Nat->FC)(Ft:Nat->Prop)(h:D7 w b D F Ft)(hs:D.A6.length<1099511627776):
 Aj 48 #[A7 b] w λe w'=>∃v,e=.returned v/\w'.ownsRow 0 9 1 v D.A6.length (FE (dList D.A6))/\A5 Ab w w'/\(∀g,v.ownBlock=some g->w.heap.size<=g):=by
 obtain⟨vd,vs,vc,vals,VB,hr,hft⟩:=h;have bB:=A4 hr;have c0:=hr.Ai.c0;have⟨i0,hi,hz0,hz1,hz2⟩:=Eb Tryz.eM;obtain⟨a,cap,rfl,z1,z2,aE⟩:=bB.o.A6.BV;unfold maxLen at z2;have a1:i0.bytes*D.A6.length<=281474976710656:=by rw[hz2];omega
 have a4:D.A6.length<=maxLen:=by unfold maxLen;omega
 have a2:=A4 a1;have a6:=A4 a4
 go_enter func48,ntmps48
 go_wp2_with (at_make;refine wpList_make_own _ rfl _ _ 106 rfl 0 9 i0 _ 1 underlying106 hi hz0 hz1 _ _ _ D.A6.length rfl rfl rfl a2.o a6.o (C8 _) ?_;intro w1 aF aP;have c01:=aP.cell c0 (by simp);have aS:=A4 aF);go_loopw [3,18] (λv i wr=>∃k:Nat,k<=D.A6.length/\i=A0 k/\A5 Ab w wr/\Hid (wr.ownsRow 0 9 1 v k (FE (EJ D.A6 k)))/\Hid (∀x,v.oB x->w.heap.size<=x)) (λ_ i _=>D.A6.length-(intOf i).toNat)
 ·exact⟨0,C8 _,rfl,(A5.C _ w).Cp aP (λk hk=>by cases hk),aS.o,λx hx=>by cases hx;exact Aq _⟩
 ·obtain⟨k,hk,rfl,X,aO,aR⟩:=hrel;by_cases z:k<D.A6.length
  ·obtain⟨g,rfl,hn,hp⟩:=aE k z;have aM:g<w.heap.size:=H7 w _ hn;have a0:Aa wr g (k*2) (.string (D.A6[k]'z).1):=(Dp (X.Ao g aM (λh=>h))).trans hn;have hp':Aa wr g (k*2+1) (A7 ((D.A6[k]'z).2)):=(Dp (X.Ao g aM (λh=>h))).trans hp;have hsz:=X.Am;have aA:=A4 ((aO.o.alloc (.cells #[.string (D.A6[k]'z).1,A7 ((D.A6[k]'z).2)] 70)).alloc (.cells #[.string (D.A6[k]'z).1] 9));have aN:=A4 (Src.ba (size:=1) underlying106 (wr.alloc (.cells #[.string (D.A6[k]'z).1,A7 ((D.A6[k]'z).2)] 70)) #[.string (D.A6[k]'z).1] 9 (wr.heap.size+1) (by simp) 1 1 rfl (by simp[Value.oneCell']));generalize hx:(D.A6[k]'z).1=x at a0 aA aN;have bA:=A4 hx;go_wp2_with (at_builtin;refine De rfl (.tmp 22) (.tmp 25) 106 106 rfl 9 i0 _ 1 16 underlying106 hi hz0 hz1 hz2 rfl (by decide) _ _ _ (by rfl) aA.o _ 1 _ (by rfl) aN.o (by omega) ?_;intro a3 H w3 hB);have hl:=A4 (Mp D.A6 k hk);obtain⟨l,aD⟩:∃l,EJ D.A6 k=l:=⟨_,rfl⟩;have a9:=A4 aD;(have a7:l.length=k:=by rw[<-aD];exact hl.o);have aH:w3.ownsRow 0 9 1 (.slice a3 (k+1) H) (k+1) (FE (l.take k++x::l.drop k)):=by
    have:=hB.AP;rw[aD]at this;rw[Ez (by omega),Ke (by omega)];simpa[FE] using this
   have aV:=A4 aH;have aT:=A4 (hB.cq ((X.aj _).aj _) aR.o);(have hmax:H<=maxLen:=by have⟨_,_,he,h1,h2,_⟩:=Bb aH;cases he;exact h2);obtain⟨O,aZ⟩:∃O,a3=some (Ad O 0):=by
    have⟨_,_,he,h1,h2,h3,_⟩:=Bb aH;cases he;exact h3 (by omega)
   have aK:=A4 a7;subst aZ;have a5:=A4 aT.o.1;have Y:=A4 (aT.o.2);have fin:Hid (∀(wq:World) (j:Nat),j<=k->Ex l x k=j->wq.ownsRow 0 9 1 (AN O (k+1) H) (k+1) (FE (l.take j++x::l.drop j))->wq.ownsRow 0 9 1 (AN O (k+1) H) (k+1) (FE (EJ D.A6 (k+1)))):=by
    intro wq j hj hp h;rw[Mo D.A6 k z,a9.o,bA.o,ins,aK.o,hp];exact h
   go_loopw [6] (λi wq=>∃j:Nat,j<=k/\i=A0 j/\Hid (A5 Ab w wq)/\Hid (wq.ownsRow 0 9 1 (AN O (k+1) H) (k+1) (FE (l.take j++x::l.drop j)))/\Hid (Ex l x k=Ex l x j)) (λi _=>(intOf i).toNat)
   ·exact⟨k,Aq _,rfl,a5,aV,rfl⟩
   ·obtain⟨j,hj,rfl,aG,I,aJ⟩:=hrel;by_cases aX:j=0
    ·subst aX;rw[show ((0:Nat):Int)=0 from rfl];go_wp2;go_quiet (fail);go_wp2;go_roundw
     ·refine⟨k+1,by omega,by go_num,aG.o.bb _,?_,Y.o⟩;exact fin.o _ 0 (by omega) (by rw[aJ.o];rfl) I.o
     ·simp[intOf];omega
    ·(have hj1:(0:Int)<(j:Int):=by omega);(have hj2:0<j:=by omega);(have W:j-1<l.length:=by have:=aK.o;omega);(have aW:j<=l.length:=by have:=aK.o;omega);obtain⟨y,hy⟩:∃y,l[j-1]'W=y:=⟨_,rfl⟩
     have g1:Aa wr O (j-1) (.string y):=BB I.o rfl (by
      unfold FE;rw[Ed,Iw (by simp;omega)]
      simp[List.getElem?_take,W,hy];omega)
     have g2:Aa wr O j (.string x):=BB I.o rfl (by
      unfold FE;rw[Ed,Ht (by simp;omega)]
      simp[Nat.min_eq_left aW])
     have gz:∀o,wr.frozen? (Ad O o)=false:=λo=>Ga I.o rfl o;by_cases aI:less x y=true
     ·have aQ:Op.bytesLess x.toList y.toList=true:=aI;have aL:=A4 aI;have aU:=A4 hy;go_wp2;go_quiet (fail);go_wp2;go_region;go_wp2;go_roundw
      ·refine⟨j-1,by omega,by go_num,?_,?_,?_⟩
       ·have h1:=((aG.o.bn (p:=(Ad O j)) (λh=>by have:=Y.o O rfl;simp at h;omega) (.string y)).bn (p:=(Ad O (j-1))) (λh=>by have:=Y.o O rfl;simp at h;omega) (.string x));exact⟨h1.os,h1.FR,h1.FU,h1.Am,h1.Ao⟩
       ·have s1:=(I.o.stored j (.string y)).1;have s2:=(s1.stored (j-1) (.string x)).1;have e:=Wb l x (j-1) W;rw[show j-1+1=j from by omega,aU.o]at e;rw[e]at s2;exact s2
       ·have:=Tq l x (j-1) W (by rw[aU.o];exact aL.o);rw[show j-1+1=j from by omega]at this;unfold Hid;rw[aJ.o];exact this
      ·simp[intOf];omega
     ·(have aB:less x y=false:=by simpa using aI);have aQ:Op.bytesLess x.toList y.toList=false:=aB;have aL:=A4 aB;have aU:=A4 hy;go_wp2;go_quiet (fail);go_wp2;go_roundw
      ·refine⟨k+1,by omega,by go_num,aG.o.bb _,?_,Y.o⟩;refine fin.o _ j hj ?_ I.o;have:=Tp l x (j-1) W (by rw[aU.o];exact aL.o);rw[show j-1+1=j from by omega]at this;rw[aJ.o];exact this
      ·simp[intOf];omega
  ·(have a8:k=D.A6.length:=by omega);have aY:=A4 a8;go_wp2;go_ret;refine⟨_,rfl,?_,X,aR.o⟩;have:=aO.o;rw[aY.o]at this;exact this
def Fl(c:Int)(n:Nat):Nat:=((if c<0 then -(c+1) else c) % ((n:Int)+1)).toNat
def Jx(c:Int)(n:Nat):Fl c n<=n:=by
 unfold Fl;have h1:=Lr (if c<0 then -(c+1) else c) (b:=(n:Int)+1) (by omega);have h2:=PC (if c<0 then -(c+1) else c) (b:=(n:Int)+1) (by omega);omega
def RN(c:Int)(n:Int)(w:World)(h : -9223372036854775808<=c/\c<=9223372036854775807)(H:0<=n/\n<=4611686018427387904):
 Aj 117 #[A0 c,A0 n] w (Au (A0 (Fl c n.toNat)) λw'=>w=w'):=by
 obtain⟨h1,h2⟩:=h;obtain⟨z,h4⟩:=H;by_cases h:c<0
 ·have q:Hid ((Fl c n.toNat:Int) = -((c+1).tmod (n+1))):=by
   unfold Hid Fl;rw[Ah h,Px z,Px (Lr _ (by omega)),<-A3a (by omega),PA]
  go_enter func117,ntmps117
  go_wp2;go_ret;rw[q.o];exact⟨rfl,rfl⟩
 ·have q:Hid ((Fl c n.toNat:Int)=c % (n+1)):=by
   unfold Hid Fl;rw[Ae h,Px z,Px (Lr _ (by omega))]
  go_enter func117,ntmps117
  go_wp2;go_ret;rw[q.o];exact⟨rfl,rfl⟩
def N0(w:World)(v:Value)(z:List Int):Prop:=
 ∃I cap,v=.slice I z.length cap/\z.length<=9223372036854775807/\∀j (O:j<z.length),∃H h,I=some ⟨H,h,none⟩/\H<w.heap.size/\w.cell? ⟨H,h+j,none⟩=some (.int .i64 (z[j]'O))
def Fs(c:FC)(t:Int):FC:=
 let m:=c.2.toNat+Fl t (c.1.length-c.2.toNat)
 (c.1.take m,(c.1.take m).length)
def DU(dir:List AI)(h:List Int)(names:List ByteArray)(F:Nat->FC):Nat->(Nat->FC)
 | 0=>F
 | k+1=>let G:=DU dir h names F k
  match names[k]? with
  | none=>G
  | some name=>match lookup dir name with
   | some f=>upd G f (Fs (G f) (h.getD k 0))
   | none=>G
def G0(D:DS)(h:Int):List AI:=match Fl h D.Ap.length with
 | 0=>D.AK
 | k+1=>D.Ap.getD k []
def Fq(D:DS)(F:Nat->FC)(z:Int)(h:List Int):DS×(Nat->FC):=
 let dir:=G0 D z
 ({A6:=dir,AK:=dir,Ap:=[],n:={D.n with Bf:=false,CP:=0,Dn:=0}},DU dir h (dList dir) F dir.length)
def A0k(l:List ByteArray)(x y:ByteArray):y∈ins l x↔y=x\/y∈l:=by
 unfold ins;constructor
 ·intro h;rcases AU.1 h with h|h
  ·exact .inr (Iv h)
  ·rcases BF.1 h with h|h
   ·exact .inl h
   ·exact .inr (Lh h)
 ·rintro (rfl|h)
  ·simp
  ·rw[<-DK (Ex l x l.length) l]at h;rcases AU.1 h with h|h
   ·exact AU.2 (.inl h)
   ·exact AU.2 (.inr (Bn _ h))
def A1f(es:List AI)(k:Nat)(H:k<=es.length)(y:ByteArray):y∈EJ es k↔∃e∈es.take k,e.1=y:=by
 induction k with
 | zero=>simp[EJ]
 | succ k ih=>
  have z:=Dz (l:=es) (i:=k) H;rw[Mo es k H,A0k,ih (by omega)];constructor
  ·rintro (rfl|⟨e,h,rfl⟩)
   ·exact⟨es[k],by rw[z];exact AU.2 (.inr (Hr.2 rfl)),rfl⟩
   ·exact⟨e,by rw[z];exact AU.2 (.inl h),rfl⟩
  ·rintro⟨e,h,rfl⟩;rw[z]at h;rcases AU.1 h with h|h
   ·exact .inr ⟨e,h,rfl⟩
   ·simp at h;subst h;exact .inl rfl
def A1d(es:List AI)(y:ByteArray):y∈dList es↔∃e∈es,e.1=y:=by
 have:=A1f es es.length (Aq _) y
 rwa [Cj]at this
def BY.dV{w w':World}{b:Nat}{D:DS}{F:Nat->FC}{vd Y vc vl:Value}{H:List Value}{aB:Nat->Value}{es:List AI}(h:BY w b D F vd Y vc H aB)(hl:(vl=Y/\es=D.AK)\/∃k,∃I:k<D.Ap.length,H[k]?=some vl/\es=D.Ap[k]'I)(hb:AO w' b vl Y vc D.n)(hc:A5 (One b) w w'):
 BY w' b {D with A6:=es} F vl Y vc H aB/\∀k,C7 b {D with A6:=es} vl Y vc H aB k->C7 b D vd Y vc H aB k:=by
 have I:∀(k:Nat) (c:Array Value) (e:Nat),w.heap[k]?=some (Obj.cells c e (0,0))->e≠60->w'.heap[k]?=w.heap[k]?:=λk c e I he=>
  hc.Ao k (Bo I) (BP I h.Ai he)
 have aA:CG w vl es:=by
  rcases hl with⟨rfl,rfl⟩|⟨k,I,X,rfl⟩
  ·exact h.AK
  ·have⟨v,h2,h3⟩:=h.Da k I;rw[X]at h2;cases h2;exact h3
 have aE:∀f,D9 f es->D.As f:=by
  intro f O;rcases hl with⟨_,rfl⟩|⟨k,I,_,rfl⟩
  ·exact .inr (.inl O)
  ·exact .inr (.inr ⟨_,BS I,O⟩)
 have z:∀f,({D with A6:=es}:DS).As f->D.As f:=by
  rintro f (O|O|O)
  ·exact aE f O
  ·exact .inr (.inl O)
  ·exact .inr (.inr O)
 refine⟨⟨hb,?_,?_,?_,?_,?_,λf f' g O aD=>h.Gb f f' g (z f O) (z f' aD)⟩,?_⟩
 ·exact AA aA λg W=>by have⟨c,hh⟩:=Bd aA W;exact I g _ _ hh (by decide)
 ·exact AA h.AK λg W=>by have⟨c,hh⟩:=Bd h.AK W;exact I g _ _ hh (by decide)
 ·exact AA h.An λg W=>by have⟨c,hh⟩:=Bd h.An W;exact I g _ _ hh (by decide)
 ·intro i hi;have⟨v,X,h2⟩:=h.Da i hi;exact⟨v,X,AA h2 λg W=>by have⟨c,hh⟩:=Bd h2 W;exact I g _ _ hh (by decide)⟩
 ·intro f O;have⟨X,h2⟩:=h.BL f (z f O);refine⟨X.az (I f _ _ X (by decide)),AA h2 λg W=>by have⟨c,hh⟩:=Bd h2 W;exact I g _ _ hh (by decide)⟩
 ·intro k I;cases I using C7.bE with
  | Ai=>exact .Ai
  | dir e=>
   rcases hl with⟨rfl,_⟩|⟨j,_,X,_⟩
   ·exact .AK e
   ·exact .Da (Li X) e
  | Ag e=>exact .AK e
  | An e=>exact .An e
  | Da hm e=>exact .Da hm e
  | BL O=>exact .BL (z _ O)
  | byt O e=>exact .bw (z _ O) e
def D7.cp{w w':World}{b:Nat}{D:DS}{F:Nat->FC}{Ft:Nat->Prop}(h:D7 w b D F Ft)(z:w'.heap=w.heap):D7 w' b D F Ft:=h.aM λk _=>by rw[z]
def A5.cp{S:Nat->Prop}{a w w':World}(h:A5 S a w)(z:w'.heap=w.heap)(O:w'.os=w.os)(I:w'.tape=w.tape)(W:w'.output=w.output):A5 S a w':=
 ⟨O.trans h.os,I.trans h.FR,W.trans h.FU,by rw[z];exact h.Am,λk H X=>by rw[z];exact h.Ao k H X⟩
end
end Go.Proofs.YtodcnkbblippnabGreatDoor
