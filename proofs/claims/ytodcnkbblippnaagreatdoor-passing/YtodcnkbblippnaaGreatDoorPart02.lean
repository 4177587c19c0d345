/- Part 2 of a proof: walks of the program. -/
import Derived.Lib.AppendZeros
import Derived.Lib.Overlaps
import Derived.Lib.SliceRun
import Derived.Deep.LoopGhost
import Derived.Test.YtodcnkbblippnaaGreatDoorPart01
namespace Go.Proofs.YtodcnkbblippnaaGreatDoor
set_option maxRecDepth 100000
set_option maxHeartbeats 32000000
set_option linter.defProp false
open Go.Proofs.Tryz
section
open Go.RowKit
attribute [local go_sem ↓] Go.wp_at_zero Go.wp_at_succ
structure Passes (aA aB:Int) (sv:Value) (P:Nat->World->Int->Prop):Prop where
 Ap:∀n w w' c,P n w c->A2 (λ_=>False) w w'->P n w' c
 Hd:∀n w c,P n w c->Calls Tryz.prog 37 #[sv,.int .i64 4,.int .i64 aA,.int .i64 aA] w λe w'=>∃x,e=.returned (.tuple #[x,.int .i64 0])/\CR w' x (if D7 aA aB c then [(aA,9)] else [])/\A2 (λ_=>False) w w'
 CB:∀n w c,P (n+1) w c->Calls Tryz.prog 24 #[sv] w λe w'=>e=.returned (.int .i64 0)/\P n w' c
 BO:∀n w c,P (n+1) w c->Calls Tryz.prog 25 #[sv] w λe w'=>e=.returned (.int .i64 0)/\P n w' c
 Ew:∀n w c x,P n w c->AE c->0<=x->x<=9223372036854775807->Calls Tryz.prog 27 #[sv,.int .i64 x] w λe w'=>e=.returned (.int .i64 0)/\P n w' (D4 c x)
section
variable {aA aB c:Int} {sv:Value} {P:Nat->World->Int->Prop} {w:World} {n:Nat}
def Passes.bb(h:Passes aA aB sv P)(d:P n w c)(y:D7 aA aB c=true):
 Ac 26 #[sv,A0 4,A0 aA,A0 9] w (Ak (.bool true) λw'=>P n w' c):=by
 refine(SK w sv 4 aA 9 _ (h.Hd n w c d)).mono ?_;rintro e w'⟨rfl,z⟩;rw[y];exact⟨by simp,h.Ap _ _ _ _ d z⟩
def Passes.a6(h:Passes aA aB sv P)(d:P n w c)(b:Bool)(y:D7 aA aB c = !b):
 Ac 28 #[sv,A0 4,A0 aA] w (Ak (.bool b) λw'=>P n w' c):=by
 refine(Qh w sv 4 aA _ (h.Hd n w c d)).mono ?_;rintro e w'⟨rfl,z⟩;rw[y];exact⟨by cases b<;>simp,h.Ap _ _ _ _ d z⟩
end
section
variable {w:World} {aA aB aD aE:Int}
def F6(aA aB:Int):Int:=if aA<=9223372036854775807-aB then aA+aB-1 else aA
def PT(Q:World->Prop)(w:World)(aA y aD aE:Int)(ht:AE aA)(aU:AE y)(aY:AE aD)(aX:AE aE)(a0:Ac 21 #[A0 1152921504606846976] w λe w'=>∃b,e=.returned (A4 b)/\
  ∀Ax,1<=Ax/\Ax<=50->Ac 22 #[A4 b,.agg #[A0 (1+Dv y 4611686018427387904),A0 Ax],A0 (F6 aA (1+Dv y 4611686018427387904))] w' λe w'=>∃sb,e=.returned (.tuple #[A4 sb,A0 0])/\
   ∃P,Passes aA (1+Dv y 4611686018427387904) (A4 sb) P/\(∀n w c,P n w c->Q w)/\
    Ac 23 #[A4 sb,A0 4,A0 aA,A0 9] w' (Ak (A0 0) λw'=>P 2 w' (F6 aA (1+Dv y 4611686018427387904)))):
 Ac 9 #[A0 aA,A0 y,A0 aD,A0 aE] w (Ak (.bool true) λw'=>Q w'):=by
 have U:=A1 (λw'=>Jv w' y 4611686018427387904 aU (by decide));have L:=A1 (λw'=>Jv w' aD 50 aY (by decide));have O:=A1 (λw'=>Jv w' aE 3 aX (by decide));obtain⟨p1a,p1b⟩:=Hh y 4611686018427387904 (by decide);obtain⟨p2a,p2b⟩:=Hh aD 50 (by decide);obtain⟨p3a,p3b⟩:=Hh aE 3 (by decide);obtain⟨t1,t2⟩:=ht;generalize Dv y 4611686018427387904=l0 at *;generalize Dv aD 50=pt at *;generalize Dv aE 3=ph at *;have aM:=A1 a0;clear a0 aU aY aX;have ew1:IntKind.i64.wrap (1+l0)=1+l0:=by simp[IntKind.wrap,IntKind.bits,IntKind.signed];omega
 have ew2:IntKind.i64.wrap (1+pt)=1+pt:=by simp[IntKind.wrap,IntKind.bits,IntKind.signed];omega
 have ew3:IntKind.i64.wrap (9223372036854775807-(1+l0))=9223372036854775807-(1+l0):=by simp[IntKind.wrap,IntKind.bits,IntKind.signed];omega
 by_cases aQ:aA<=9223372036854775807-(1+l0)
 ·have ew4:IntKind.i64.wrap (aA+(1+l0))=aA+(1+l0):=by simp[IntKind.wrap,IntKind.bits,IntKind.signed];omega
  have ew5:IntKind.i64.wrap (aA+(1+l0)-1)=aA+(1+l0)-1:=by simp[IntKind.wrap,IntKind.bits,IntKind.signed];omega
  have hf:F6 aA (1+l0)=aA+(1+l0)-1:=by unfold F6;rw[Am aQ]
  rw[hf]at aM;have a1:D7 aA (1+l0) (aA+(1+l0)-1)=true:=by unfold D7;simp;omega
  have a2:D7 aA (1+l0) (D4 (aA+(1+l0)-1) 1) = !true:=by unfold D7 D4;split<;>simp<;>omega
  have aL:Hid (AE (aA+(1+l0)-1)):=by constructor<;>omega
  obtain rfl|rfl|rfl:ph=0\/ph=1\/ph=2:=by omega
  ·go_enter func9,ntmps9
   go_wp2_with (fail);refine(U.o _).mono ?_;rintro e J⟨rfl,rfl⟩;go_wp2_with (fail);refine aM.m ?_;rintro e J⟨b,rfl,I⟩;have aF:=A1 I;clear I;go_wp2_with (fail);refine(L.o _).mono ?_;rintro e J⟨rfl,rfl⟩;go_wp2_with (fail);refine(aF.o _ (by omega)).mono ?_;rintro e w2⟨sb,rfl,P,z,H,E⟩;have h:=A1 z;have aO:=A1 H;have aG:=A1 E;clear z H E aF aM U L;go_wp2_with (fail);refine aG.m ?_;rintro e w3⟨rfl,d⟩;have aH:=A1 d;clear d aG;go_wp2_with (fail);refine(O.o _).mono ?_;rintro e J⟨rfl,rfl⟩;go_wp2_with (fail);refine(O.o _).mono ?_;rintro e J⟨rfl,rfl⟩;go_wp2_with (fail);refine(h.o.bb aH.o a1).mono ?_;rintro e w4⟨rfl,d⟩;have Y:=A1 d;clear d aH;go_wp2_with (fail);refine(h.o.Ew _ _ _ 1 Y.o aL.o (by omega) (by omega)).mono ?_;rintro e w5⟨rfl,d⟩;have W:=A1 d;clear d Y;go_wp2_with (fail);refine(h.o.a6 W.o true a2).mono ?_;rintro e w6⟨rfl,d⟩;have V:=A1 d;clear d W;go_wp2_with (fail);refine(h.o.BO _ _ _ V.o).mono ?_;rintro e w7⟨rfl,d⟩;have Z:=A1 d;clear d V;go_wp2_with (fail);refine(h.o.a6 Z.o true a2).mono ?_;rintro e w8⟨rfl,d⟩;have aJ:=A1 d;clear d Z;go_wp2;go_ret;exact⟨rfl,aO.o _ _ _ aJ.o⟩
  ·go_enter func9,ntmps9
   go_wp2_with (fail);refine(U.o _).mono ?_;rintro e J⟨rfl,rfl⟩;go_wp2_with (fail);refine aM.m ?_;rintro e J⟨b,rfl,I⟩;have aF:=A1 I;clear I;go_wp2_with (fail);refine(L.o _).mono ?_;rintro e J⟨rfl,rfl⟩;go_wp2_with (fail);refine(aF.o _ (by omega)).mono ?_;rintro e w2⟨sb,rfl,P,z,H,E⟩;have h:=A1 z;have aO:=A1 H;have aG:=A1 E;clear z H E aF aM U L;go_wp2_with (fail);refine aG.m ?_;rintro e w3⟨rfl,d⟩;have aH:=A1 d;clear d aG;go_wp2_with (fail);refine(O.o _).mono ?_;rintro e J⟨rfl,rfl⟩;go_wp2_with (fail);refine(h.o.CB _ _ _ aH.o).mono ?_;rintro e w4⟨rfl,d⟩;have Y:=A1 d;clear d aH;go_wp2_with (fail);refine(O.o _).mono ?_;rintro e J⟨rfl,rfl⟩;go_wp2_with (fail);refine(h.o.bb Y.o a1).mono ?_;rintro e w5⟨rfl,d⟩;have W:=A1 d;clear d Y;go_wp2_with (fail);refine(h.o.Ew _ _ _ 1 W.o aL.o (by omega) (by omega)).mono ?_;rintro e w6⟨rfl,d⟩;have V:=A1 d;clear d W;go_wp2_with (fail);refine(h.o.a6 V.o true a2).mono ?_;rintro e w7⟨rfl,d⟩;have Z:=A1 d;clear d V;go_wp2_with (fail);refine(h.o.BO _ _ _ Z.o).mono ?_;rintro e w8⟨rfl,d⟩;have aJ:=A1 d;clear d Z;go_wp2_with (fail);refine(h.o.a6 aJ.o true a2).mono ?_;rintro e w9⟨rfl,d⟩;have aN:=A1 d;clear d aJ;go_wp2;go_ret;exact⟨rfl,aO.o _ _ _ aN.o⟩
  ·go_enter func9,ntmps9
   go_wp2_with (fail);refine(U.o _).mono ?_;rintro e J⟨rfl,rfl⟩;go_wp2_with (fail);refine aM.m ?_;rintro e J⟨b,rfl,I⟩;have aF:=A1 I;clear I;go_wp2_with (fail);refine(L.o _).mono ?_;rintro e J⟨rfl,rfl⟩;go_wp2_with (fail);refine(aF.o _ (by omega)).mono ?_;rintro e w2⟨sb,rfl,P,z,H,E⟩;have h:=A1 z;have aO:=A1 H;have aG:=A1 E;clear z H E aF aM U L;go_wp2_with (fail);refine aG.m ?_;rintro e w3⟨rfl,d⟩;have aH:=A1 d;clear d aG;go_wp2_with (fail);refine(O.o _).mono ?_;rintro e J⟨rfl,rfl⟩;go_wp2_with (fail);refine(O.o _).mono ?_;rintro e J⟨rfl,rfl⟩;go_wp2_with (fail);refine(h.o.BO _ _ _ aH.o).mono ?_;rintro e w4⟨rfl,d⟩;have Y:=A1 d;clear d aH;go_wp2_with (fail);refine(h.o.bb Y.o a1).mono ?_;rintro e w5⟨rfl,d⟩;have W:=A1 d;clear d Y;go_wp2_with (fail);refine(h.o.Ew _ _ _ 1 W.o aL.o (by omega) (by omega)).mono ?_;rintro e w6⟨rfl,d⟩;have V:=A1 d;clear d W;go_wp2_with (fail);refine(h.o.a6 V.o true a2).mono ?_;rintro e w7⟨rfl,d⟩;have Z:=A1 d;clear d V;go_wp2_with (fail);refine(h.o.BO _ _ _ Z.o).mono ?_;rintro e w8⟨rfl,d⟩;have aJ:=A1 d;clear d Z;go_wp2_with (fail);refine(h.o.a6 aJ.o true a2).mono ?_;rintro e w9⟨rfl,d⟩;have aN:=A1 d;clear d aJ;go_wp2;go_ret;exact⟨rfl,aO.o _ _ _ aN.o⟩
 ·have hf:F6 aA (1+l0)=aA:=by unfold F6;rw[Ad aQ]
  rw[hf]at aM;have a1:D7 aA (1+l0) aA=true:=by unfold D7;simp;omega
  have aR:D7 aA (1+l0) (D4 aA 1)=true:=by unfold D7 D4;split<;>simp<;>omega
  have a2:D7 aA (1+l0) (D4 aA 1) = !false:=aR;have aL:Hid (AE aA):=⟨t1,t2⟩;have aP:Hid (AE (D4 aA 1)):=by unfold Hid D4;split<;>constructor<;>omega
  have a3:D7 aA (1+l0) (D4 (D4 aA 1) 9223372036854775807)=true:=by unfold D7 D4;split<;>split<;>simp<;>omega
  have aT:D7 aA (1+l0) (D4 (D4 aA 1) 9223372036854775807) = !false:=a3;obtain rfl|rfl|rfl:ph=0\/ph=1\/ph=2:=by omega
  ·go_enter func9,ntmps9
   go_wp2_with (fail);refine(U.o _).mono ?_;rintro e J⟨rfl,rfl⟩;go_wp2_with (fail);refine aM.m ?_;rintro e J⟨b,rfl,I⟩;have aF:=A1 I;clear I;go_wp2_with (fail);refine(L.o _).mono ?_;rintro e J⟨rfl,rfl⟩;go_wp2_with (fail);refine(aF.o _ (by omega)).mono ?_;rintro e w2⟨sb,rfl,P,z,H,E⟩;have h:=A1 z;have aO:=A1 H;have aG:=A1 E;clear z H E aF aM U L;go_wp2_with (fail);refine aG.m ?_;rintro e w3⟨rfl,d⟩;have aH:=A1 d;clear d aG;go_wp2_with (fail);refine(O.o _).mono ?_;rintro e J⟨rfl,rfl⟩;go_wp2_with (fail);refine(O.o _).mono ?_;rintro e J⟨rfl,rfl⟩;go_wp2_with (fail);refine(h.o.bb aH.o a1).mono ?_;rintro e w4⟨rfl,d⟩;have Y:=A1 d;clear d aH;go_wp2_with (fail);refine(h.o.Ew _ _ _ 1 Y.o aL.o (by omega) (by omega)).mono ?_;rintro e w5⟨rfl,d⟩;have W:=A1 d;clear d Y;go_wp2_with (fail);refine(h.o.a6 W.o false a2).mono ?_;rintro e w6⟨rfl,d⟩;have V:=A1 d;clear d W;go_wp2_with (fail);refine(h.o.bb V.o aR).mono ?_;rintro e w7⟨rfl,d⟩;have Z:=A1 d;clear d V;go_wp2_with (fail);refine(h.o.Ew _ _ _ 9223372036854775807 Z.o aP.o (by omega) (by omega)).mono ?_;rintro e w8⟨rfl,d⟩;have aJ:=A1 d;clear d Z;go_wp2_with (fail);refine(h.o.bb aJ.o a3).mono ?_;rintro e w9⟨rfl,d⟩;have aN:=A1 d;clear d aJ;go_wp2_with (fail);refine(h.o.BO _ _ _ aN.o).mono ?_;rintro e aW⟨rfl,d⟩;have aI:=A1 d;clear d aN;go_wp2_with (fail);refine(h.o.a6 aI.o false aT).mono ?_;rintro e aV⟨rfl,d⟩;have aK:=A1 d;clear d aI;go_wp2;go_ret;exact⟨by show Ending.returned (.bool (!decide (aA<=9223372036854775807-(1+l0))))=_;rw[Cj (by omega)];rfl,aO.o _ _ _ aK.o⟩
  ·go_enter func9,ntmps9
   go_wp2_with (fail);refine(U.o _).mono ?_;rintro e J⟨rfl,rfl⟩;go_wp2_with (fail);refine aM.m ?_;rintro e J⟨b,rfl,I⟩;have aF:=A1 I;clear I;go_wp2_with (fail);refine(L.o _).mono ?_;rintro e J⟨rfl,rfl⟩;go_wp2_with (fail);refine(aF.o _ (by omega)).mono ?_;rintro e w2⟨sb,rfl,P,z,H,E⟩;have h:=A1 z;have aO:=A1 H;have aG:=A1 E;clear z H E aF aM U L;go_wp2_with (fail);refine aG.m ?_;rintro e w3⟨rfl,d⟩;have aH:=A1 d;clear d aG;go_wp2_with (fail);refine(O.o _).mono ?_;rintro e J⟨rfl,rfl⟩;go_wp2_with (fail);refine(h.o.CB _ _ _ aH.o).mono ?_;rintro e w4⟨rfl,d⟩;have Y:=A1 d;clear d aH;go_wp2_with (fail);refine(O.o _).mono ?_;rintro e J⟨rfl,rfl⟩;go_wp2_with (fail);refine(h.o.bb Y.o a1).mono ?_;rintro e w5⟨rfl,d⟩;have W:=A1 d;clear d Y;go_wp2_with (fail);refine(h.o.Ew _ _ _ 1 W.o aL.o (by omega) (by omega)).mono ?_;rintro e w6⟨rfl,d⟩;have V:=A1 d;clear d W;go_wp2_with (fail);refine(h.o.a6 V.o false a2).mono ?_;rintro e w7⟨rfl,d⟩;have Z:=A1 d;clear d V;go_wp2_with (fail);refine(h.o.bb Z.o aR).mono ?_;rintro e w8⟨rfl,d⟩;have aJ:=A1 d;clear d Z;go_wp2_with (fail);refine(h.o.Ew _ _ _ 9223372036854775807 aJ.o aP.o (by omega) (by omega)).mono ?_;rintro e w9⟨rfl,d⟩;have aN:=A1 d;clear d aJ;go_wp2_with (fail);refine(h.o.bb aN.o a3).mono ?_;rintro e aW⟨rfl,d⟩;have aI:=A1 d;clear d aN;go_wp2_with (fail);refine(h.o.BO _ _ _ aI.o).mono ?_;rintro e aV⟨rfl,d⟩;have aK:=A1 d;clear d aI;go_wp2_with (fail);refine(h.o.a6 aK.o false aT).mono ?_;rintro e aZ⟨rfl,d⟩;have aS:=A1 d;clear d aK;go_wp2;go_ret;exact⟨by show Ending.returned (.bool (!decide (aA<=9223372036854775807-(1+l0))))=_;rw[Cj (by omega)];rfl,aO.o _ _ _ aS.o⟩
  ·go_enter func9,ntmps9
   go_wp2_with (fail);refine(U.o _).mono ?_;rintro e J⟨rfl,rfl⟩;go_wp2_with (fail);refine aM.m ?_;rintro e J⟨b,rfl,I⟩;have aF:=A1 I;clear I;go_wp2_with (fail);refine(L.o _).mono ?_;rintro e J⟨rfl,rfl⟩;go_wp2_with (fail);refine(aF.o _ (by omega)).mono ?_;rintro e w2⟨sb,rfl,P,z,H,E⟩;have h:=A1 z;have aO:=A1 H;have aG:=A1 E;clear z H E aF aM U L;go_wp2_with (fail);refine aG.m ?_;rintro e w3⟨rfl,d⟩;have aH:=A1 d;clear d aG;go_wp2_with (fail);refine(O.o _).mono ?_;rintro e J⟨rfl,rfl⟩;go_wp2_with (fail);refine(O.o _).mono ?_;rintro e J⟨rfl,rfl⟩;go_wp2_with (fail);refine(h.o.BO _ _ _ aH.o).mono ?_;rintro e w4⟨rfl,d⟩;have Y:=A1 d;clear d aH;go_wp2_with (fail);refine(h.o.bb Y.o a1).mono ?_;rintro e w5⟨rfl,d⟩;have W:=A1 d;clear d Y;go_wp2_with (fail);refine(h.o.Ew _ _ _ 1 W.o aL.o (by omega) (by omega)).mono ?_;rintro e w6⟨rfl,d⟩;have V:=A1 d;clear d W;go_wp2_with (fail);refine(h.o.a6 V.o false a2).mono ?_;rintro e w7⟨rfl,d⟩;have Z:=A1 d;clear d V;go_wp2_with (fail);refine(h.o.bb Z.o aR).mono ?_;rintro e w8⟨rfl,d⟩;have aJ:=A1 d;clear d Z;go_wp2_with (fail);refine(h.o.Ew _ _ _ 9223372036854775807 aJ.o aP.o (by omega) (by omega)).mono ?_;rintro e w9⟨rfl,d⟩;have aN:=A1 d;clear d aJ;go_wp2_with (fail);refine(h.o.bb aN.o a3).mono ?_;rintro e aW⟨rfl,d⟩;have aI:=A1 d;clear d aN;go_wp2_with (fail);refine(h.o.BO _ _ _ aI.o).mono ?_;rintro e aV⟨rfl,d⟩;have aK:=A1 d;clear d aI;go_wp2_with (fail);refine(h.o.a6 aK.o false aT).mono ?_;rintro e aZ⟨rfl,d⟩;have aS:=A1 d;clear d aK;go_wp2;go_ret;exact⟨by show Ending.returned (.bool (!decide (aA<=9223372036854775807-(1+l0))))=_;rw[Cj (by omega)];rfl,aO.o _ _ _ aS.o⟩
end
end
section
open Go.RowKit
def Mk(w:World)(x:Int):Ac 63 #[A0 x] w (Ak (.bool (decide (0<=x/\x<8))) λw'=>w=w'):=by
 obtain⟨q,d⟩:∃q,decide (0<=x/\x<8)=q:=⟨_,rfl⟩;rw[d];have h:=A1 d;by_cases h1:0<=x<;>by_cases h2:x<8
 all_goals try (exfalso;omega)
 all_goals
  go_enter func63,ntmps63
  go_wp2;go_ret;refine⟨?_,rfl⟩;rw[<-h.o];simp
  try omega
def Mj(w:World)(x:Int):Ac 58 #[A0 x] w (Ak (.bool (decide (1<=x/\x<=4611686018427387904))) λw'=>w=w'):=by
 obtain⟨q,d⟩:∃q,decide (1<=x/\x<=4611686018427387904)=q:=⟨_,rfl⟩;rw[d];have h:=A1 d;by_cases h1:1<=x<;>by_cases h2:x<=4611686018427387904
 all_goals try (exfalso;omega)
 all_goals
  go_enter func58,ntmps58
  go_wp2;go_ret;refine⟨?_,rfl⟩;rw[<-h.o];simp
  try omega
def B8(Ab d:Int):Int:=if Ab < -9223372036854775808+d then -9223372036854775808 else Ab-d+1
def Qg(Ab d t:Int)(h:AE t):decide (B8 Ab d<=t)=D7 t d Ab:=by
 obtain⟨t1,t2⟩:=h;unfold B8 D7;split<;>simp<;>omega
def HV(w:World)(y:Nat)(Ab d:Int)(c3:A5 w y 3 (A0 d))(c4:A5 w y 5 (A0 Ab))(I:1<=d/\d<=4611686018427387904)(J:AE Ab):
 Ac 71 #[A4 y] w (Ak (A0 (B8 Ab d)) λw'=>A2 A7 w w'):=by
 obtain⟨l1,l2⟩:=I;obtain⟨k1,k2⟩:=J;have ew:IntKind.i64.wrap (-9223372036854775808+d) = -9223372036854775808+d:=by simp[IntKind.wrap,IntKind.bits,IntKind.signed];omega
 go_enter func71,ntmps71
 go_wp2;refine EJ (λw'=>A5 w' y 3 (A0 d)/\A5 w' y 5 (A0 Ab)) 9
  (Bj [0,1,2,3,4,5,6,7,8] []) (by kernel_rfl) (by kernel_rfl) (λ_ _ _ _ _ h=>h) ⟨c3,c4⟩ ?_
 iterate 9 (refine DW (v:=?_) rfl (by rfl) ?_ ?_;rotate_left;(· (intro w' H;(try dsimp only at H);go_simp;try with_reducible rfl));(try simp only[An]))
 refine Bd ?_;simp only[Dh,Da];have d3:A5 w.drew y 3 (A0 d):=c3;have d4:A5 w.drew y 5 (A0 Ab):=c4;have E:Hid (A2 A7 w w.drew):=(A2.C _ w).I;generalize w.drew=w1 at d3 d4 E ⊢;by_cases h:Ab < -9223372036854775808+d
 ·have z:Hid (B8 Ab d = -9223372036854775808):=by unfold Hid B8;rw[Am h]
  go_wp2;go_ret;rw[z.o];exact⟨rfl,E.o⟩
 ·have z:Hid (B8 Ab d=Ab-d+1):=by unfold Hid B8;rw[Ad h]
  have ew2:IntKind.i64.wrap (Ab-d)=Ab-d:=by simp[IntKind.wrap,IntKind.bits,IntKind.signed];omega
  have ew3:IntKind.i64.wrap (Ab-d+1)=Ab-d+1:=by simp[IntKind.wrap,IntKind.bits,IntKind.signed];omega
  go_wp2;refine EJ (λw'=>A5 w' y 3 (A0 d)/\A5 w' y 5 (A0 Ab)) 10
   (Bj [0,1,2,3,4,5,6,7,8,9] []) (by kernel_rfl) (by kernel_rfl) (λ_ _ _ _ _ h=>h) ⟨d3,d4⟩ ?_
  iterate 10 (refine DW (v:=?_) rfl (by rfl) ?_ ?_;rotate_left;(· (intro w' H;(try dsimp only at H);go_simp;try with_reducible rfl));(try simp only[An]))
  refine Bd ?_;simp only[Dh,Da];go_wp2;go_ret;rw[z.o];exact⟨rfl,E.o.I⟩
section
variable {P:Program}
def HM(w:World)(V Z ty elem:TypeId)(i:TypeInfo)(size:Nat)(g o z I:Nat)(a:Addr)(h E k:Nat)(d:Array Value)(t:TypeId)(y:List Value)(hu:P.underlying V=some (.slice elem))(hi:P.info? elem=some i)(H:i.size=size)(W:w.heap[g]?=some (.cells d t (0,0)))(hn:Nat.min h z=k)(U:y.length=k*size)(O:∀j v,y[j]?=some v->w.cell? (a.add j)=some v)(L:o+y.length<=d.size)(Y:∀v∈y,v.oneCell'=true):
 (Builtin.copy_ #[V,Z] ty #[.slice (some (A8 g o)) z I,.slice (some a) h E]).run P w =
  .ok (goInt k) (w.setRow g (d.toList.take o++y++d.toList.drop (o+y.length)).toArray):=by
 subst H;have hf:=L9 (P:=P) w i.size k a h E y U O;have J:=run_storeCells_at P g o t y 0 d w W (by simpa using L) Y;simp only[Np]at J;simp[Builtin.copy_,run_underlying hu,Builtin.lenOf,sizeOf,typeInfo,hi,hn,hf,J]
def P4(w:World)(t V ty e:TypeId)(i:TypeInfo)(z:Value)(Y:IntKind)(W:P.underlying t=some (.slice e))(O:P.underlying V=some (.int Y))(hi:P.info? e=some i)(Z:i.zero=some z)(hs0:0<i.size)(h:Option Addr)(len cap:Nat)(d:List Value)(J:(Builtin.firstCells i.size len (.slice h len cap)).run P w.drew=.ok d.toArray w.drew)(n:Nat)(h0:0<n)(hgrow:cap<len+n)(h63:((len+n:Nat):Int)<=9223372036854775807)(h48:n*i.bytes<=281474976710656)(hcap:Builtin.nextslicecap (len+n) cap*i.bytes<=281474976710656):
 (Builtin.append_ #[t,V] ty #[.slice h len cap,.int .i64 n]).run P w =
  .ok (.slice (some ⟨w.heap.size,0,none⟩) (len+n) (grownCap w (len+n) cap e)) (w.drew.alloc (.cells (d.toArray++Builtin.zeroCells z.cells n++Builtin.zeroCells z.cells (grownCap w (len+n) cap e-(len+n))) e)):=by
 have hw:IntKind.i64.wrap (n:Int)=n:=by rw[IP];omega
 have L:¬((n:Int)<0):=by omega
 have I:¬(281474976710656<(n:Int)*(i.bytes:Int)):=by rw[<-Int.natCast_mul];omega
 have U:¬(n*i.size=0):=Nat.mul_ne_zero (by omega) (by omega);have y:¬(len+n<=cap):=by omega
 have E:¬(281474976710656<Builtin.nextslicecap (len+n) cap*i.bytes):=by omega
 have H:¬(9223372036854775807<(len:Int)+(n:Int)):=by omega
 simp[Builtin.append_,run_underlying W,run_underlying O,sizeOf,typeInfo,zeroValue,hi,Z,asInt,asIntOf,hw,L,U,I,y,E,H,Question.forced,J,newRow,grownCap]
def LB{w:World}{y e size n g cap:Nat}{xs:List Value}(h:w.ownsRow y e size (.slice (some ⟨g,0,none⟩) n cap) n xs):∃d:Array Value,w.heap[g]?=some (.cells d e (0,0))/\d.size=cap*size/\d.toList.take (n*size)=xs/\n<=cap/\cap<=maxLen:=by
 rcases h.2 with⟨E,_⟩|⟨g',cap',d,E,_,L,H,z,I,J⟩
 ·cases E
 ·cases E;exact⟨d,L,I,J,H,z⟩
end
structure DS where
 A3:List AL
 BT:List AL
 AI:List (List AL)
 n:DN
abbrev FC:=List UInt8×Int
def Dy(f:Nat)(es:List AL):Prop:=∃e∈es,e.2=f
def DS.AM(D:DS)(f:Nat):Prop:=Dy f D.A3\/Dy f D.BT\/∃c∈D.AI,Dy f c
structure Bt (w:World) (b:Nat) (D:DS) (F:Nat->FC) (vd vs vc:Value) (aA:List Value) (VB:Nat->Value):Prop where
 Ae:Au w b vd vs vc D.n
 A3:Dl w vd D.A3
 BT:Dl w vs D.BT
 Aj:w.ownsRow 0 120 1 vc D.AI.length aA
 D2:∀i (h:i<D.AI.length),∃v,aA[i]?=some v/\Dl w v (D.AI[i]'h)
 BN:∀f,D.AM f->Ct w f (VB f) (F f).2/\Fh w (VB f) (F f).1
 Fv:∀f f' g,D.AM f->D.AM f'->(VB f).ownBlock=some g->(VB f').ownBlock=some g->f=f'
def BP(b:Nat)(D:DS)(vd vs vc:Value)(aA:List Value)(VB:Nat->Value)(k:Nat):Prop:=
 k=b\/vd.ownBlock=some k\/vs.ownBlock=some k\/vc.ownBlock=some k\/(∃v∈aA,v.ownBlock=some k)\/D.AM k\/∃f,D.AM f/\(VB f).ownBlock=some k
section
variable {b:Nat} {D:DS} {vd vs vc:Value} {aA:List Value} {VB:Nat->Value}
def BP.Ae:BP b D vd vs vc aA VB b:=.inl rfl
def BP.A3{k:Nat}(h:vd.ownBlock=some k):BP b D vd vs vc aA VB k:=.inr (.inl h)
def BP.BT{k:Nat}(h:vs.ownBlock=some k):BP b D vd vs vc aA VB k:=.inr (.inr (.inl h))
def BP.Aj{k:Nat}(h:vc.ownBlock=some k):BP b D vd vs vc aA VB k:=.inr (.inr (.inr (.inl h)))
def BP.D2{k:Nat}{v:Value}(d:v∈aA)(h:v.ownBlock=some k):BP b D vd vs vc aA VB k:=.inr (.inr (.inr (.inr (.inl ⟨v,d,h⟩))))
def BP.BN{f:Nat}(h:D.AM f):BP b D vd vs vc aA VB f:=.inr (.inr (.inr (.inr (.inr (.inl h)))))
def BP.bk{f k:Nat}(d:D.AM f)(h:(VB f).ownBlock=some k):BP b D vd vs vc aA VB k:=.inr (.inr (.inr (.inr (.inr (.inr ⟨f,d,h⟩)))))
def BP.bt{d:(k:Nat)->BP b D vd vs vc aA VB k->Prop}(Ae:d b .Ae)(dir:∀ {k} (e:vd.ownBlock=some k),d k (.A3 e))(CZ:∀ {k} (e:vs.ownBlock=some k),d k (.BT e))(Aj:∀ {k} (e:vc.ownBlock=some k),d k (.Aj e))(D2:∀ {k v} (z:v∈aA) (e:v.ownBlock=some k),d k (.D2 z e))(BN:∀ {f} (h:D.AM f),d f (.BN h))(byt:∀ {f k} (y:D.AM f) (e:(VB f).ownBlock=some k),d k (.bk y e)){k:Nat}(t:BP b D vd vs vc aA VB k):d k t:=by
 rcases t with rfl|e|e|e|⟨v,z,e⟩|h|⟨f,y,e⟩
 ·exact Ae
 ·exact dir e
 ·exact CZ e
 ·exact Aj e
 ·exact D2 z e
 ·exact BN h
 ·exact byt y e
end
def Du(w:World)(b:Nat)(D:DS)(F:Nat->FC)(Ft:Nat->Prop):Prop:=
 ∃vd vs vc aA VB,Bt w b D F vd vs vc aA VB/\∀k,BP b D vd vs vc aA VB k->Ft k
section
variable {w w':World} {b:Nat} {D:DS} {F:Nat->FC} {vd vs vc:Value} {aA:List Value} {VB:Nat->Value}
def Bt.b1(h:Bt w b D F vd vs vc aA VB):aA.length=D.AI.length:=by have:=h.Aj.1;omega
def Bt.lt(h:Bt w b D F vd vs vc aA VB){k:Nat}(z:BP b D vd vs vc aA VB k):k<w.heap.size:=by
 cases z using BP.bt with
 | Ae=>exact CD h.Ae
 | dir e=>exact Av h.A3 e
 | CZ e=>exact Av h.BT e
 | Aj e=>exact Av h.Aj e
 | D2 hv e=>
  obtain⟨i,y⟩:=List.getElem?_of_mem hv;have E:i<D.AI.length:=by rw[<-h.b1];exact(Tl.1 y).1
  obtain⟨v',d,H⟩:=h.D2 i E;rw[y]at d;cases d;exact Av H e
 | BN hf=>exact CD (h.BN _ hf).1
 | byt hf e=>exact Av (h.BN _ hf).2 e
def Bt.aq(h:Bt w b D F vd vs vc aA VB)(y:EC (BP b D vd vs vc aA VB) w w'):Bt w' b D F vd vs vc aA VB:=by
 refine⟨?_,?_,?_,?_,?_,?_,h.Fv⟩
 ·have:=h.Ae;unfold Au at this ⊢;rw[y b .Ae];exact this
 ·exact Aq h.A3 λg d=>y g (.A3 d)
 ·exact Aq h.BT λg d=>y g (.BT d)
 ·exact Aq h.Aj λg d=>y g (.Aj d)
 ·intro i I;obtain⟨v,z,H⟩:=h.D2 i I;exact⟨v,z,Aq H λg d=>y g (.D2 (Tg z) d)⟩
 ·intro f E;obtain⟨z,H⟩:=h.BN f E;refine⟨?_,Aq H λg d=>y g (.bk E d)⟩;unfold Ct at z ⊢;rw[y f (.BN E)];exact z
def Du.aq{Ft:Nat->Prop}(h:Du w b D F Ft)(z:EC Ft w w'):Du w' b D F Ft:=by
 obtain⟨vd,vs,vc,aA,VB,y,d⟩:=h;exact⟨vd,vs,vc,aA,VB,y.aq (z.U d),d⟩
def Cb{w:World}{g k:Nat}{c H:Array Value}{e z:Nat}(h:w.heap[g]?=some (.cells c e (0,0)))(y:w.heap[k]?=some (.cells H z (0,0)))(d:e≠z):g≠k:=by
 intro E;subst E;rw[h]at y;cases y;exact d rfl
def Bt.ag(h:Bt w b D F vd vs vc aA VB){n:DN}(I:Au w' b vd vs vc n)(U:A2 (One b) w w'):Bt w' b {D with n:=n} F vd vs vc aA VB:=by
 have y:∀(k:Nat) (c:Array Value) (e:Nat),w.heap[k]?=some (Obj.cells c e (0,0))->e≠95->w'.heap[k]?=w.heap[k]?:=λk c e y O=>
  U.Ao k (CD y) (Cb y h.Ae O)
 refine⟨I,?_,?_,?_,?_,?_,h.Fv⟩
 ·exact Aq h.A3 λg d=>by obtain⟨c,z⟩:=BA h.A3 d;exact y g _ _ z (by decide)
 ·exact Aq h.BT λg d=>by obtain⟨c,z⟩:=BA h.BT d;exact y g _ _ z (by decide)
 ·exact Aq h.Aj λg d=>by obtain⟨c,z⟩:=BA h.Aj d;exact y g _ _ z (by decide)
 ·intro i L;obtain⟨v,H,E⟩:=h.D2 i L;exact⟨v,H,Aq E λg d=>by obtain⟨c,z⟩:=BA E d;exact y g _ _ z (by decide)⟩
 ·intro f J;obtain⟨H,E⟩:=h.BN f J;refine⟨?_,Aq E λg d=>by obtain⟨c,z⟩:=BA E d;exact y g _ _ z (by decide)⟩;unfold Ct at H ⊢;rw[y f _ _ H (by decide)];exact H
end
def lookup:List AL->ByteArray->Option Nat
 | [],_=>none
 | e::r,name=>if e.1=name then some e.2 else lookup r name
def GC(es:List AL)(name:ByteArray):(AN es name = -1/\lookup es name=none)\/∃k,∃d:k<es.length,AN es name=(k:Int)/\lookup es name=some (es[k]'d).2/\(es[k]'d).1=name:=by
 induction es with
 | nil=>exact .inl ⟨rfl,rfl⟩
 | cons e r ih=>
  by_cases h:e.1=name
  ·exact .inr ⟨0,by simp,by simp[AN,h],by simp[lookup,h],by simpa using h⟩
  ·rcases ih with⟨z,y⟩|⟨k,d,z,y,E⟩
   ·exact .inl ⟨by simp[AN,h,z],by simp[lookup,h,y]⟩
   ·exact .inr ⟨k+1,by simpa using d,by simp only[AN,h,BG,z];rw[Ad (by omega)];omega,by simp[lookup,h,y],by simpa using E⟩
def Bt.bB{w:World}{b:Nat}{D:DS}{F:Nat->FC}{vd vs vc:Value}{aA:List Value}{VB:Nat->Value}(h:Bt w b D F vd vs vc aA VB)(k:Nat)(d:k<D.A3.length):
 Ct w (D.A3[k]'d).2 (VB (D.A3[k]'d).2) (F (D.A3[k]'d).2).2/\Fh w (VB (D.A3[k]'d).2) (F (D.A3[k]'d).2).1:=h.BN _ (.inl ⟨_,Cx d,rfl⟩)
def Fh.BU{w:World}{v:Value}{bs:List UInt8}(h:Fh w v bs):∃a cap,v=.slice a bs.length cap/\bs.length<=cap/\cap<=maxLen:=by
 obtain⟨a,cap,y,d,z,_⟩:=AR h;exact⟨a,cap,y,d,z⟩
def Cz(w:World)(Ft:Nat->Prop)(w':World)(b:Nat)(h:DS)(F':Nat->FC):Prop:=
 A2 Ft w w'/\∃d,Du w' b h F' d/\(∀k,d k->k<w'.heap.size)/\∀k,d k->Ft k\/w.heap.size<=k
def Cz.a7{w w':World}{Ft:Nat->Prop}{b:Nat}{y:DS}{F':Nat->FC}{vd vs vc:Value}{aA:List Value}{VB:Nat->Value}(E:A2 Ft w w')(h:Bt w' b y F' vd vs vc aA VB)(z:∀k,BP b y vd vs vc aA VB k->Ft k\/w.heap.size<=k):Cz w Ft w' b y F':=
 ⟨E,_,⟨vd,vs,vc,aA,VB,h,λ_ d=>d⟩,λ_ d=>h.lt d,z⟩
def Bt.bF{w w':World}{b:Nat}{D:DS}{F F':Nat->FC}{vd vs vc Z Y:Value}{aA:List Value}{VB VB':Nat->Value}{n:DN}{es:List AL}{S:Nat->Prop}(h:Bt w b D F vd vs vc aA VB)(hb:Au w' b Z vs Y n)(aE:w'.ownsRow 0 120 1 Y (D.AI.length+1) (aA++[Z]))(aB:Dl w' Z es)(hc:A2 S w w')(hS:∀k,S k->k=b\/vc.ownBlock=some k)(hF:∀f,D.AM f->F' f=F f/\VB' f=VB f)(J:∀f,Dy f es->D.AM f\/(Ct w' f (VB' f) (F' f).2/\Fh w' (VB' f) (F' f).1/\(VB' f).ownBlock=none)):
 Bt w' b {D with A3:=es,AI:=D.AI++[es],n:=n} F' Z vs Y (aA++[Z]) VB':=by
 have H:∀(k:Nat) (c:Array Value) (e:Nat),w.heap[k]?=some (Obj.cells c e (0,0))->e≠95->e≠120->w'.heap[k]?=w.heap[k]?:=λk c e H he aF=>
  hc.Ao k (CD H) (λhs=>by
   rcases hS k hs with hs|hs
   ·exact Cb H h.Ae he hs
   ·obtain⟨c',W⟩:=BA h.Aj hs
    exact Cb H W aF rfl)
 have E:∀f,({D with A3:=es,AI:=D.AI++[es],n:=n}:DS).AM f->D.AM f\/Dy f es:=by
  rintro f (d|d|⟨c,y,d⟩)
  ·exact .inr d
  ·exact .inl (.inr (.inl d))
  ·rcases B3.1 y with y|y
   ·exact .inl (.inr (.inr ⟨c,y,d⟩))
   ·simp at y;subst y;exact .inr d
 have I:∀f,D.AM f->Ct w' f (VB' f) (F' f).2/\Fh w' (VB' f) (F' f).1:=by
  intro f d;obtain⟨V,O⟩:=h.BN f d;rw[(hF f d).1,(hF f d).2];refine⟨?_,Aq O λg z=>by obtain⟨c,W⟩:=BA O z;exact H g _ _ W (by decide) (by decide)⟩;unfold Ct at V ⊢;rw[H f _ _ V (by decide) (by decide)];exact V
 refine⟨hb,aB,?_,?_,?_,?_,?_⟩
 ·exact Aq h.BT λg z=>by obtain⟨c,W⟩:=BA h.BT z;exact H g _ _ W (by decide) (by decide)
 ·simpa using aE
 ·intro i hi;by_cases L:i<D.AI.length
  ·obtain⟨v,V,O⟩:=h.D2 i L;refine⟨v,by rw[Tm (by rw[h.b1];exact L)];exact V,?_⟩;simp only[Fb L];(exact Aq O λg z=>by obtain⟨c,W⟩:=BA O z;exact H g _ _ W (by decide) (by decide))
  ·(obtain rfl:i=D.AI.length:=by simp at hi;omega);refine⟨Z,by rw[<-h.b1];simp,?_⟩;simpa using aB
 ·intro f d;rcases E f d with d|d
  ·exact I f d
  ·rcases J f d with d|⟨V,O,_⟩
   ·exact I f d
   ·exact⟨V,O⟩
 ·intro f f' g d aD z U;have key:∀f,({D with A3:=es,AI:=D.AI++[es],n:=n}:DS).AM f->(VB' f).ownBlock=some g->D.AM f:=by
   intro f d z;rcases E f d with d|d
   ·exact d
   ·rcases J f d with d|⟨_,_,h3⟩
    ·exact d
    ·rw[h3]at z;cases z
  have k1:=key f d z;have k2:=key f' aD U;rw[(hF f k1).2]at z;rw[(hF f' k2).2]at U;exact h.Fv f f' g k1 k2 z U
end
section
open Go.RowKit
attribute [local go_sem ↓] Go.wp_at_zero Go.wp_at_succ
def CE(w:World)(v:Value)(es:List AL)(name:ByteArray)(h:Dl w v es):
 Ac 77 #[v,.string name] w (Ak (A0 (AN es name)) λw'=>w=w'):=by
 obtain⟨a,cap,rfl,hc1,U,y⟩:=h.BU;unfold maxLen at U
 go_enter func77,ntmps77
 go_wp2;go_loop [5,8] (λj i=>∃k:Nat,k<=es.length/\i=A0 k/\Hid (∀m (J:m<k) (L:m<es.length),(es[m]'L).1≠name)) (λ_ i=>es.length-(intOf i).toNat)
 case atStart=>exact⟨0,CL _,rfl,λm J=>absurd J (by omega)⟩
 case round=>
  obtain⟨k,hk,rfl,H⟩:=hrel;by_cases I:k<es.length
  ·obtain⟨g,rfl,hn,hp⟩:=y k I;by_cases E:(es[k]'I).1=name
   ·have V:=(K2 _ _).2 E;have W:=Hid.o H;have d:=RN es name k I E (λm J=>W m J (by omega));have z:=A1 <| d;clear d;go_wp2;go_ret;exact⟨by rw[z.o];rfl,rfl⟩
   ·have V:=(MT _ _).2 E;have O:=A1 <| E;go_wp2;go_round
    case rel=>exact⟨k+1,by omega,by go_num,λm J L=>by rcases Eg m k with h|h;exact H m h L;(obtain rfl:m=k:=(by omega));exact O.o⟩
    case measure=>simp[intOf];omega
  ·have d:=RL es name (λm J=>Hid.o H m (by omega) J);have z:=A1 <| d;clear d y;go_wp2;go_ret;exact⟨by rw[z.o];rfl,rfl⟩
def bg(n:DN):Bool×Int×DN:=
 let c:=wrap64 (n.Br+1)
 if n.CC then (false,5,{n with Br:=c,CG:=wrap64 (n.CG+1)})
 else if c=n.DJ then (true,5,{n with Br:=c,CG:=wrap64 (n.CG+1),CC:=true})
 else if c=n.DR then (false,5,{n with Br:=c,CG:=wrap64 (n.CG+1)})
 else (true,0,{n with Br:=c})
def EB(w:World)(b:Nat)(W J Y:Value)(n:DN)(h:Au w b W J Y n):
 Ac 121 #[A4 b] w (Ak (.tuple #[.bool (bg n).1,A0 (bg n).2.1]) λw'=>Au w' b W J Y (bg n).2.2/\A2 (One b) w w'):=by
 have h4:=h.c4;have h5:=h.c5;have h6:=h.c6;have h8:=h.c8;have h10:=h.bG;have hf:=h.fz;have Z:=(h.s4 (wrap64 (n.Br+1)));have O:=Z.s8 (wrap64 (n.CG+1));have e3:=O.dH true;have V:=(A2.C (One b) w).ak rfl 4 (A0 (wrap64 (n.Br+1)));have H:=V.ak rfl 8 (A0 (wrap64 (n.CG+1)));have aE:=H.ak rfl 10 (.bool true);have aF:=A1 Z;have L:=A1 O;have aB:=A1 e3;have aA:=A1 V;have I:=A1 H;have aD:=A1 aE;by_cases E:n.CC=true
 ·have q:Hid (bg n=(false,5,{n with Br:=wrap64 (n.Br+1),CG:=wrap64 (n.CG+1)})):=by unfold Hid;simp[bg,E]
  go_enter func121,ntmps121
  go_wp2;go_ret2;rw[q.o];exact⟨rfl,L.o,I.o⟩
 ·have d:n.CC=false:=by simpa using E
  by_cases hc:(wrap64 (n.Br+1)==n.DJ)=true
  ·(have q:Hid (bg n=(true,5,{n with Br:=wrap64 (n.Br+1),CG:=wrap64 (n.CG+1),CC:=true})):=by unfold Hid;simp[bg,d,eq_of_beq hc])
   go_enter func121,ntmps121
   go_wp2;go_region_held3 (λw'=>w'.cell? ⟨b,4,none⟩=some (A0 (wrap64 (n.Br+1)))/\w'.cell? ⟨b,5,none⟩=some (A0 n.DJ)) (refine⟨?_,?_⟩<;>go_simp) (fail);go_wp2;go_ret2;rw[q.o];exact⟨rfl,aB.o,aD.o.I⟩
  ·(have y:(wrap64 (n.Br+1)==n.DJ)=false:=by simpa using hc);by_cases U:(wrap64 (n.Br+1)==n.DR)=true
   ·have q:Hid (bg n=(false,5,{n with Br:=wrap64 (n.Br+1),CG:=wrap64 (n.CG+1)})):=by
     have:=LP y;unfold Hid bg;dsimp only;rw[Ad (by rw[d];decide),Ad this,Am (eq_of_beq U)]
    go_enter func121,ntmps121
    go_wp2;go_region_held3 (λw'=>w'.cell? ⟨b,4,none⟩=some (A0 (wrap64 (n.Br+1)))/\w'.cell? ⟨b,5,none⟩=some (A0 n.DJ)) (refine⟨?_,?_⟩<;>go_simp) (fail);go_wp2;go_region_held3 (λw'=>w'.cell? ⟨b,4,none⟩=some (A0 (wrap64 (n.Br+1)))/\w'.cell? ⟨b,6,none⟩=some (A0 n.DR)) (refine⟨?_,?_⟩<;>go_simp) (fail);go_wp2;go_ret2;rw[q.o];exact⟨rfl,L.o,I.o.I.I⟩
   ·(have z:(wrap64 (n.Br+1)==n.DR)=false:=by simpa using U);have q:Hid (bg n=(true,0,{n with Br:=wrap64 (n.Br+1)})):=by
     have:=LP y;have h2:=LP z;unfold Hid bg;dsimp only;rw[Ad (by rw[d];decide),Ad this,Ad h2]
    go_enter func121,ntmps121
    go_wp2;go_region_held3 (λw'=>w'.cell? ⟨b,4,none⟩=some (A0 (wrap64 (n.Br+1)))/\w'.cell? ⟨b,5,none⟩=some (A0 n.DJ)) (refine⟨?_,?_⟩<;>go_simp) (fail);go_wp2;go_region_held3 (λw'=>w'.cell? ⟨b,4,none⟩=some (A0 (wrap64 (n.Br+1)))/\w'.cell? ⟨b,6,none⟩=some (A0 n.DR)) (refine⟨?_,?_⟩<;>go_simp) (fail);go_wp2;go_ret2;rw[q.o];exact⟨rfl,aF.o,aA.o.I.I⟩
def Tryz.b4:(Tryz.prog.info? 125).map (λi=>(i.zero,i.size,i.bytes))=some (some (.agg #[.string ByteArray.empty,.pointer none]),2,24):=by kernel_rfl
def Tryz.dn:(Tryz.prog.info? 120).map (λi=>(i.zero,i.size,i.bytes))=some (some (.agg #[.slice none 0 0]),1,24):=by kernel_rfl
def Tryz.infoByte:(Tryz.prog.info? 5).map (λi=>(i.zero,i.size,i.bytes))=some (some (.int .u8 0),1,1):=by kernel_rfl
def Tryz.dp:(Tryz.prog.info? 9).map (λi=>(i.zero,i.size,i.bytes))=some (some (.string ByteArray.empty),1,16):=by kernel_rfl
def G9(room:Int):DN:=⟨room,0,0,0,0,0,0,false⟩
def Qj(room:Int)(w:World):
 Ac 21 #[A0 room] w (Ak (A4 w.heap.size) λw'=>Au w' w.heap.size (.slice none 0 0) (.slice none 0 0) (.slice none 0 0) (G9 room)/\w'.heap.size=w.heap.size+1/\A2 A7 w w'):=by
 go_enter func21,ntmps21
 go_wp2;go_ret;exact⟨rfl,Bw w _,by simp,(A2.C _ w).ae _⟩
def BV(D:DS)(F:Nat->FC)(name:ByteArray):Int×Int:=match lookup D.A3 name with
 | some f=>(((F f).1.length:Nat),0)
 | none=>(0,8)
def OK(w:World)(b:Nat)(D:DS)(F:Nat->FC)(Y U Z:Value)(z:List Value)(V:Nat->Value)(h:Bt w b D F Y U Z z V)(name:ByteArray):
 Ac 81 #[A4 b,.string name] w (Ak (.tuple #[A0 (BV D F name).1,A0 (BV D F name).2]) λw'=>w=w'):=by
 have hc:=h.Ae.c0;obtain⟨a,cap,rfl,hc1,J,d⟩:=h.A3.BU;have L:=h.A3;unfold maxLen at J;rcases GC D.A3 name with⟨O,H⟩|⟨k,I,O,H,h3⟩
 ·have q:Hid (BV D F name=(0,8)):=by unfold Hid BV;rw[H]
  have hfi:AN D.A3 name<0:=by omega
  go_enter func81,ntmps81
  go_wp2_with (go_at_call 77;refine(CE _ _ _ _ L).mono ?_;rintro e w'⟨rfl,rfl⟩);go_ret2;rw[q.o];exact⟨rfl,rfl⟩
 ·have q:Hid (BV D F name=((((F (D.A3[k]'I).2).1.length:Nat):Int),0)):=by unfold Hid BV;rw[H]
  obtain⟨y,E⟩:=h.bB k I;obtain⟨a',cap',hv,_,_⟩:=E.BU;rw[hv]at y;have hb0:=y.c0;obtain⟨g,rfl,hn,hp⟩:=d k I;have W:=A1 <| O
  go_enter func81,ntmps81
  go_wp2_with (go_at_call 77;refine(CE _ _ _ _ L).mono ?_;rintro e w'⟨rfl,rfl⟩;rw[W.o]);go_ret2;rw[q.o];exact⟨rfl,rfl⟩
def HE(w:World)(b:Nat)(vd vs E:Value)(n:DN)(m:Nat)(d:List Value)(a:Option Addr)(len cap:Nat)(h:Au w b vd vs E n)(hc:w.ownsRow 0 120 1 E m d)(hm:m<1099511627776):
 Ac 122 #[A4 b,.slice a len cap] w (Ak (.tuple #[]) λw'=>
  ∃z,Au w' b (.slice a len cap) vs z n/\w'.ownsRow 0 120 1 z (m+1) (d++[.slice a len cap])/\A2 (λk=>k=b\/E.ownBlock=some k) w w'/\(∀g,z.ownBlock=some g->E.ownBlock=some g\/w.heap.size<=g)):=by
 obtain⟨i0,hi,L,U,W⟩:=Dr Tryz.dn;have h2:=h.c2;have h0:=h.c0;have hf:=h.fz;have H:E.ownBlock≠some b:=by
  intro e;obtain⟨c,Y⟩:=BA hc e;exact Cb Y h (by decide) rfl
 have hs:=A1 (h.s0 (.slice a len cap));have O:=A1 ((Jo hc (a:=(A8 b 0)) H (.slice a len cap)).alloc (.cells #[.slice a len cap] 120));have J:=A1 (Src.aW (size:=1) underlying93 (w.sC b 0 (.slice a len cap)) #[.slice a len cap] 120 w.heap.size (by simp) 1 1 rfl (by simp[Value.oneCell']));have Z:=A1 (((A2.C (λk=>k=b\/E.oB k) w).ak (.inl rfl) 0 (.slice a len cap)).ae (.cells #[.slice a len cap] 120));have V:=A1 <| H
 go_enter func122,ntmps122
 go_wp2_with (at_builtin;go_loud (refine C7 rfl (.tmp 12) (.tmp 15) 93 93 rfl 120 i0 _ 1 24 underlying93 hi L U W rfl (by decide) E m d (by rfl) O.o _ 1 _ (by rfl) J.o (by omega) ?_);intro a2 cap2 w1 I;have y:=(hs.o.ae _).Dc I.Dc V.o;have h21:=y.c2;have hf1:=y.fz);go_end0;refine⟨rfl,_,y.s2 _,?_,?_,?_⟩
 ·refine Jo I.AA (a:=(A8 b 2)) ?_ _;intro e;obtain⟨c,Y⟩:=BA I.AA e;exact Cb Y y (by decide) rfl
 ·exact(Z.o.Dc I.Dc (λk hk _=>.inr hk)).ak (.inl rfl) 2 _
 ·intro g hg;rcases I.BJ with h|h
  ·exact .inl (h.symm.trans hg)
  ·right;rw[hg]at h;cases h;simp
def upd(F:Nat->FC)(f0:Nat)(c:FC):Nat->FC:=λf=>if f=f0 then c else F f
def Ck(D:DS)(name:ByteArray)(f0:Nat):Int×DS:=
 if name=ByteArray.empty\/AN D.A3 name≥0 then (8,D) else
  ((bg D.n).2.1,if (bg D.n).1 then {D with A3:=D.A3++[(name,f0)],AI:=D.AI++[D.A3++[(name,f0)]],n:=(bg D.n).2.2} else {D with n:=(bg D.n).2.2})
def isEmpty_iff(s:ByteArray):s.toList.isEmpty=true↔s=ByteArray.empty:=by
 rw[List.isEmpty_iff,IN];exact⟨λh=>T7 (by rw[h];rfl),λh=>by rw[h];rfl⟩
def Bt.cM{w:World}{b:Nat}{D:DS}{F:Nat->FC}{I z y:Value}{d:List Value}{H:Nat->Value}(h:Bt w b D F I z y d H){f0:Nat}(hf:w.heap.size<=f0)(c:FC):
 Bt w b D (upd F f0 c) I z y d H:=
 ⟨h.Ae,h.A3,h.BT,h.Aj,h.D2,λf E=>by
  have:f≠f0:=by have:=h.lt (.BN E);omega
  simp only[upd,this,BG];exact h.BN f E,h.Fv⟩
def BP.n{b:Nat}{D:DS}{n:DN}{H z y:Value}{d:List Value}{E:Nat->Value}{k:Nat}(h:BP b {D with n:=n} H z y d E k):BP b D H z y d E k:=by
 cases h using BP.bt with
 | Ae=>exact .Ae
 | dir e=>exact .A3 e
 | CZ e=>exact .BT e
 | Aj e=>exact .Aj e
 | D2 h e=>exact .D2 h e
 | BN h=>exact .BN h
 | byt h e=>exact .bk h e
def Bt.bu{w w':World}{b:Nat}{D:DS}{F:Nat->FC}{H E I:Value}{d:List Value}{J:Nat->Value}{Ft:Nat->Prop}(h:Bt w b D F H E I d J)(y:∀k,BP b D H E I d J k->Ft k){n:DN}(O:Au w' b H E I n)(L:A2 (One b) w w'):Cz w Ft w' b {D with n:=n} F:=
 Cz.a7 (L.U λk _ z=>by cases z;exact y b .Ae) (h.ag O L) λk z=>.inl (y k z.n)
def App.Aj{w w':World}{e size n:Nat}{v y:Value}{xs:List Value}(h:App w w' e size v y n xs){S:Nat->Prop}(z:∀k,v.ownBlock=some k->S k):A2 S w w':=
 (A2.C S w).Dc h.Dc λk d _=>z k d
def Ct.au{w w':World}{f:Nat}{d:Value}{CZ:Int}(h:Ct w f d CZ)(y:w'.heap[f]?=w.heap[f]?):Ct w' f d CZ:=y.trans h
def S4{w w1 H w3 w5:World}{b:Nat}{D:DS}{F:Nat->FC}{vd vs vc U W:Value}{L:List Value}{aE:Nat->Value}{Ft:Nat->Prop}{n1:DN}{a3:Option Addr}{J:Nat}{name:ByteArray}(hr:Bt w b D F vd vs vc L aE)(z:∀k,BP b D vd vs vc L aE k->Ft k)(aH:Au w1 b vd vs vc n1)(Y:A2 (One b) w w1)(hA:App w1 H 125 2 (.slice none 0 0) U D.A3.length (Bx D.A3))(hB:App ((H.alloc (.cells #[.slice none 0 0,.int .i64 0] 129)).alloc (.cells #[.string name,.pointer (some ⟨H.heap.size,0,none⟩)] 125)) w3 125 2 U (.slice a3 (D.A3.length+1) J) (D.A3.length+1) (Bx D.A3++[.string name,.pointer (some ⟨H.heap.size,0,none⟩)]))(aF:Au w5 b (.slice a3 (D.A3.length+1) J) vs W n1)(aI:w5.ownsRow 0 120 1 W (D.AI.length+1) (L++[.slice a3 (D.A3.length+1) J]))(O:A2 (λk=>k=b\/vc.ownBlock=some k) w3 w5)(hv:∀g,W.ownBlock=some g->vc.ownBlock=some g\/w3.heap.size<=g):
 w.heap.size<=H.heap.size/\Cz w Ft w5 b {D with A3:=D.A3++[(name,H.heap.size)],AI:=D.AI++[D.A3++[(name,H.heap.size)]],n:=n1} (upd F H.heap.size ([],0)):=by
 have V:∀k,U.ownBlock=some k->k=w1.heap.size:=by
  intro k I;rcases hA.BJ with h|h
  ·rw[h]at I;cases I
  ·rw[h]at I;cases I;rfl
 have s1:=Y.Af;have s2:=hA.Dc.size;have s3:=hB.Dc.size;simp only[World.size_alloc]at s3;have aB:=
  (((hA.Aj (S:=λ_=>False) (by intro k I;simp[Value.ownBlock]at I)).ae (.cells #[.slice none 0 0,.int .i64 0] 129)).ae (.cells #[.string name,.pointer (some ⟨H.heap.size,0,none⟩)] 125)).Dc hB.Dc
    (λk I hlt=>by have:=V k I;omega)
 have r1:=hr.ag aH Y;have r3:=r1.aq λk I=>aB.Ao k (r1.lt I) (λh=>h);have f0:Ct ((H.alloc (.cells #[.slice none 0 0,.int .i64 0] 129)).alloc (.cells #[.string name,.pointer (some ⟨H.heap.size,0,none⟩)] 125)) H.heap.size (.slice none 0 0) 0:=by
  unfold Ct;rw[DD _ _ _ (by simp)];exact Bw _ _
 have f3:=f0.au (hB.Dc.block _ (by simp;omega) (λe=>by have:=Av hA.AA e.symm;omega))
 have f5:=f3.au (O.Ao _ (by omega) (by
  rintro (e|e)
  ·exact Cb f3 r3.Ae (by decide) e
  ·obtain⟨c,hh⟩:=BA r3.Aj e
   exact Cb f3 hh (by decide) rfl))
 have e3:Dl w3 (.slice a3 (D.A3.length+1) J) (D.A3++[(name,H.heap.size)]):=by
  have:=hB.AA;unfold Dl;rw[Im];simpa[Bx] using this
 have e5:=Aq e3 λg hg=>O.Ao g (Av e3 hg) (by
  obtain⟨c,hh⟩:=BA e3 hg;rintro (e|e)
  ·exact Cb hh r3.Ae (by decide) e
  ·obtain⟨c',aG⟩:=BA r3.Aj e
   exact Cb hh aG (by decide) rfl)
 have aA:∀f,D.AM f->f≠H.heap.size:=λf E=>by have:=hr.lt (.BN E);omega
 have r5:=r3.bF (F':=upd F H.heap.size ([],0)) (VB':=λf=>if f=H.heap.size then .slice none 0 0 else aE f) (es:=D.A3++[(name,H.heap.size)]) aF aI e5 O (λk I=>I)
  (λf E=>by have:=aA f E;simp[upd,this])
  (λf E=>by
   obtain⟨e,d,rfl⟩:=E;rcases B3.1 d with d|d
   ·exact .inl (.inl ⟨e,d,rfl⟩)
   ·simp at d;subst d;right;simp only[upd,BM]
    exact⟨f5,BW _ _ _ _,rfl⟩)
 refine⟨by omega,Cz.a7 ?_ r5 ?_⟩
 ·have a:=(Y.U (S':=Ft) λk _ I=>by cases I;exact z b .Ae).As aB (λx Z=>Z.elim);refine a.As O ?_;rintro x (e|e) _
  ·subst e;exact z x .Ae
  ·exact z x (.Aj e)
 ·intro k I;cases I using BP.bt with
  | Ae=>exact .inl (z b .Ae)
  | dir e=>
   rcases hB.BJ with h|h
   ·rw[h]at e;have:=V _ e;right;omega
   ·rw[h]at e;cases e;right;simp;omega
  | CZ e=>exact .inl (z k (.BT e))
  | Aj e=>
   rcases hv k e with h|h
   ·exact .inl (z k (.Aj h))
   ·right;omega
  | D2 hm e=>
   rcases B3.1 hm with hm|hm
   ·exact .inl (z k (.D2 hm e))
   ·simp at hm;subst hm;rcases hB.BJ with h|h
    ·rw[h]at e;have:=V _ e;right;omega
    ·rw[h]at e;cases e;right;simp;omega
  | BN E=>
   rcases E with⟨e,d,rfl⟩|E|⟨c,y,E⟩
   ·rcases B3.1 d with d|d
    ·exact .inl (z _ (.BN (.inl ⟨e,d,rfl⟩)))
    ·simp at d;subst d;right;simp;omega
   ·exact .inl (z _ (.BN (.inr (.inl E))))
   ·rcases B3.1 y with y|y
    ·exact .inl (z _ (.BN (.inr (.inr ⟨c,y,E⟩))))
    ·simp at y;subst y;obtain⟨e,d,rfl⟩:=E;rcases B3.1 d with d|d
     ·exact .inl (z _ (.BN (.inl ⟨e,d,rfl⟩)))
     ·simp at d;subst d;right;simp;omega
  | byt E e=>
   rename_i f;by_cases Z:f=H.heap.size
   ·simp[Z,Value.ownBlock]at e
   ·simp only[Z,BG]at e;have aD:D.AM f:=by
     rcases E with⟨en,d,rfl⟩|E|⟨c,y,E⟩
     ·rcases B3.1 d with d|d
      ·exact .inl ⟨en,d,rfl⟩
      ·simp at d;subst d;exact absurd rfl Z
     ·exact .inr (.inl E)
     ·rcases B3.1 y with y|y
      ·exact .inr (.inr ⟨c,y,E⟩)
      ·simp at y;subst y;obtain⟨en,d,rfl⟩:=E;rcases B3.1 d with d|d
       ·exact .inl ⟨en,d,rfl⟩
       ·simp at d;subst d;exact absurd rfl Z
    exact .inl (z _ (.bk aD e))
def S3{H w2 J:World}{b:Nat}{D:DS}{F:Nat->FC}{U L I z:Value}{d:List Value}{aA:Nat->Value}{V:DN}{v3:Value}{n2:Nat}{xs:List Value}{o1 Z:Obj}(W:Au H b U L I V)(Y:Bt H b {D with n:=V} F U L I d aA)(hA:App H w2 125 2 (.slice none 0 0) z D.A3.length (Bx D.A3))(hB:App ((w2.alloc o1).alloc Z) J 125 2 z v3 n2 xs):
 Au J b U L I V/\J.ownsRow 0 120 1 I D.AI.length d:=by
 have O:∀k,z.ownBlock=some k->k=H.heap.size:=by
  intro k y;rcases hA.BJ with h|h
  ·rw[h]at y;cases y
  ·rw[h]at y;cases y;rfl
 have E:=
  (((hA.Aj (S:=λ_=>False) (by intro k y;simp[Value.ownBlock]at y)).ae o1).ae Z).Dc hB.Dc (λk y hlt=>by have:=O k y;omega)
 refine⟨W.Aj E (λh=>h),Aq Y.Aj λg hg=>E.Ao g (Av Y.Aj hg) (λh=>h)⟩
def S5(w:World)(b:Nat)(D:DS)(F:Nat->FC)(Ft:Nat->Prop)(h:Du w b D F Ft)(name:ByteArray)(hs:D.A3.length<1099511627776/\D.AI.length<1099511627776):
 Ac 83 #[A4 b,.string name] w λe w'=>∃f0,w.heap.size<=f0/\e=.returned (A0 (Ck D name f0).1)/\Cz w Ft w' b (Ck D name f0).2 (upd F f0 ([],0)):=by
 obtain⟨vd,vs,Z,J,aQ,O,U⟩:=h;obtain⟨hs1,aJ⟩:=hs;have hq:∀f0,w.heap.size<=f0->(Ck D name f0).2=D->Cz w Ft w b (Ck D name f0).2 (upd F f0 ([],0)):=λf0 hf e=>by
  rw[e];exact Cz.a7 (A2.C _ _) (O.cM hf _) λk hk=>.inl (U k hk)
 have aP:=A1 hq;have aN:=A1 O;have c0:=O.Ae.c0;have hd:=A1 O.A3;have aG:=A1 O.Ae;obtain⟨ad,cap,aM,_⟩:=O.A3.BU;clear O aM;by_cases hn:name.toList.isEmpty=true
 ·have q:Hid (Ck D name w.heap.size=(8,D)):=by unfold Hid Ck;rw[Am (.inl ((isEmpty_iff _).1 hn))]
  go_enter func83,ntmps83
  go_wp2;go_ret;exact⟨_,Aw _,by rw[q.o];rfl,aP.o _ (Aw _) (by rw[q.o])⟩
 ·have hn':name.toList.isEmpty=false:=by simpa using hn
  have aH:Hid (name≠ByteArray.empty):=λe=>hn ((isEmpty_iff _).2 e);clear hn;by_cases hx:(0:Int)<=AN D.A3 name
  ·(have q:Hid (Ck D name w.heap.size=(8,D)):=by unfold Hid Ck;rw[Am (.inr hx)])
   go_enter func83,ntmps83
   go_wp2_with (go_at_call 77;refine(CE _ _ _ _ hd.o).mono ?_;rintro e w'⟨rfl,rfl⟩);go_ret;exact⟨_,Aw _,by rw[q.o];rfl,aP.o _ (Aw _) (by rw[q.o])⟩
  ·have q:Hid (∀f0,Ck D name f0=((bg D.n).2.1,if (bg D.n).1 then {D with A3:=D.A3++[(name,f0)],AI:=D.AI++[D.A3++[(name,f0)]],n:=(bg D.n).2.2} else {D with n:=(bg D.n).2.2})):=by
    intro f0;unfold Ck;rw[Ad (by rintro (h|h);exact aH h;exact hx h)]
   (have hx':AN D.A3 name<0:=by omega);by_cases aA:(bg D.n).1=true
   ·obtain⟨i0,hi,aB,aF,aE⟩:=Dr Tryz.b4
    have fin:Hid (∀(E y W V:World) (L z:Value) (Y:Option Addr) (d:Nat),Au E b vd vs Z (bg D.n).2.2->A2 (One b) w E->App E y 125 2 (.slice none 0 0) L D.A3.length (Bx D.A3)->
     App ((y.alloc (.cells #[.slice none 0 0,A0 0] 129)).alloc (.cells #[.string name,A4 y.heap.size] 125)) W 125 2 L (.slice Y (D.A3.length+1) d) (D.A3.length+1) (Bx D.A3++[.string name,A4 y.heap.size])->
     Au V b (.slice Y (D.A3.length+1) d) vs z (bg D.n).2.2->V.ownsRow 0 120 1 z (D.AI.length+1) (J++[.slice Y (D.A3.length+1) d])->A2 (λk=>k=b\/Z.ownBlock=some k) W V->(∀g,z.ownBlock=some g->Z.ownBlock=some g\/W.heap.size<=g)->
     w.heap.size<=y.heap.size/\Cz w Ft V b {D with A3:=D.A3++[(name,y.heap.size)],AI:=D.AI++[D.A3++[(name,y.heap.size)]],n:=(bg D.n).2.2} (upd F y.heap.size ([],0))):=
     λE y W V L z Y d h1 h2 h3 h4 h5 h6 h7 h8=>S4 aN.o U h1 h2 h3 h4 h5 h6 h7 h8
    have aK:Hid (∀E,Au E b vd vs Z (bg D.n).2.2->A2 (One b) w E->Bt E b {D with n:=(bg D.n).2.2} F vd vs Z J aQ):=λE h1 h2=>aN.o.ag h1 h2
    go_enter func83,ntmps83
    go_wp2_with (first
     | (go_at_call 77;refine(CE _ _ _ _ hd.o).mono ?_;rintro e w'⟨rfl,rfl⟩)
     | (go_at_call 121;refine(EB _ _ _ _ _ _ aG.o).mono ?_;rintro e E⟨rfl,H,I⟩;have c01:=H.c0;have aO:=A1 (aK.o E H I))
     | (at_builtin;refine C7 rfl (.const (.slice none 0 0)) (.tmp 28) 92 92 rfl 125 i0 _ 2 24 underlying92 hi aB aF aE rfl (by decide) (.slice none 0 0) 0 [] (by rfl) (BW _ 0 125 2) vd D.A3.length (Bx D.A3) (by rfl) (Src.bo underlying92 aO.o.A3 (JO _)) (by omega) ?_;intro a2 cap2 y hA;simp only[ED,Ej]at hA;have aI:=A1 ((hA.AA.alloc (.cells #[.slice none 0 0,A0 0] 129)).alloc (.cells #[.string name,A4 y.heap.size] 125));have aL:=A1 (Src.aW (size:=2) underlying92 (y.alloc (.cells #[.slice none 0 0,A0 0] 129)) #[.string name,A4 y.heap.size] 125 (y.heap.size+1) (by simp) 1 1 rfl (by simp[Value.oneCell'])))
     | (at_builtin;refine C7 rfl (.tmp 31) (.tmp 36) 92 92 rfl 125 i0 _ 2 24 underlying92 hi aB aF aE rfl (by decide) _ D.A3.length (Bx D.A3) (by rfl) aI.o _ 1 _ (by rfl) aL.o (by omega) ?_;intro Y d W hB;have hm:=A1 (S3 H aO.o hA hB))
     | (go_at_call 122;refine(HE _ b vd vs Z _ _ _ _ _ _ hm.o.1 hm.o.2 aJ).mono ?_;rintro e V⟨rfl,z,k1,k2,k3,k4⟩))
    go_ret;obtain⟨g1,g2⟩:=fin.o E y W V _ z Y d H I hA hB k1 k2 k3 k4;refine⟨y.heap.size,g1,by rw[q.o];rfl,?_⟩;rw[q.o,aA];exact g2
   ·(have aD:(bg D.n).1=false:=by simpa using aA)
    go_enter func83,ntmps83
    go_wp2_with (first|(go_at_call 77;refine(CE _ _ _ _ hd.o).mono ?_;rintro e w'⟨rfl,rfl⟩)|(go_at_call 121;refine(EB _ _ _ _ _ _ aG.o).mono ?_;rintro e E⟨rfl,H,I⟩));go_ret;refine⟨w.heap.size,Aw _,by rw[q.o];rfl,?_⟩;rw[q.o,aD];exact(aN.o.cM (Aw _) _).bu U H I
end
end Go.Proofs.YtodcnkbblippnaaGreatDoor
