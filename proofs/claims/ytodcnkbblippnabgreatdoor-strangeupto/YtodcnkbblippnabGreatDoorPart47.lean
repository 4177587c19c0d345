/- Part 47 of a proof: walks of the program. -/
import Derived.Test.YtodcnkbblippnabGreatDoorPart46
namespace Go.Proofs.YtodcnkbblippnabGreatDoor
set_option maxRecDepth 100000
set_option maxHeartbeats 32000000
set_option linter.defProp false
open Go.Proofs.Tryz
section
open Go.MuLone Go.RowKit
attribute [local go_sem ↓] Go.wp_at_zero Go.wp_at_succ Cz
section
variable{w w' w2:World}{sb ab b:Nat}{mu aA Ak Ac:Int}{ro:Bool}{lv:Nat->Value}{L:Nat->List Pt}{A:Ar}{P:PD}{F0 FT:Nat->Prop}
def Yd(w:World)(k t v:Int)(h:SF w sb ab b 0 aA Ak Ac true L A P FT)(aB:∀k,FT k->k<w.heap.size)(hk:0<=k/\k<8):
 Aj 12 #[A7 sb,A0 k,A0 t,A0 v] w (Au (A0 4) λw'=>Ax w FT w' (λw' H=>SF w' sb ab b 0 aA Ak Ac true L A P H)):=by
 have aF:Hid (∀w',Aj 33 #[A0 k] w' λe I=>e=.returned (.bool true)/\w'=I):=λw'=>by
  have:=Oe w' k
  rwa [CJ hk]at this
 have hA:=Uk w sb k t v;have X:=Ul w sb k t v;generalize aE:boxed w sb k t v=w0 at hA X;unfold boxed at aE;have hV:=h.aJ hA;have O:=hV.bX;have W:J7 (w0.sC sb 0 (.int .i32 1)) w.heap.size sb k t v:=X.An O.1 λi _ hx=>by have:=aB _ hx;omega
 have z:Hid (Ax w FT (w0.sC sb 0 (.int .i32 1)) (λw' H=>SF w' sb ab b 1 aA Ak Ac true L A P H)):=O.a7 hA;have aH:Hid (∀Y,Aj 34 #[A7 sb,Y] (w0.sC sb 0 (.int .i32 1)) (Au (A0 4) λw'=>(w0.sC sb 0 (.int .i32 1))=w')):=λY=>by
  have⟨k1,F1,s1,s2,s3⟩:=z.o;obtain⟨lv,F0,q,-⟩:=s1;exact Uf _ Y q.Ai
 have c0:Aa w0 sb 0 (.int .i32 0):=by obtain⟨lv,F0,q,-⟩:=hV;exact q.Ai.c0
 have f0:w0.frozen? (Ad sb 0)=false:=by obtain⟨lv,F0,q,-⟩:=hV;exact q.Ai.fz 0
 obtain⟨x0,x1,x2,x3⟩:=X;obtain⟨y0,y1,y2,y3⟩:=W
 go_enter_defers func12,ntmps12
 go_wp2_with (fail);refine(LZ Tryz.bK (Ad sb 0) _ c0 f0).k ?_;rintro w' rfl;go_wp2_with (go_at_call 33;refine(aF.o _).k ?_;rintro w' rfl);refine(aH.o _).k ?_;rintro w2 rfl;go_wp2;refine M1 (f:=32) (args:=#[A7 sb]) (by simp) (by simp[go_sem]) ?_;refine(Lx Tryz.bK (Ad sb 0) .returning _ ?_ ?_).mono ?_
 ·obtain⟨-,aG,⟨aD,aI,a1,-⟩,-,-⟩:=z.o;exact a1.Ai.c0
 ·obtain⟨-,aG,⟨aD,aI,a1,-⟩,-,-⟩:=z.o;exact a1.Ai.fz 0
 rintro e u' I⟨rfl,rfl,rfl⟩;exact⟨_,QY rfl _ _ _,rfl,SFto.Ek z.o 0 _ λlv h=>h.s0 0⟩
def SF.fj{n:Int}{w2:World}(h:Ax w FT w2 (λw' z=>SF w' sb ab b 1 aA Ak Ac ro L A P z)):Ax w FT (w2.setCell (Ad sb 0) (.int .i32 n)) (λw' z=>SF w' sb ab b n aA Ak Ac ro L A P z):=SFto.Ek h 0 _ λ_ h=>h.s0 n
def Xt(H:World)(h:SF H sb ab b 0 aA Ak Ac true L A P FT)(I:Value):
 Calls Tryz.prog 34 #[.pointer (some ⟨sb,0,none⟩),I] (H.setCell ⟨sb,0,none⟩ (.int .i32 1)) λe w'=>e=.returned (.int .i64 4)/\w'.cell? ⟨sb,0,none⟩=some (.int .i32 1)/\w'.frozen? ⟨sb,0,none⟩=false/\Ax H FT w' (λw' z=>SF w' sb ab b 1 aA Ak Ac true L A P z):=by
 have W:=h.bX;obtain⟨O,Y,s1,s2,s3⟩:=W;obtain⟨lv,F0,q,X⟩:=s1;refine(Uf _ I q.Ai).k ?_;rintro w' rfl;exact⟨rfl,q.Ai.c0,q.Ai.fz 0,O,Y,⟨lv,F0,q,X⟩,s2,s3⟩
def A0N(w:World)(h:SF w sb ab b 0 aA Ak Ac true L A P FT)(_hFT:∀k,FT k->k<w.heap.size):
 Aj 19 #[A7 sb] w (Au (A0 4) λw'=>Ax w FT w' (λw' z=>SF w' sb ab b 0 aA Ak Ac true L A P z)):=by
 obtain⟨c0,f0,Y,-⟩:=h.c0;refine(Qx w 4 (λw'=>Ax w FT w' (λw' z=>SF w' sb ab b 1 aA Ak Ac true L A P z)) c0 f0 Y λw1 I=>?_).mono ?_
 ·subst I;have O:=(A5.C Ab w).aj (.cells #[A7 sb] 33);refine(Xt _ (h.aJ O) _).k ?_;rintro w'⟨W,H,X⟩;exact⟨rfl,W,H,X.a7 O⟩
 ·rintro e w'⟨rfl,w2,H,rfl⟩;exact⟨rfl,SF.fj H⟩
end
end
end Go.Proofs.YtodcnkbblippnabGreatDoor
