/- Part 3 of a proof: walks of the program. -/
import Derived.BigQuiet
import Derived.Deep.QuietTactic
import Derived.StillTailTactics
import Derived.StillTactics
import Derived.Test.YtodcnkbblippnaaGreatDoorPart02
namespace Go.Proofs.YtodcnkbblippnaaGreatDoor
set_option maxRecDepth 100000
set_option maxHeartbeats 32000000
set_option linter.defProp false
open Go.Proofs.Tryz
section
open Go.RowKit
attribute [local go_sem ↓] Go.wp_at_zero Go.wp_at_succ
def JV{w w1 w3 w5:World}{b:Nat}{D:DS}{F:Nat->FC}{vd vs Z vl L:Value}{E:List Value}{aA:Nat->Value}{Ft:Nat->Prop}{n1:DN}{es:List AL}(hr:Bt w b D F vd vs Z E aA)(d:∀k,BP b D vd vs Z E aA k->Ft k)(aE:Au w1 b vd vs Z n1)(V:A2 (One b) w w1)(O:A2 (λ_=>False) w1 w3)(e3:Dl w3 vl es)(Y:∀g,vl.ownBlock=some g->w1.heap.size<=g)(U:∀f,Dy f es->D.AM f)(aB:Au w5 b vl vs L n1)(aF:w5.ownsRow 0 120 1 L (D.AI.length+1) (E++[vl]))(I:A2 (λk=>k=b\/Z.ownBlock=some k) w3 w5)(hv:∀g,L.ownBlock=some g->Z.ownBlock=some g\/w3.heap.size<=g):
 Cz w Ft w5 b {D with A3:=es,AI:=D.AI++[es],n:=n1} F:=by
 have s1:=V.Af;have s3:=O.Af;have r1:=hr.ag aE V;have r3:=r1.aq λk J=>O.Ao k (r1.lt J) (λh=>h)
 have e5:=Aq e3 λg hg=>I.Ao g (Av e3 hg) (by
  obtain⟨c,hh⟩:=BA e3 hg;rintro (e|e)
  ·exact Cb hh r3.Ae (by decide) e
  ·obtain⟨c',aD⟩:=BA r3.Aj e
   exact Cb hh aD (by decide) rfl)
 have r5:=r3.bF (F':=F) (VB':=aA) (es:=es) aB aF e5 I (λk J=>J) (λf z=>⟨rfl,rfl⟩) (λf z=>.inl (U f z));have H:∀f,({D with A3:=es,AI:=D.AI++[es],n:=n1}:DS).AM f->D.AM f:=by
  rintro f (z|z|⟨c,y,z⟩)
  ·exact U f z
  ·exact .inr (.inl z)
  ·rcases B3.1 y with y|y
   ·exact .inr (.inr ⟨c,y,z⟩)
   ·simp at y;subst y;exact U f z
 refine Cz.a7 ?_ r5 ?_
 ·have a:=(V.U (S':=Ft) λk _ J=>by cases J;exact d b .Ae).As O (λx hx=>hx.elim);refine a.As I ?_;rintro x (e|e) _
  ·subst e;exact d x .Ae
  ·exact d x (.Aj e)
 ·intro k J;cases J using BP.bt with
  | Ae=>exact .inl (d b .Ae)
  | dir e=>right;have:=Y _ e;omega
  | CZ e=>exact .inl (d k (.BT e))
  | Aj e=>
   rcases hv k e with h|h
   ·exact .inl (d k (.Aj h))
   ·right;omega
  | D2 W e=>
   rcases B3.1 W with W|W
   ·exact .inl (d k (.D2 W e))
   ·simp at W;subst W;right;have:=Y _ e;omega
  | BN z=>exact .inl (d _ (.BN (H _ z)))
  | byt z e=>exact .inl (d _ (.bk (H _ z) e))
def JU{w H I:World}{b:Nat}{D:DS}{F:Nat->FC}{L J E:Value}{d:List Value}{Y:Nat->Value}{V:DN}(Z:Bt w b D F L J E d Y)(z:Au H b L J E V)(O:A2 (One b) w H)(y:A2 (λ_=>False) H I):
 Au I b L J E V/\I.ownsRow 0 120 1 E D.AI.length d:=by
 have U:=Z.ag z O;exact⟨z.Aj y (λh=>h),Aq U.Aj λg W=>y.Ao g (Av U.Aj W) (λh=>h)⟩
def App.bm{w w':World}{e size n:Nat}{y:Value}{xs:List Value}(h:App w w' e size (.slice none 0 0) y n xs):A2 A7 w w':=h.Aj (λk d=>by simp[Value.ownBlock]at d)
def App.Bq{w w':World}{e size n:Nat}{y:Value}{xs:List Value}(h:App w w' e size (.slice none 0 0) y n xs):∀g,y.ownBlock=some g->w.heap.size<=g:=by
 intro g d;rcases h.BJ with h|h
 ·rw[h]at d;cases d
 ·rw[h]at d;cases d;exact Aw _
def App.bE{y w w':World}{e size n:Nat}{v E:Value}{xs:List Value}(h:App w w' e size v E n xs)(H:A2 (λ_=>False) y w)(I:∀g,v.ownBlock=some g->y.heap.size<=g):
 A2 (λ_=>False) y w'/\∀g,E.ownBlock=some g->y.heap.size<=g:=by
 refine⟨H.Dc h.Dc λk J hlt=>by have:=I k J;omega,λg d=>?_⟩;rcases h.BJ with z|z
 ·rw[z]at d;exact I g d
 ·rw[z]at d;cases d;exact H.Af
def CU(D:DS)(name:ByteArray):Int×DS:=
 if AN D.A3 name<0 then (8,D) else
  let es:=D.A3.take (AN D.A3 name).toNat++D.A3.drop ((AN D.A3 name).toNat+1)
  ((bg D.n).2.1,if (bg D.n).1 then {D with A3:=es,AI:=D.AI++[es],n:=(bg D.n).2.2} else {D with n:=(bg D.n).2.2})
def Pl(w:World)(b:Nat)(D:DS)(F:Nat->FC)(Ft:Nat->Prop)(h:Du w b D F Ft)(name:ByteArray)(hs:D.A3.length<1099511627776/\D.AI.length<1099511627776):
 Ac 193 #[A4 b,.string name] w (Ak (A0 (CU D name).1) λw'=>Cz w Ft w' b (CU D name).2 F):=by
 obtain⟨vd,vs,vc,vals,VB,hr,aE⟩:=h;obtain⟨hs1,aJ⟩:=hs;have V:=A1 hr;have aP:=A1 aE;have c0:=hr.Ae.c0;have hd:=A1 hr.A3;have aD:=A1 hr.Ae;rcases MD D.A3 name with⟨h1,h2⟩|⟨k,hk,h1,h2⟩
 ·have q:Hid (CU D name=(8,D)):=by unfold Hid CU;rw[Am (by omega)]
  have hfi:AN D.A3 name<0:=by omega
  go_enter func193,ntmps193
  go_wp2_with (go_at_call 77;refine(CE _ _ _ _ hd.o).mono ?_;rintro e w'⟨rfl,rfl⟩);go_ret;rw[q.o];exact⟨rfl,Cz.a7 (A2.C _ _) V.o λk hk=>.inl (aE k hk)⟩
 ·have q:Hid (CU D name=((bg D.n).2.1,if (bg D.n).1 then {D with A3:=D.A3.take k++D.A3.drop (k+1),AI:=D.AI++[D.A3.take k++D.A3.drop (k+1)],n:=(bg D.n).2.2} else {D with n:=(bg D.n).2.2})):=by
   unfold Hid CU;rw[Ad (by omega),h1];rfl
  have aR:=A1 h1;by_cases Y:(bg D.n).1=true
  ·obtain⟨i0,hi,L,U,O⟩:=Dr Tryz.b4;obtain⟨a,cap,rfl,z1,z2,aB⟩:=V.o.A3.BU;obtain⟨g,rfl,_,_⟩:=aB k hk;unfold maxLen at z2;have aK:Hid (∀y,Au y b (AH g D.A3.length cap) vs vc (bg D.n).2.2->A2 (One b) w y->y.ownsRow 0 125 2 (AH g k cap) k ((Bx D.A3).take (k*2))/\Dl y (AH g D.A3.length cap) D.A3):=λy g1 g2=>
    ⟨Q6 (V.o.ag g1 g2).A3 (by omega),(V.o.ag g1 g2).A3⟩
   have aI:∀u∈(Bx D.A3).take (k*2),u.oneCell'=true:=λu hu=>JO _ u (IJ hu);have W:=A1 aI;have aN:Hid (∀f,Dy f (D.A3.take k++D.A3.drop (k+1))->D.AM f):=by
    rintro f⟨e,he,rfl⟩;rcases B3.1 he with he|he
    ·exact .inl ⟨e,IJ he,rfl⟩
    ·exact .inl ⟨e,Kd he,rfl⟩
   (have aF:(D.A3.take k++D.A3.drop (k+1)).length=k+(D.A3.length-(k+1)):=by simp;omega);have aY:Hid (∀(z J:World) (v2 v3:Value),App z J 125 2 v2 v3 (k+(D.A3.length-(k+1))) ((Bx D.A3).take (k*2)++Bx (D.A3.drop (k+1)))->Dl J v3 (D.A3.take k++D.A3.drop (k+1))):=by
    intro z J v2 v3 h;unfold Dl;rw[aF,Im,<-RR];exact h.AA
   by_cases aQ:cap=k+1
   ·subst aQ;(have hz:D.A3.length=k+1:=by omega);have aT:Hid (∀y z:World,Dl y (AH g D.A3.length (k+1)) D.A3->A2 A7 y z->Src Tryz.prog 2 92 (AH g 0 0) 0 [] z):=
     λy z _ _=>Gc z underlying92 _ 0 _ [] rfl (by simp) (by simp)
    have aS:Hid (∀(z J:World) (v2 v3:Value),App z J 125 2 v2 v3 (k+0) ((Bx D.A3).take (k*2)++[])->Dl J v3 (D.A3.take k++D.A3.drop (k+1))):=by
     intro z J v2 v3 h;refine aY.o z J v2 v3 ?_;rw[Gk (by omega),show D.A3.length-(k+1)=0 from by omega];exact h
    clear hz
    go_enter func193,ntmps193
    go_wp2_with (first
     | (go_at_call 77;refine(CE _ _ _ _ hd.o).mono ?_;rintro e w'⟨rfl,rfl⟩;rw[aR.o])
     | (go_at_call 121;refine(EB _ _ _ _ _ _ aD.o).mono ?_;rintro e y⟨rfl,d,E⟩;have aU:=d.c0;have aG:=A1 (aK.o y d E))
     | (at_builtin;refine C7 rfl (.const (.slice none 0 0)) (.tmp 28) 92 92 rfl 125 i0 _ 2 24 underlying92 hi L U O rfl (by decide) (.slice none 0 0) 0 [] (by rfl) (BW _ 0 125 2) (AH g k (k+1)) k ((Bx D.A3).take (k*2)) (by rfl) (Src.bo underlying92 aG.o.1 W.o) (by omega) ?_;intro a2 aO z I;simp only[ED,Ej]at I;have Z:=A1 I.AA;have aX:=(d.Aj I.bm (λh=>h)).c0;have aA:=A1 (aT.o y z aG.o.2 I.bm))
     | (at_builtin;refine C7 rfl (.tmp 31) (.tmp 38) 92 92 rfl 125 i0 _ 2 24 underlying92 hi L U O rfl (by decide) _ k ((Bx D.A3).take (k*2)) (by rfl) Z.o _ _ _ (by rfl) aA.o (by omega) ?_;intro a3 aH J hB;have H:=A1 (hB.bE I.bm I.Bq);have hm:=A1 (JU V.o d E H.o.1))
     | (go_at_call 122;refine(HE _ b _ vs vc _ _ _ _ _ _ hm.o.1 hm.o.2 aJ).mono ?_;rintro e w5⟨rfl,aW,k1,k2,k3,k4⟩))
    go_ret;rw[q.o,Y];have e3:=aS.o _ _ _ _ hB;exact⟨rfl,JV V.o aP.o d E H.o.1 e3 H.o.2 aN.o k1 k2 k3 k4⟩
   ·have aT:Hid (∀y z:World,Dl y (AH g D.A3.length cap) D.A3->A2 A7 y z->Src Tryz.prog 2 92 (.slice (some (A8 g ((k+1)*2))) (D.A3.length-(k+1)) (cap-(k+1))) (D.A3.length-(k+1)) (Bx (D.A3.drop (k+1))) z):=by
     intro y z h1 aV;have h2:=Aq h1 λx hx=>aV.Ao x (Av h1 hx) (λh=>h);refine Gc z underlying92 _ _ _ _ (by rw[RS,CS]) ?_ (JO _);intro j u hu;rw[<-RT,FU]at hu;(have aM:((A8 g ((k+1)*2)):Addr).add j=(A8 g ((k+1)*2+j)):=by unfold Addr.add;split<;>simp_all);rw[aM];exact Be h2 rfl hu
    go_enter func193,ntmps193
    go_wp2_with (first
     | (go_at_call 77;refine(CE _ _ _ _ hd.o).mono ?_;rintro e w'⟨rfl,rfl⟩;rw[aR.o])
     | (go_at_call 121;refine(EB _ _ _ _ _ _ aD.o).mono ?_;rintro e y⟨rfl,d,E⟩;have aU:=d.c0;have aG:=A1 (aK.o y d E))
     | (at_builtin;refine C7 rfl (.const (.slice none 0 0)) (.tmp 28) 92 92 rfl 125 i0 _ 2 24 underlying92 hi L U O rfl (by decide) (.slice none 0 0) 0 [] (by rfl) (BW _ 0 125 2) (AH g k cap) k ((Bx D.A3).take (k*2)) (by rfl) (Src.bo underlying92 aG.o.1 W.o) (by omega) ?_;intro a2 aO z I;simp only[ED,Ej]at I;have Z:=A1 I.AA;have aX:=(d.Aj I.bm (λh=>h)).c0;have aA:=A1 (aT.o y z aG.o.2 I.bm))
     | (at_builtin;refine C7 rfl (.tmp 31) (.tmp 38) 92 92 rfl 125 i0 _ 2 24 underlying92 hi L U O rfl (by decide) _ k ((Bx D.A3).take (k*2)) (by rfl) Z.o _ _ _ (by rfl) aA.o (by omega) ?_;intro a3 aH J hB;have H:=A1 (hB.bE I.bm I.Bq);have hm:=A1 (JU V.o d E H.o.1))
     | (go_at_call 122;refine(HE _ b _ vs vc _ _ _ _ _ _ hm.o.1 hm.o.2 aJ).mono ?_;rintro e w5⟨rfl,aW,k1,k2,k3,k4⟩))
    go_ret;rw[q.o,Y];have e3:=aY.o _ _ _ _ hB;exact⟨rfl,JV V.o aP.o d E H.o.1 e3 H.o.2 aN.o k1 k2 k3 k4⟩
  ·(have aL:(bg D.n).1=false:=by simpa using Y)
   go_enter func193,ntmps193
   go_wp2_with (first|(go_at_call 77;refine(CE _ _ _ _ hd.o).mono ?_;rintro e w'⟨rfl,rfl⟩;rw[aR.o])|(go_at_call 121;refine(EB _ _ _ _ _ _ aD.o).mono ?_;rintro e y⟨rfl,d,E⟩));go_ret;rw[q.o,aL];exact⟨rfl,V.o.bu aE d E⟩
def Ch(es:List AL)(i:Nat)(name:ByteArray):Nat->List AL
 | 0=>[]
 | k+1=>Ch es i name k++(match es[k]? with
  | some e=>if k≠i/\e.1≠name then [e] else []
  | none=>[])
def Jc(es:List AL)(i:Nat)(name:ByteArray)(k:Nat):∀e∈Ch es i name k,e∈es:=by
 induction k with
 | zero=>intro e h;cases h
 | succ k ih=>
  intro e h;simp only[Ch]at h;rcases B3.1 h with h|h
  ·exact ih e h
  ·split at h
   ·rename_i x d;split at h
    ·simp at h;subst h;exact Tg d
    ·cases h
   ·cases h
def Lh(es:List AL)(i:Nat)(name:ByteArray)(k:Nat):(Ch es i name k).length<=k:=by
 induction k with
 | zero=>simp[Ch]
 | succ k ih=>
  simp only[Ch,B2];split
  ·split<;>simp<;>omega
  ·simp;omega
def Li(es:List AL)(i:Nat)(name:ByteArray)(k:Nat)(d:k<es.length)(h:k≠i/\(es[k]'d).1≠name):Ch es i name (k+1)=Ch es i name k++[es[k]'d]:=by
 simp only[Ch,E4 d];rw[Am h]
def Jd(es:List AL)(i:Nat)(name:ByteArray)(k:Nat)(d:k<es.length)(h:¬(k≠i/\(es[k]'d).1≠name)):Ch es i name (k+1)=Ch es i name k:=by
 simp only[Ch,E4 d];rw[Ad h,EI]
def Cv(D:DS)(d name:ByteArray):Int×DS:=match lookup D.A3 d with
 | none=>(8,D)
 | some f=>if name=ByteArray.empty then (8,D) else
  let es:=Ch D.A3 (AN D.A3 d).toNat name D.A3.length++[(name,f)]
  ((bg D.n).2.1,if (bg D.n).1 then {D with A3:=es,AI:=D.AI++[es],n:=(bg D.n).2.2} else {D with n:=(bg D.n).2.2})
def Pa(w:World)(b:Nat)(D:DS)(F:Nat->FC)(Ft:Nat->Prop)(h:Du w b D F Ft)(y name:ByteArray)(hs:D.A3.length<1099511627776/\D.AI.length<1099511627776):
 Ac 242 #[A4 b,.string y,.string name] w λe w'=>e=.returned (A0 (Cv D y name).1)/\Cz w Ft w' b (Cv D y name).2 F:=by
 obtain⟨vd,vs,vc,vals,VB,hr,Y⟩:=h;obtain⟨hs1,aR⟩:=hs;have aD:=A1 hr;have aU:=A1 Y;have c0:=hr.Ae.c0;have hd:=A1 hr.A3;have aO:=A1 hr.Ae;rcases GC D.A3 y with⟨h1,h2⟩|⟨k,H,h1,h2,h3⟩
 ·have q:Hid (Cv D y name=(8,D)):=by unfold Hid Cv;rw[h2]
  have hfi:AN D.A3 y<0:=by omega
  go_enter func242,ntmps242
  go_wp2_with (go_at_call 77;refine(CE _ _ _ _ hd.o).mono ?_;rintro e w'⟨rfl,rfl⟩);go_ret;rw[q.o];exact⟨rfl,Cz.a7 (A2.C _ _) aD.o λk H=>.inl (Y k H)⟩
 ·have aQ:=A1 h1;by_cases hn:name.toList.isEmpty=true
  ·(have q:Hid (Cv D y name=(8,D)):=by unfold Hid Cv;rw[h2];exact Am ((isEmpty_iff _).1 hn))
   go_enter func242,ntmps242
   go_wp2_with (go_at_call 77;refine(CE _ _ _ _ hd.o).mono ?_;rintro e w'⟨rfl,rfl⟩;rw[aQ.o]);go_ret;rw[q.o];exact⟨rfl,Cz.a7 (A2.C _ _) aD.o λk H=>.inl (Y k H)⟩
  ·(have hn':name.toList.isEmpty=false:=by simpa using hn);have q:Hid (Cv D y name=((bg D.n).2.1,if (bg D.n).1 then {D with A3:=Ch D.A3 k name D.A3.length++[(name,(D.A3[k]'H).2)],AI:=D.AI++[Ch D.A3 k name D.A3.length++[(name,(D.A3[k]'H).2)]],n:=(bg D.n).2.2} else {D with n:=(bg D.n).2.2})):=by
    unfold Hid Cv;rw[h2];dsimp only;rw[Ad (λe=>hn ((isEmpty_iff _).2 e)),h1];rfl
   by_cases aF:(bg D.n).1=true
   ·obtain⟨i0,hi,aH,aM,aL⟩:=Dr Tryz.b4;obtain⟨a,cap,rfl,z1,z2,aB⟩:=aD.o.A3.BU;obtain⟨g,rfl,_,_⟩:=aB k H;unfold maxLen at z2
    have cells:Hid (∀U wr,Au U b (.slice (some (A8 g 0)) D.A3.length cap) vs vc (bg D.n).2.2->A2 (One b) w U->A2 A7 U wr->A5 wr b 0 (.slice (some (A8 g 0)) D.A3.length cap)/\
     ∀j (hj:j<D.A3.length),A5 wr g (j*2) (.string (D.A3[j]'hj).1)/\A5 wr g (j*2+1) (A4 ((D.A3[j]'hj).2))):=by
     intro U wr g1 g2 g3;have r1:=aD.o.ag g1 g2;have r3:=r1.aq λx hx=>g3.Ao x (r1.lt hx) (λh=>h);exact⟨r3.Ae.c0,λj hj=>⟨Be r3.A3 rfl (JP _ j hj),Be r3.A3 rfl (JN _ j hj)⟩⟩
    go_enter func242,ntmps242
    go_wp2_with (first
     | (go_at_call 77;refine(CE _ _ _ _ hd.o).mono ?_;rintro e w'⟨rfl,rfl⟩;rw[aQ.o])
     | (go_at_call 121;refine(EB _ _ _ _ _ _ aO.o).mono ?_;rintro e U⟨rfl,E,J⟩;have c01:=E.c0))
    go_loopw [10,35] (λv i wr=>∃j:Nat,j<=D.A3.length/\i=A0 j/\A2 A7 U wr/\Dl wr v (Ch D.A3 k name j)/\Hid (∀x,v.ownBlock=some x->U.heap.size<=x)) (λ_ i _=>D.A3.length-(intOf i).toNat)
    case atStart=>exact⟨0,CL _,rfl,A2.C _ _,BW _ _ _ _,λx hx=>by simp[Value.ownBlock]at hx⟩
    case round=>
     obtain⟨j,hj,rfl,I,aS,V⟩:=hrel;have W:=A1 aS;obtain⟨cb,ce⟩:=cells.o U wr E J I;by_cases d:j<D.A3.length
     ·obtain⟨cn,cp⟩:=ce j d;by_cases O:j=k
      ·(have aG:((j:Int)!=(k:Int))=false:=by simp[O]);have q2:=A1 (Jd D.A3 k name j d (λh=>h.1 O));have aN:=A1 O;go_wp2;go_roundw
       case rel=>exact⟨j+1,by omega,by go_num,I,by rw[q2.o];exact W.o,V⟩
       case measure=>simp[intOf];omega
      ·(have aG:((j:Int)!=(k:Int))=true:=by rw[bne_iff_ne];omega);have aN:=A1 O;by_cases L:(D.A3[j]'d).1=name
       ·have aJ:=(K2 _ _).2 L;have q2:=A1 (Jd D.A3 k name j d (λh=>h.2 L));go_wp2;go_roundw
        case rel=>exact⟨j+1,by omega,by go_num,I,by rw[q2.o];exact W.o,V⟩
        case measure=>simp[intOf];omega
       ·have aJ:=(MT _ _).2 L;have q2:=A1 (Li D.A3 k name j d ⟨aN.o,L⟩);have aE:=A1 (W.o.alloc (.cells #[.string (D.A3[j]'d).1,A4 ((D.A3[j]'d).2)] 125));have aA:=A1 (Src.aW (size:=2) underlying92 wr #[.string (D.A3[j]'d).1,A4 ((D.A3[j]'d).2)] 125 wr.heap.size rfl 1 1 rfl (by simp[Value.oneCell']));have aT:=Lh D.A3 k name j;go_wp2_with (at_builtin;refine C7 rfl (.tmp 53) (.tmp 61) 92 92 rfl 125 i0 _ 2 24 underlying92 hi aH aM aL rfl (by decide) _ _ _ (by rfl) aE.o _ 1 _ (by rfl) aA.o (by omega) ?_;intro a3 Z w3 hB;have z:=A1 (hB.bE (I.ae _) V.o));go_roundw
        case rel=>
         refine⟨j+1,by omega,by go_num,z.o.1,?_,z.o.2⟩;rw[q2.o];have:=hB.AA;unfold Dl;rw[Im,B2];exact this
        case measure=>simp[intOf];omega
     ·obtain⟨cn,cp⟩:=ce k H;(have aP:j=D.A3.length:=by omega);have aK:=W.o;rw[aP]at aK;have aE:=A1 (aK.alloc (.cells #[.string name,A4 ((D.A3[k]'H).2)] 125));have aA:=A1 (Src.aW (size:=2) underlying92 wr #[.string name,A4 ((D.A3[k]'H).2)] 125 wr.heap.size rfl 1 1 rfl (by simp[Value.oneCell']));have aT:=Lh D.A3 k name D.A3.length
      go_wp2_with (first
       | (at_builtin;refine C7 rfl (.tmp 65) (.tmp 76) 92 92 rfl 125 i0 _ 2 24 underlying92 hi aH aM aL rfl (by decide) _ _ _ (by rfl) aE.o _ 1 _ (by rfl) aA.o (by omega) ?_;intro a3 Z w3 hB;have z:=A1 (hB.bE (I.ae _) V.o);have hm:=A1 (JU aD.o E J z.o.1))
       | (go_at_call 122;refine(HE _ b _ vs vc _ _ _ _ _ _ hm.o.1 hm.o.2 aR).mono ?_;rintro e w5⟨rfl,vc',k1,k2,k3,k4⟩))
      go_ret;rw[q.o,aF];have e3:Dl w3 (.slice a3 ((Ch D.A3 k name D.A3.length).length+1) Z) (Ch D.A3 k name D.A3.length++[(name,(D.A3[k]'H).2)]):=by
       have:=hB.AA;unfold Dl;rw[Im,B2];exact this
      refine⟨rfl,JV aD.o aU.o E J z.o.1 e3 z.o.2 ?_ k1 k2 k3 k4⟩;rintro f⟨e,he,rfl⟩;rcases B3.1 he with he|he
      ·exact .inl ⟨e,Jc _ _ _ _ e he,rfl⟩
      ·simp at he;subst he;exact .inl ⟨_,Cx H,rfl⟩
   ·(have aI:(bg D.n).1=false:=by simpa using aF)
    go_enter func242,ntmps242
    go_wp2_with (first|(go_at_call 77;refine(CE _ _ _ _ hd.o).mono ?_;rintro e w'⟨rfl,rfl⟩;rw[aQ.o])|(go_at_call 121;refine(EB _ _ _ _ _ _ aO.o).mono ?_;rintro e U⟨rfl,E,J⟩));go_ret;rw[q.o,aI];exact⟨rfl,aD.o.bu Y E J⟩
def Ee(x y:Int):Int:=if x<y then -1 else if y<x then 1 else 0
def Sa(x y:Int)(w:World):Ac 130 #[A0 x,A0 y] w (Ak (A0 (Ee x y)) λw'=>w=w'):=by
 by_cases h:x<y
 ·have q:Hid (Ee x y = -1):=by unfold Hid Ee;rw[Am h]
  go_enter func130,ntmps130
  go_wp2;go_ret;rw[q.o];exact⟨rfl,rfl⟩
 ·by_cases d:y<x
  ·(have q:Hid (Ee x y=1):=by unfold Hid Ee;rw[Ad h,Am d])
   go_enter func130,ntmps130
   go_wp2;go_ret;rw[q.o];exact⟨rfl,rfl⟩
  ·(obtain rfl:x=y:=by omega);(have q:Hid (Ee x x=0):=by unfold Hid Ee;rw[Ad h,Ad d])
   go_enter func130,ntmps130
   go_wp2;go_ret;rw[q.o];exact⟨rfl,rfl⟩
def JY(t v y:Int)(w:World):Ac 163 #[.agg #[A0 t,A0 v],A0 y] w (Ak (A0 (Ee t y)) λw'=>A2 A7 w w'):=by
 go_enter func163,ntmps163
 go_wp2_with (go_at_call 130;refine(Sa _ _ _).mono ?_;rintro e w'⟨rfl,rfl⟩);go_ret;exact⟨rfl,(A2.C _ w).ae _⟩
def Dk(l:List Pt)(t:Int):Bool:=(l[AZ l t]?).any λx=>x.1==t
def P0(w:World)(lv:Value)(L:List Pt)(t:Int)(hL:CR w lv L)(hs:Dt L)(hl:L.length<1099511627776):
 Ac 162 #[lv,A0 t,.func (.func 163) #[] #[]] w (Ak (.tuple #[A0 (AZ L t),.bool (Dk L t)]) λw'=>A2 A7 w w'):=by
 obtain⟨a,cap,rfl,h1,h2,h3,_,_⟩:=AR hL;unfold maxLen at h2;have aF:=A1 hL;have aH:=A1 hs;have aG:=A1 h3;have Y:=G2 L t;have aE:Hid (∀W,A2 A7 w W->∀k (hk:k<L.length),∃g,a=some (A8 g 0)/\A5 W g (k*2) (A0 (L[k]'hk).1)/\A5 W g (k*2+1) (A0 (L[k]'hk).2)):=by
  intro W hc k hk;obtain⟨g,rfl⟩:=aG.o (by omega);have hW:CR W (AH g L.length cap) L:=Aq aF.o λg hg=>hc.Ao g (Av aF.o hg) (λh=>h);exact⟨g,rfl,hW.bh k hk⟩
 go_enter func162,ntmps162
 go_wp2;go_loopw [9,10] (λiv jv wq=>∃i j:Nat,i<=j/\j<=L.length/\iv=A0 i/\jv=A0 j/\Hid (i<=AZ L t/\AZ L t<=j)/\Hid (A2 A7 w wq)) (λiv jv _=>(intOf jv).toNat-(intOf iv).toNat)
 case atStart=>exact⟨0,L.length,CL _,Aw _,rfl,rfl,⟨CL _,Y⟩,A2.C _ _⟩
 case round=>
  obtain⟨i,j,hij,hj,rfl,rfl,z,d⟩:=hrel;by_cases hlt:i<j
  ·obtain⟨m,hm⟩:∃m,(i+j)/2=m:=⟨_,rfl⟩;(have aB:i<=m:=by omega);(have hmj:m<j:=by omega);(have H:m<L.length:=by omega);obtain⟨g,rfl,c1,c2⟩:=aE.o _ d.o m H;obtain⟨⟨tm,vm⟩,V⟩:∃x,L[m]'H=x:=⟨_,rfl⟩;rw[V]at c1 c2;have U:=A1 V;have i0:=C3 i;(have hsum:(i:Int)+(j:Int)<=9223372036854775807:=by omega);(have hlt':(i:Int)<(j:Int):=by omega);by_cases Z:tm<t
   ·(have hc:Ee tm t<0:=by unfold Ee;rw[Am Z];omega);have hp:Hid (m+1<=AZ L t):=by
     unfold Hid;apply Ko;intro hn;have:=He aH.o (show AZ L t<=m by omega) H;rw[U.o]at this;simp only at this;omega
    go_wp2_with (go_at_call 163;refine(JY _ _ _ _).mono ?_;rintro e w'⟨rfl,y⟩;have E:=A1 y);go_roundw
    case rel=>exact⟨m+1,j,by omega,hj,by rw[show ((i:Int)+(j:Int))/2+1=((m+1:Nat):Int) from by omega],rfl,⟨hp.o,z.o.2⟩,d.o.tr E.o⟩
    case measure=>simp[intOf];omega
   ·have hc:0<=Ee tm t:=by
     unfold Ee;rw[Ad Z];split<;>omega
    have hp:Hid (AZ L t<=m):=by
     unfold Hid;apply Ko;intro hn;have:=Gv (show m<AZ L t by omega) H;rw[U.o]at this;simp only at this;omega
    go_wp2_with (go_at_call 163;refine(JY _ _ _ _).mono ?_;rintro e w'⟨rfl,y⟩;have E:=A1 y);go_roundw
    case rel=>exact⟨i,m,aB,by omega,rfl,by rw[show ((i:Int)+(j:Int))/2=(m:Int) from by omega],⟨z.o.1,hp.o⟩,d.o.tr E.o⟩
    case measure=>simp[intOf];omega
  ·(obtain rfl:i=j:=by omega);(have aA:Hid (AZ L t=i):=by have:=z.o;unfold Hid;omega);by_cases I:i<L.length
   ·obtain⟨g,rfl,c1,c2⟩:=aE.o _ d.o i I;obtain⟨⟨J,vi⟩,O⟩:∃x,L[i]'I=x:=⟨_,rfl⟩;rw[O]at c1 c2;have i0:=C3 i;(have i1:(i:Int)<(L.length:Int):=by omega);have aD:Hid (Dk L t=(Ee J t==0)):=by
     unfold Hid Dk;rw[aA.o,E4 I,O];simp only[Option.any_some];unfold Ee;by_cases e1:J<t
     ·rw[Am e1];have:J≠t:=by omega
      simp[this]
     ·rw[Ad e1];by_cases e2:t<J
      ·rw[Am e2];have:J≠t:=by omega
       simp[this]
      ·rw[Ad e2];have:J=t:=by omega
       simp[this]
    go_wp2_with (go_at_call 163;refine(JY _ _ _ _).mono ?_;rintro e w'⟨rfl,y⟩;have E:=A1 y);go_ret2;rw[aA.o,aD.o];exact⟨rfl,d.o.tr E.o⟩
   ·(have hil':(L.length:Int)<=(i:Int):=by omega);have aD:Hid (Dk L t=false):=by
     unfold Hid Dk;rw[aA.o,Ki (by omega)];rfl
    go_wp2;go_ret2;rw[aA.o,aD.o];exact⟨rfl,d.o⟩
structure IA (w:World) (b o:Nat) (L:List Pt) (lv:Value):Prop where
 CK:w.cell? ⟨b,o,none⟩=some lv
 AU:CR w lv L
 DZ:Dt L
 En:L.length<1099511627776
def Ik(w:World)(b o:Nat)(L:List Pt)(lv:Value)(t:Int)(h:IA w b o L lv):
 Ac 116 #[.pointer (some (A8 b o)),A0 t] w (Ak (.tuple #[A0 (AZ L t),.bool (Dk L t)]) λw'=>A2 A7 w w'):=by
 have hc:=h.CK;obtain⟨a,cap,rfl,_⟩:=AR h.AU;have H:=A1 h
 go_enter func116,ntmps116
 go_wp2_with (go_at_call 162;refine(P0 _ _ _ _ H.o.AU H.o.DZ H.o.En).mono ?_;rintro e w'⟨rfl,d⟩;have y:=A1 d);go_ret2;exact⟨rfl,y.o⟩
def Tryz.bL:(Tryz.prog.info? 70).map (λi=>(i.zero,i.size,i.bytes))=some (some (.agg #[A0 0,A0 0]),2,16):=by kernel_rfl
def PM{l:List Pt}(y:Dt l)(t:Int):AZ l (t+1)=AZ l t+(if Dk l t then 1 else 0):=by
 have H:=G2 l t;by_cases h:Dk l t=true
 ·rw[Am h];unfold Dk at h;by_cases I:AZ l t<l.length
  ·rw[E4 I]at h;simp at h;refine Lx y (by omega) (λi d E=>?_) λi d z=>?_
   ·by_cases e:i=AZ l t
    ·subst e;omega
    ·have:=Gv (show i<AZ l t by omega) d;omega
   ·have:=IH.1 y (AZ l t) i I d (by omega);rw[h]at this;omega
  ·rw[Ki (by omega)]at h;cases h
 ·rw[Ad h,Np];refine Lx y H (λi d E=>?_) λi d z=>?_
  ·have:=Gv E d;omega
  ·have h2:=He y z d;by_cases e:(l[i]'d).1=t
   ·exfalso;apply h;by_cases J:i=AZ l t
    ·subst J;unfold Dk;rw[E4 d];simpa using e
    ·have:=IH.1 y (AZ l t) i (by omega) d (by omega);have:=He y (Aw (AZ l t)) (show AZ l t<l.length by omega);omega
   ·omega
def PN{l:List Pt}(d:Dt l){a b:Int}(h:a<=b):AZ l a<=AZ l b:=by
 apply Ko;intro hn;have hl:=G2 l a;have h1:=Gv (show AZ l b<AZ l a by omega) (by omega);have h2:=He d (Aw (AZ l b)) (by omega);omega
def piece(l:List Pt)(a b:Int):List Pt:=l.filter λx=>decide (a<=x.1)&&decide (x.1<=b)
def PO{l:List Pt}(d:Dt l)(a b:Int):piece l a b=(l.take (AZ l b+(if Dk l b then 1 else 0))).drop (AZ l a):=by
 rw[<-PM d b,<-RJ d a (b+1)];unfold piece
 congr 1
 funext x
 have:decide (x.1<=b)=decide (x.1<b+1):=by
  apply IS.2;simp;omega
 rw[this]
def SG(w:World)(rb ro:Nat)(L:List Pt)(lv:Value)(a b:Int)(h:IA w rb ro L lv):
 Ac 80 #[.pointer (some (A8 rb ro)),A0 a,A0 b] w λe w'=>∃v,e=.returned v/\CR w' v (piece L a b)/\A2 A7 w w'/\∀g,v.ownBlock=some g->w.heap.size<=g:=by
 have H:=A1 h;have hc:=h.CK;obtain⟨ad,cap,rfl,h1,h2,h3,h4,h5⟩:=AR h.AU;unfold maxLen at h2;have HA:=A1 h3;have aT:=Gb w _ hc;have aL:Hid (∀W,A2 A7 w W->IA W rb ro L (.slice ad L.length cap)):=λW I=>
  ⟨(GQ (I.Ao rb aT (λh=>h))).trans H.o.CK,Aq H.o.AU λg hg=>I.Ao g (Av H.o.AU hg) (λh=>h),H.o.DZ,H.o.En⟩
 obtain⟨i0,hi,aF,aK,aI⟩:=Dr Tryz.bL;have hsm:=h.En;have aX:=A1 h4;have aW:=A1 h5;by_cases hab:b<a
 ·have q:Hid (piece L a b=[]):=by
   unfold Hid piece;rw[NC];intro x _;simp;omega
  go_enter func80,ntmps80
  go_wp2;go_ret;exact⟨_,rfl,by rw[q.o];exact BW _ _ _ _,A2.C _ _,by simp[Value.ownBlock]⟩
 ·have aN:a<=b:=by omega
  have aJ:=PO H.o.DZ a b;have hm:=PN H.o.DZ aN;have aS:=G2 L b;have O:Dk L b=true->AZ L b<L.length:=λhh=>by
   unfold Dk at hh;apply Ko;intro hn;rw[Ki (by omega)]at hh;cases hh
  obtain⟨i,aH⟩:∃i,AZ L a=i:=⟨_,rfl⟩;obtain⟨j,U⟩:∃j,AZ L b=j:=⟨_,rfl⟩;obtain⟨hs,aE⟩:∃hs,Dk L b=hs:=⟨_,rfl⟩;rw[aH,U]at hm;rw[U]at aS;rw[aE,U]at O;rw[aH,U,aE]at aJ;have aR:Hid (∀W,A2 A7 w W->Ac 116 #[.pointer (some (A8 rb ro)),A0 a] W λe w'=>∃x,e=.returned (.tuple #[A0 i,.bool x])/\A2 A7 W w'):=λW I=>
   (Ik W rb ro L _ a (aL.o W I)).mono (by rintro e w'⟨rfl,h⟩;rw[aH];exact⟨_,rfl,h⟩)
  have aV:Hid (∀W,A2 A7 w W->Ac 116 #[.pointer (some (A8 rb ro)),A0 b] W (Ak (.tuple #[A0 j,.bool hs]) λw'=>A2 A7 W w')):=λW I=>
   (Ik W rb ro L _ b (aL.o W I)).mono (by rintro e w'⟨rfl,h⟩;rw[U,aE];exact⟨rfl,h⟩)
  have aQ:=A1 aJ;have J:Hid (∀W (n:Nat),A2 A7 w W->i<=n->n<=L.length->n=j+(if hs then 1 else 0)->∀v,(v=.slice (Option.map (λx=>x.add (i*2)) ad) (n-i) (cap-i)\/(n=i/\∃x c,v=.slice x 0 c))->Src Tryz.prog 2 66 v (n-i) (AQ (piece L a b)) W/\(piece L a b).length=n-i):=by
   intro W n I hin hnl hn v hv;(have aA:(piece L a b).length=n-i:=by rw[aQ.o,<-hn,CS,Dg];omega);have aP:=(aL.o W I).AU;refine⟨?_,aA⟩;have aU:∀g,ad=some (A8 g 0)->∀(k:Nat) u,(AQ (piece L a b))[k]?=some u->A5 W g (i*2+k) u:=by
    intro g hg k u hk;subst hg;refine Be aP (g:=g) rfl ?_;rw[aQ.o,<-hn,<-HT,<-Jk,FU,Kh]at hk;split at hk
    ·exact hk
    ·cases hk
   have aB:n-i=0->∀x c,Src Tryz.prog 2 66 (.slice x 0 c) 0 (AQ (piece L a b)) W:=by
    intro h0 x c;have:piece L a b=[]:=Hu (by omega);rw[this];cases x with
    | none=>exact Src.ofNil W underlying66 c
    | some y=>exact Gc W underlying66 _ 0 c [] rfl (by simp) (by simp)
   rcases hv with rfl|⟨hni,x,c,rfl⟩
   ·cases ad with
    | none=>
     have:=(aX.o rfl).1;(have h0:n-i=0:=by omega);rw[h0];exact aB h0 _ _
    | some x=>
     obtain⟨g,rfl⟩:=aW.o x rfl;refine Gc W underlying66 _ _ _ _ (by rw[E8,aA]) (λk u hk=>?_) (HS _);have hx:Addr.add (Addr.add (A8 g 0) (i*2)) k=(A8 g (i*2+k)):=by
      unfold Addr.add;by_cases h1:i*2=0<;>by_cases h2:k=0<;>simp[h1,h2]
     rw[hx];exact aU g rfl k u hk
   ·(have h0:n-i=0:=by omega);rw[h0];exact aB h0 x c
  have HLEN:Hid ((piece L a b).length=j+(if hs then 1 else 0)-i):=by
   unfold Hid;rw[aJ,CS,Dg];cases hs with
   | true=>have:=O rfl;simp;omega
   | false=>simp;omega
  have j0:=C3 j;have iz:=C3 i;have hij:(i:Int)<=(j:Int):=by omega
  have hjc:(j:Int)<=(cap:Int):=by omega
  have hic:(i:Int)<=(cap:Int):=by omega
  have hbyt:(0+(j+1-i))*16<=140737488355328:=by omega
  have aG:Hid (∀(W Y:World) (n:Nat) (V:Option Addr) (d:Nat),A2 A7 w W->(piece L a b).length=n->App W Y 70 2 (.slice none 0 0) (.slice V (0+n) d) (0+n) ([]++AQ (piece L a b))->CR Y (.slice V n d) (piece L a b)/\A2 A7 w Y/\∀g,(Value.slice V n d).ownBlock=some g->w.heap.size<=g):=by
   intro W Y n V d I hn Z;refine⟨?_,I.tr Z.bm,λg hg=>?_⟩
   ·have:=Z.AA;unfold CR;rw[hn];simpa using this
   ·have:=Z.Bq g (by simpa using hg);have:=I.Af;omega
  cases hs with
  | false=>
   by_cases aO:cap=i
   ·obtain rfl:i=cap:=aO.symm;(obtain rfl:j=i:=by omega);have aM:Hid (∀W x c,A2 A7 w W->Src Tryz.prog 2 66 (.slice x 0 c) 0 (AQ (piece L a b)) W/\(piece L a b).length=0):=λW x c I=>by
     have:=J.o W j I (Aw _) (by omega) (by simp) (.slice x 0 c) (.inr ⟨rfl,x,c,rfl⟩)
     rwa [Nat.sub_self]at this
    go_enter func80,ntmps80
    go_wp2_with (fail);refine(aR.o _ (A2.C _ _)).mono ?_;rintro e w1⟨x,rfl,k1⟩;have aD:=A1 k1;go_wp2_with (fail);refine(aV.o _ aD.o).mono ?_;rintro e w2⟨rfl,k2⟩;have E:=A1 <| aD.o.tr k2;have c2:=(aL.o _ E.o).CK;go_wp2_with (at_builtin;refine C7 rfl (.const (.slice none 0 0)) (.tmp 35) 66 66 rfl 70 i0 _ 2 16 underlying66 hi aF aK aI rfl (by decide) (.slice none 0 0) 0 [] (by rfl) (BW _ 0 70 2) _ 0 _ (by rfl) (aM.o _ _ _ E.o).1 (by omega) ?_;intro V d Y Z;have z:=A1 (aG.o _ Y _ V d E.o (aM.o _ none 0 E.o).2 Z));go_ret;exact⟨_,rfl,z.o.1,z.o.2.1,z.o.2.2⟩
   ·skip
    go_enter func80,ntmps80
    go_wp2_with (fail);refine(aR.o _ (A2.C _ _)).mono ?_;rintro e w1⟨x,rfl,k1⟩;have aD:=A1 k1;go_wp2_with (fail);refine(aV.o _ aD.o).mono ?_;rintro e w2⟨rfl,k2⟩;have E:=A1 <| aD.o.tr k2;have c2:=(aL.o _ E.o).CK;go_wp2_with (at_builtin;refine C7 rfl (.const (.slice none 0 0)) (.tmp 35) 66 66 rfl 70 i0 _ 2 16 underlying66 hi aF aK aI rfl (by decide) (.slice none 0 0) 0 [] (by rfl) (BW _ 0 70 2) _ (j-i) _ (by rfl) (J.o _ j E.o (by omega) (by omega) (by simp) _ (.inl rfl)).1 (by omega) ?_;intro V d Y Z;have z:=A1 (aG.o _ Y _ V d E.o (J.o _ j E.o (by omega) (by omega) (by simp) _ (.inl rfl)).2 Z));go_ret;exact⟨_,rfl,z.o.1,z.o.2.1,z.o.2.2⟩
  | true=>
   have hjl:=O rfl;(have hjc':(j:Int)+1<=(cap:Int):=by omega);(have hij':(i:Int)<=(j:Int)+1:=by omega);(have hjt:((j:Int)+1).toNat=j+1:=by omega);by_cases aO:cap=i
   ·exfalso;omega
   ·skip
    go_enter func80,ntmps80
    go_wp2_with (fail);refine(aR.o _ (A2.C _ _)).mono ?_;rintro e w1⟨x,rfl,k1⟩;have aD:=A1 k1;go_wp2_with (fail);refine(aV.o _ aD.o).mono ?_;rintro e w2⟨rfl,k2⟩;have E:=A1 <| aD.o.tr k2;have c2:=(aL.o _ E.o).CK;go_wp2_with (at_builtin;refine C7 rfl (.const (.slice none 0 0)) (.tmp 35) 66 66 rfl 70 i0 _ 2 16 underlying66 hi aF aK aI rfl (by decide) (.slice none 0 0) 0 [] (by rfl) (BW _ 0 70 2) _ ((j+1)-i) _ (by rfl) (J.o _ (j+1) E.o (by omega) (by omega) (by simp) _ (.inl rfl)).1 (by omega) ?_;intro V d Y Z;have z:=A1 (aG.o _ Y _ V d E.o (J.o _ (j+1) E.o (by omega) (by omega) (by simp) _ (.inl rfl)).2 Z));go_ret;exact⟨_,rfl,z.o.1,z.o.2.1,z.o.2.2⟩
structure ES (w:World) (b o:Nat) (cs:Array Value) (T:Nat) (L:List Pt) (lv:Value):Prop where
 Ae:w.heap[b]?=some (.cells cs T (0,0))
 BJ:cs[o]?=some lv
 AU:CR w lv L
 DZ:Dt L
 En:L.length<1099511627776
def ES.bp{w:World}{b o:Nat}{d:Array Value}{T:Nat}{L:List Pt}{lv:Value}(h:ES w b o d T L lv):IA w b o L lv:=
 ⟨by simp[World.cell?,h.Ae,h.BJ],h.AU,h.DZ,h.En⟩
def ES.Aj{w w':World}{b o:Nat}{d:Array Value}{T:Nat}{L:List Pt}{lv:Value}(h:ES w b o d T L lv)(y:A2 A7 w w'):ES w' b o d T L lv:=
 ⟨(y.Ao b (CD h.Ae) (λh=>h)).trans h.Ae,h.BJ,Aq h.AU λg z=>y.Ao g (Av h.AU z) (λh=>h),h.DZ,h.En⟩
structure F7 (w w':World) (b o:Nat) (cs:Array Value) (T:Nat) (lv:Value) (L':List Pt) (lv':Value):Prop where
 AU:ES w' b o (cs.setIfInBounds o lv') T L' lv'
 Aj:A2 (λk=>k=b\/lv.ownBlock=some k) w w'
 AA:∀g,lv'.ownBlock=some g->lv.ownBlock=some g\/w.heap.size<=g
def RE(w:World)(O I:Nat)(cs:Array Value)(T:Nat)(hT:T≠70)(L:List Pt)(lv:Value)(t:Int)(h:ES w O I cs T L lv):
 Ac 72 #[.pointer (some (A8 O I)),A0 t] w (Ak (.tuple #[]) λw'=>∃aR lv',(aR=L\/aR=L.drop (AZ L t))/\F7 w w' O I cs T lv aR lv'):=by
 have H:=A1 h;obtain⟨ad,cap,rfl,h1,h2,h3,h4,h5⟩:=AR h.AU;unfold maxLen at h2;have HA:=A1 h3;have aU:=A1 h4;have aT:=A1 h5;obtain⟨i0,hi,aF,aL,aJ⟩:=Dr Tryz.bL;have hsm:=h.En;have aQ:=G2 L t;obtain⟨i,Z⟩:∃i,AZ L t=i:=⟨_,rfl⟩;rw[Z]at aQ;have aO:Hid (Ac 116 #[.pointer (some (A8 O I)),A0 t] w λe w'=>∃x,e=.returned (.tuple #[A0 i,.bool x])/\A2 A7 w w'):=
  (Ik w O I L _ t h.bp).mono (by rintro e w'⟨rfl,h⟩;rw[Z];exact⟨_,rfl,h⟩)
 have aM:=A1 Z;clear h h3 h4 h5 Z;have iz:=C3 i;have hic:(i:Int)<=(L.length:Int):=by omega
 have hlc:(L.length:Int)<=(cap:Int):=by omega
 by_cases hgt:((L.length:Int)/2<(i:Int))
 ·
  have aG:Hid (∀W,A2 A7 w W->∀v m,(v=.slice (Option.map (λx=>x.add (i*2)) ad) m (cap-i)/\m=L.length-i\/(L.length=i/\m=0/\∃x c,v=.slice x 0 c))->Src Tryz.prog 2 66 v m (AQ (L.drop i)) W):=by
   intro W hW v m hv;have E:=(H.o.Aj hW).AU;have aA:L.length-i=0->∀x c,Src Tryz.prog 2 66 (.slice x 0 c) 0 (AQ (L.drop i)) W:=by
    intro h0 x c;have:L.drop i=[]:=Gk (by omega);rw[this];cases x with
    | none=>exact Src.ofNil W underlying66 c
    | some y=>exact Gc W underlying66 _ 0 c [] rfl (by simp) (by simp)
   rcases hv with⟨rfl,rfl⟩|⟨hni,rfl,x,c,rfl⟩
   ·cases ad with
    | none=>
     have:=(aU.o rfl).1;(have h0:L.length-i=0:=by omega);rw[h0];exact aA h0 _ _
    | some x=>
     obtain⟨g,rfl⟩:=aT.o x rfl;refine Gc W underlying66 _ _ _ _ (by rw[E8,CS]) (λk u hk=>?_) (HS _);have hx:Addr.add (Addr.add (A8 g 0) (i*2)) k=(A8 g (i*2+k)):=by
      unfold Addr.add;by_cases h1:i*2=0<;>by_cases h2:k=0<;>simp[h1,h2]
     rw[hx];refine Be E (g:=g) rfl ?_;rw[<-HT,FU]at hk;exact hk
   ·exact aA (by omega) x c
  have aI:Hid (∀(W U:World) (m:Nat) (J:Option Addr) (d:Nat),A2 A7 w W->m=L.length-i->App W U 70 2 (.slice none 0 0) (.slice J (0+m) d) (0+m) ([]++AQ (L.drop i))->
   U.cell? (A8 O I)=some (.slice ad L.length cap)/\U.frozen? (A8 O I)=false/\F7 w (U.sC O I (.slice J m d)) O I cs T (.slice ad L.length cap) (L.drop i) (.slice J m d)):=by
   intro W U m J d hW hm V;subst hm;have Y:=(V.bm.Ao O (CD (H.o.Aj hW).Ae) (λh=>h)).trans (H.o.Aj hW).Ae;have E:CR U (.slice J (L.length-i) d) (L.drop i):=by
    have:=V.AA;unfold CR;rw[CS];simpa using this
   have aS:=hW.tr V.bm;refine⟨by simp[World.cell?,Y,H.o.BJ],by simp[World.frozen?,Y],⟨⟨Ca Y,?_,?_,H.o.DZ.dF i,by rw[CS];omega⟩,?_,?_⟩⟩
   ·have aD:=(Ku.1 H.o.BJ).1;simp[aD]
   ·refine Aq E λg hg=>?_;have aN:g≠O:=λe=>by
     obtain⟨c,hh⟩:=BA E hg;subst e;rw[Y]at hh;cases hh;exact hT rfl
    exact EV _ _ _ _ (λe=>aN (by simpa using e))
   ·exact(aS.U (λ_ _ h=>h.elim)).ak (.inl rfl) I _
   ·intro g hg;right;have:=V.Bq g (by simpa using hg);have:=hW.Af;omega
  by_cases aP:cap=i
  ·obtain rfl:i=cap:=aP.symm;(have aK:L.length=i:=by omega);have aE:=A1 aK;clear aK
   go_enter func72,ntmps72
   go_wp2_with (fail);refine aO.m ?_;rintro e w1⟨x,rfl,k1⟩;have aB:=A1 k1;have c2:=(H.o.Aj k1).bp.CK;clear k1;go_wp2_with (at_builtin;refine C7 rfl (.const (.slice none 0 0)) (.tmp 26) 66 66 rfl 70 i0 _ 2 16 underlying66 hi aF aL aJ rfl (by decide) (.slice none 0 0) 0 [] (by rfl) (BW _ 0 70 2) _ 0 _ (by rfl) (aG.o _ aB.o _ 0 (.inr ⟨aE.o,rfl,_,_,rfl⟩)) (by omega) ?_;intro J d U V;have z:=A1 (aI.o _ U 0 J d aB.o (by have:=aE.o;omega) V);have y1:=z.o.1;have y2:=z.o.2.1;clear V);go_end0;refine⟨rfl,_,.slice J 0 d,.inr rfl,?_⟩;rw[aM.o];have:=z.o.2.2;simpa using this
  ·go_enter func72,ntmps72
   go_wp2_with (fail);refine aO.m ?_;rintro e w1⟨x,rfl,k1⟩;have aB:=A1 k1;have c2:=(H.o.Aj k1).bp.CK;go_wp2_with (at_builtin;refine C7 rfl (.const (.slice none 0 0)) (.tmp 26) 66 66 rfl 70 i0 _ 2 16 underlying66 hi aF aL aJ rfl (by decide) (.slice none 0 0) 0 [] (by rfl) (BW _ 0 70 2) _ (L.length-i) _ (by rfl) (aG.o _ aB.o _ _ (.inl ⟨rfl,rfl⟩)) (by omega) ?_;intro J d U V;have z:=A1 (aI.o _ U _ J d aB.o rfl V);have y1:=z.o.1;have y2:=z.o.2.1);go_end0;refine⟨rfl,_,.slice J (L.length-i) d,.inr rfl,?_⟩;rw[aM.o];have:=z.o.2.2;simpa using this
 ·have hgt':(i:Int)<=(L.length:Int)/2:=by omega
  go_enter func72,ntmps72
  go_wp2_with (fail);refine aO.m ?_;rintro e w1⟨x,rfl,k1⟩;have aB:=A1 k1;have c2:=(H.o.Aj k1).bp.CK;go_wp2;go_end0;have hR:=H.o.Aj aB.o;refine⟨rfl,L,_,.inl rfl,⟨?_,aB.o.U (λ_ _ h=>h.elim),λg hg=>.inl hg⟩⟩;have aH:cs.setIfInBounds I (.slice ad L.length cap)=cs:=by
   obtain⟨aD,he⟩:=Ku.1 H.o.BJ;apply TG;intro k;by_cases hk:I=k
   ·subst hk;simp[aD,he]
   ·rw[NS hk]
  rw[aH];exact hR
def Hy{P:Program}(w:World){ops:Array Oper}{rest:List Oper}{o:Oper}{a:Act}{Q:Exit->Act->World->Prop}(y:o.guard=none)(d s:Operand)(t E:TypeId)(J:o.op=.call {callee:=.builtin .copy,args:=#[d,s],argTypes:=#[t,E]})(v u:Value)(H:a.eval d=v)(O:a.eval s=u){z:Value}{w':World}(L:(Builtin.copy_ #[t,E] o.type #[v,u]).run P w=.ok z w')(h:wpList P ops Q rest (a.put o.dst z) w'):wpList P ops Q (o::rest) a w:=
 wpList_plain y λ_ I=>by
  unfold Oper.wp execOp;simp only[J,resolve,invoke,builtin,Sem.run_bind,Sem.run_pure,Result.andThen_ok,List.map_toArray,ET,List.map_nil,H,O,L];exact I _ _ h
def Co(d:List Value)(L:List Pt)(i:Nat):List Value:=d.take ((i+1)*2)++AQ (L.drop i)++d.drop ((i+1)*2+(AQ (L.drop i)).length)
def CA(c:List Value)(i:Nat)(t v:Int):List Value:=c.take (i*2)++[A0 t,A0 v]++c.drop (i*2+2)
def Mq(L:List Pt)(i:Nat)(t v:Int):AQ (L.take i++(t,v):: L.drop i)=AQ (L.take i)++[A0 t,A0 v]++AQ (L.drop i):=by
 rw[Lw];simp[AQ]
def Mv(d:List Value)(L:List Pt)(i:Nat)(hi:i<=L.length)(hlen:(L.length+1)*2<=d.length):(Co d L i).length=d.length:=by
 have h:(AQ (L.drop i)).length=(L.length-i)*2:=by rw[E8,CS]
 unfold Co;simp only[B2,Dg,CS,h];omega
def JG(c:List Value)(i:Nat)(t v:Int)(h:i*2+2<=c.length):(CA c i t v).length=c.length:=by
 unfold CA;simp only[B2,Dg,CS,Cr,Gg];omega
def Rm(L:List Pt)(i:Nat)(hi:i<=L.length)(t v:Int)(d:List Value)(h:d.take (i*2)=AQ (L.take i))(hlen:(L.length+1)*2<=d.length):
 (CA (Co d L i) i t v).take ((L.length+1)*2)=AQ (L.take i++(t,v):: L.drop i):=by
 have y:(AQ (L.drop i)).length=(L.length-i)*2:=by rw[E8,CS]
 have E:(d.take ((i+1)*2)).length=(i+1)*2:=by rw[Dg];omega
 have H:(Co d L i).take (i*2)=AQ (L.take i):=by
  unfold Co;rw[CQ,GU (by rw[E];omega),Ka,show min (i*2) ((i+1)*2)=i*2 from by omega,h]
 have I:(Co d L i).drop (i*2+2)=AQ (L.drop i)++d.drop ((i+1)*2+(AQ (L.drop i)).length):=by
  unfold Co;rw[CQ]
  conv=>lhs;rw[show i*2+2=(d.take ((i+1)*2)).length from by rw[E];omega]
  rw[NF]
 have z:(AQ (L.take i)++[A0 t,A0 v]++AQ (L.drop i)).length=(L.length+1)*2:=by
  simp only[B2,E8,y,Dg,Cr,Gg];omega
 unfold CA;rw[H,I,Mq,<-CQ,<-z,Hp]
structure FA (w w':World) (lv:Value) (L':List Pt) (lv':Value):Prop where
 AU:CR w' lv' L'
 Aj:A2 (λk=>lv.ownBlock=some k) w w'
 AA:∀g,lv'.ownBlock=some g->lv.ownBlock=some g\/w.heap.size<=g
def Re(w:World)(g cap:Nat)(L:List Pt)(i E:Nat)(t v:Int)(hL:CR w (AH g L.length cap) L)(hi:i<L.length)(J:L.length+1<=cap)(hsm:L.length<1099511627776)(hv:w.heap[E]?=some (.cells #[A0 t,A0 v] 70 (0,0)))(aD:E≠g):
 Ac 139 #[AH g L.length cap,A0 i,AH E 1 1] w λe w'=>∃lv',e=.returned lv'/\FA w w' (AH g L.length cap) (L.take i++(t,v):: L.drop i) lv':=by
 obtain⟨d,hg,Y,W,_,aI⟩:=LB hL;unfold maxLen at aI;obtain⟨i0,O,hz0,U,hz2⟩:=Dr Tryz.bL;have aL:∀lb cb,(callFunc 181 #[AH E 1 1,.slice (some (A8 g ((i+1)*2))) lb cb]).run Tryz.prog w=.ok (.value (.bool false)) w:=λlb cb=>by
  have aN:∀w,(Go.sizeOf 70).run Tryz.prog w=.ok 2 w:=λw=>by simp[sizeOf,typeInfo,O,U]
  rw[P3 func181 (by kernel_rfl) (by kernel_rfl) (by kernel_rfl) (e:=Extern.SlicesOverlaps.overlaps #[66,66] #[4]) (by kernel_rfl),
   Lib.run_overlaps_apart w 66 4 70 underlying66 2 aN (A8 E 0) (A8 g ((i+1)*2)) 1 1 lb cb aD 70 70 2 d.size (by simp[World.shape?,hv]) (by simp[World.shape?,hg]) (by rw[Y];omega) (by simp[World.frozen?,hv]) (by simp[World.frozen?,hv])]
  rfl
 have aH:(L.length+1)*2<=d.toList.length:=by have:=Hx (xs:=d);omega
 have z:(Co d.toList L i).length=cap*2:=by rw[Mv _ _ _ (by omega) aH,Hx,Y]
 have aG:(AQ (L.drop i)).length=(L.length-i)*2:=by rw[E8,CS]
 have aK:d.toList.take (i*2)=AQ (L.take i):=by
  rw[show i*2=min (i*2) (L.length*2) from by omega,<-Ka,W,Jk]
 have aO:∀(x y:Nat),Addr.add (A8 g x) y=(A8 g (x+y)):=λx y=>by unfold Addr.add;by_cases h:y=0<;>simp[h]
 have aP:∀(y:Nat),Addr.add (A8 E 0) y=(A8 E y):=λy=>by unfold Addr.add;by_cases h:y=0<;>simp[h]
 have aE:Hid (∀Z I sc,(Builtin.copy_ #[66,66] Z #[.slice (some (A8 g ((i+1)*2))) (L.length-i) I,.slice (some (A8 g (i*2))) (L.length+1-i) sc]).run Tryz.prog w.drew=.ok (goInt ((L.length-i:Nat):Int)) (w.drew.setRow g (Co d.toList L i).toArray)):=λZ I sc=>
  HM w.drew _ _ Z 70 i0 2 g ((i+1)*2) _ I (A8 g (i*2)) _ sc (L.length-i) d 70 (AQ (L.drop i)) underlying66 O U hg (by simp only[Nn];split<;>omega) aG
   (λj u H=>by
    rw[aO];refine Be (w:=w) hL (g:=g) rfl ?_
    rw[<-HT,FU]at H;exact H)
   (by rw[aG,Y];omega) (HS _)
 have aB:Hid (∀Z I,(Builtin.copy_ #[66,66] Z #[.slice (some (A8 g (i*2))) (L.length+1-i) I,AH E 1 1]).run Tryz.prog (w.drew.setRow g (Co d.toList L i).toArray)=.ok (goInt ((1:Nat):Int)) ((w.drew.setRow g (Co d.toList L i).toArray).setRow g (CA (Co d.toList L i) i t v).toArray)):=λZ I=>by
  have V:(w.drew.setRow g (Co d.toList L i).toArray).heap[g]?=some (.cells (Co d.toList L i).toArray 70 (0,0)):=H7 w.drew g d _ 70 _ hg;have:=HM (P:=Tryz.prog) (w.drew.setRow g (Co d.toList L i).toArray) 66 66 Z 70 i0 2 g (i*2) (L.length+1-i) I (A8 E 0) 1 1 1 (Co d.toList L i).toArray 70 [A0 t,A0 v] underlying66 O U V (by simp only[Nn];split<;>omega) rfl
   (λj u H=>by
    rw[aP];have aJ:(w.drew.setRow g (Co d.toList L i).toArray).heap[E]?=some (.cells #[A0 t,A0 v] 70 (0,0)):=(Gs w.drew g E _ aD).trans hv;unfold World.cell?;rw[aJ]
    match j,H with
    | 0,H=>simpa using H
    | 1,H=>simpa using H
    | j+2,H=>simp at H)
   (by simp only[Hq,z,Cr,Gg];omega) (by simp[Value.oneCell'])
  simpa[CA] using this
 have aQ:Hid (FA w ((w.drew.setRow g (Co d.toList L i).toArray).setRow g (CA (Co d.toList L i) i t v).toArray) (AH g L.length cap) (L.take i++(t,v):: L.drop i) (AH g (L.length+1) cap)):=by
  have V:(w.drew.setRow g (Co d.toList L i).toArray).heap[g]?=some (.cells (Co d.toList L i).toArray 70 (0,0)):=H7 w.drew g d _ 70 _ hg;have aM:((w.drew.setRow g (Co d.toList L i).toArray).setRow g (CA (Co d.toList L i) i t v).toArray).heap[g]?=some (.cells (CA (Co d.toList L i) i t v).toArray 70 (0,0)):=H7 _ g _ _ 70 _ V;have aA:(L.take i++(t,v):: L.drop i).length=L.length+1:=by simp;omega
  refine⟨?_,?_,λg' h'=>.inl h'⟩
  ·unfold CR;rw[aA];refine⟨by rw[E8,aA],.inr ⟨g,cap,_,rfl,CL _,aM,J,by unfold maxLen;omega,?_,?_⟩⟩
   ·rw[Hq,JG _ _ _ _ (by rw[z];omega),z]
   ·exact Rm L i (by omega) t v d.toList aK aH
  ·refine⟨rfl,rfl,rfl,by simp,λk hk hn=>?_⟩;have aF:k≠g:=λe=>hn (by simp[Value.ownBlock,e]);rw[Gs _ g k _ aF,Gs _ g k _ aF];rfl
 have q1:((i:Int)==(L.length:Int))=false:=by simp;omega
 have q2:¬(cap=i):=by omega
 have q3:¬(cap=i+1):=by omega
 have q4:(i:Int)<=(L.length:Int):=by omega
 have q7:((L.length:Int)+1).toNat=L.length+1:=by omega
 have q8:((i:Int)+1).toNat=i+1:=by omega
 have q9:(i:Int)+1<=(L.length:Int)+1:=by omega
 have q10:=C3 i;have q11:(i:Int)<=(L.length:Int)+1:=by omega
 have q13:(0:Int)<=(i:Int)+1:=by omega
 have q12:IntKind.i64.wrap ((i:Int)+1)=(i:Int)+1:=by simp only[IP];omega
 go_enter func139,ntmps139
 go_wp2_with (simp only[aL]);refine Kw 8 (by kernel_rfl) (by kernel_rfl) ?_;simp only[N4,Ei,Eh,Dh,Da]
 repeat still_step
 refine Kz ?_;refine Hy _ rfl (.tmp 73) (.tmp 76) 66 66 rfl _ _ (by rfl) (by rfl) (aE.o _ _ _) ?_;go_wp2_with (refine Hy _ rfl (.tmp 80) (.tmp 81) 66 66 rfl _ _ (by rfl) (by rfl) (aB.o _ _) ?_);go_ret;exact⟨_,rfl,aQ.o⟩
def Rg(w:World)(O:Option Addr)(cap:Nat)(L:List Pt)(vb:Nat)(t v:Int)(hL:CR w (.slice O L.length cap) L)(hsm:L.length<1099511627776)(hv:w.heap[vb]?=some (.cells #[A0 t,A0 v] 70 (0,0))):
 Ac 139 #[.slice O L.length cap,A0 L.length,AH vb 1 1] w λe w'=>∃lv',e=.returned lv'/\FA w w' (.slice O L.length cap) (L.take L.length++(t,v):: L.drop L.length) lv':=by
 obtain⟨i0,W,H,J,U⟩:=Dr Tryz.bL;obtain⟨_,_,he,h1,h2,_,h4,h5⟩:=AR hL;cases he;unfold maxLen at h2;have I:Hid (Src Tryz.prog 2 66 (AH vb 1 1) 1 [A0 t,A0 v] w):=Src.bJ underlying66 hv 1 1 rfl (by simp[Value.oneCell']);have Y:Hid (∀y d h,App w h 70 2 (.slice O L.length cap) (.slice y (L.length+1) d) (L.length+1) (AQ L++[A0 t,A0 v])->FA w h (.slice O L.length cap) (L.take L.length++(t,v):: L.drop L.length) (.slice y (L.length+1) d)):=by
  intro y d h z;refine⟨?_,z.Aj λk hk=>hk,λg Z=>?_⟩
  ·have:=z.AA;unfold CR;rw[EF (Aw _),Gk (Aw _),Lw,B2];exact this
  ·rcases z.BJ with e|e
   ·rw[e]at Z;exact .inl Z
   ·rw[e]at Z;cases Z;exact .inr (Aw _)
 have aA:=A1 hL;have q4:(0:Int)<=(L.length:Int):=EU _;have V:(L.length+1)*16<=140737488355328:=by omega
 by_cases hc:cap=L.length
 ·subst hc
  go_enter func139,ntmps139
  go_wp2_with (at_builtin;refine C7 rfl (.tmp 23) (.tmp 24) 66 66 rfl 70 i0 _ 2 16 underlying66 W H J U rfl (by decide) _ L.length (AQ L) (by rfl) aA.o _ 1 _ (by rfl) I.o V ?_;intro y d h z;have E:=A1 (Y.o y d h z));go_ret;exact⟨_,rfl,E.o⟩
 ·go_enter func139,ntmps139
  go_wp2_with (at_builtin;refine C7 rfl (.tmp 23) (.tmp 24) 66 66 rfl 70 i0 _ 2 16 underlying66 W H J U rfl (by decide) _ L.length (AQ L) (by rfl) aA.o _ 1 _ (by rfl) I.o V ?_;intro y d h z;have E:=A1 (Y.o y d h z));go_ret;exact⟨_,rfl,E.o⟩
def Rl(L:List Pt)(i:Nat)(I:i<=L.length)(t v:Int)(c:List Value)(d:c.take (i*2)=AQ (L.take i))(hlen:(L.length+1)*2<=c.length):
 (Co (CA c i t v) L i).take ((L.length+1)*2)=AQ (L.take i++(t,v):: L.drop i)/\(Co (CA c i t v) L i).length=c.length:=by
 have y:(AQ (L.drop i)).length=(L.length-i)*2:=by rw[E8,CS]
 have h:(CA c i t v).length=c.length:=JG c i t v (by omega);refine⟨?_,by rw[Mv _ _ _ I (by omega),h]⟩;have E:(AQ (L.take i)++[A0 t,A0 v]).length=(i+1)*2:=by
  simp only[B2,E8,Dg,Cr,Gg];omega
 have H:(CA c i t v).take ((i+1)*2)=AQ (L.take i)++[A0 t,A0 v]:=by
  unfold CA;rw[d,<-E,Hp]
 have z:(AQ (L.take i)++[A0 t,A0 v]++AQ (L.drop i)).length=(L.length+1)*2:=by
  rw[B2,E,y];omega
 unfold Co;rw[H,Mq,<-z,Hp]
def Rf(w:World)(g cap:Nat)(L:List Pt)(i vb:Nat)(t v:Int)(hL:CR w (AH g L.length cap) L)(hi:i<L.length)(hroom:cap<L.length+1)(hsm:L.length<1099511627776)(hv:w.heap[vb]?=some (.cells #[A0 t,A0 v] 70 (0,0))):
 Ac 139 #[AH g L.length cap,A0 i,AH vb 1 1] w λe w'=>∃lv',e=.returned lv'/\FA w w' (AH g L.length cap) (L.take i++(t,v):: L.drop i) lv':=by
 obtain⟨cur,hg,hcs,htake,hnc,aT⟩:=LB hL;unfold maxLen at aT;obtain rfl:cap=L.length:=by omega
 obtain⟨i0,U,aQ,V,aH⟩:=Dr Tryz.bL;have aF:(AQ (L.drop i)).length=(L.length-i)*2:=by rw[E8,CS]
 have W:∀(b x y:Nat),Addr.add (A8 b x) y=(A8 b (x+y)):=λb x y=>by unfold Addr.add;by_cases h:y=0<;>simp[h]
 have aM:(Builtin.firstCells i0.size i (AH g i L.length)).run Tryz.prog w.drew=.ok (AQ (L.take i)).toArray w.drew:=
  L9 w.drew i0.size i (A8 g 0) i L.length (AQ (L.take i)) (by rw[V,E8,Dg];omega) (λj u d=>by
   rw[W,ED];refine Be (w:=w) hL (g:=g) rfl ?_;rw[<-Jk,Kh]at d;split at d
   ·exact d
   ·cases d)
 have z:=P4 (P:=Tryz.prog) w 66 3 66 70 i0 _ .i64 underlying66 underlying3 U aQ (by omega) (some (A8 g 0)) i L.length (AQ (L.take i)) aM (L.length+1-i) (by omega) (by omega) (by omega) (by rw[aH];omega) (by rw[aH];exact growslice_fits (by omega) (by omega));rw[show i+(L.length+1-i)=L.length+1 from by omega,show ((L.length+1-i:Nat):Int)=(L.length:Int)+1-(i:Int) from by omega]at z;obtain⟨H,aB⟩:∃H,grownCap w (L.length+1) L.length 70=H:=⟨_,rfl⟩;have aJ:=grownCap_ge w (L.length+1) L.length 70;have aG:grownCap w (L.length+1) L.length 70<=maxLen:=RD w (L.length+1) L.length 70 (by unfold maxLen;omega);rw[aB]at z aJ aG;obtain⟨c0,J⟩:∃c0,(AQ (L.take i)).toArray++Builtin.zeroCells (Value.agg #[A0 0,A0 0]).cells (L.length+1-i)++Builtin.zeroCells (Value.agg #[A0 0,A0 0]).cells (H-(L.length+1))=c0:=⟨_,rfl⟩;have E:c0.toList.length=H*2:=by
  rw[<-J];have e1:(Value.agg #[A0 0,A0 0]).cells.size=2:=rfl;simp only[Kt,B2,Hx,size_zeroCells,e1,E8,Dg];omega
 have aA:c0.toList.take (i*2)=AQ (L.take i):=by
  rw[<-J,Kt,Kt,CQ];have:(AQ (L.take i)).length=i*2:=by rw[E8,Dg];omega
  rw[<-this,Hp]
 rw[J]at z;unfold maxLen at aG;have aE:((w.drew.aC c0 70)).heap[w.heap.size]?=some (.cells c0 70 (0,0)):=Bw w.drew _;have aU:=CD hv;have aO:=CD hg;have aP:((w.drew.aC c0 70)).heap[vb]?=some (.cells #[A0 t,A0 v] 70 (0,0)):=(DD w.drew _ _ aU).trans hv;have aL:Hid (∀I O,(Builtin.copy_ #[66,66] I #[.slice (some (A8 w.heap.size (i*2))) (L.length+1-i) O,AH vb 1 1]).run Tryz.prog (w.drew.aC c0 70)=.ok (goInt ((1:Nat):Int)) ((w.drew.aC c0 70).setRow w.heap.size (CA c0.toList i t v).toArray)):=λI O=>by
  have:=HM (P:=Tryz.prog) (w.drew.aC c0 70) 66 66 I 70 i0 2 w.heap.size (i*2) (L.length+1-i) O (A8 vb 0) 1 1 1 c0 70 [A0 t,A0 v] underlying66 U V aE (by simp only[Nn];split<;>omega) rfl
   (λj u d=>by
    rw[W,ED];unfold World.cell?;rw[aP]
    match j,d with
    | 0,d=>simpa using d
    | 1,d=>simpa using d
    | j+2,d=>simp at d)
   (by rw[<-Hx,E];simp only[Cr,Gg];omega) (by simp[Value.oneCell'])
  simpa[CA] using this
 have aI:(CA c0.toList i t v).length=H*2:=by rw[JG _ _ _ _ (by omega),E]
 have aN:((w.drew.aC c0 70).setRow w.heap.size (CA c0.toList i t v).toArray).heap[w.heap.size]?=some (.cells (CA c0.toList i t v).toArray 70 (0,0)):=H7 _ w.heap.size c0 _ 70 _ aE;have Y:Hid (∀I O sc,(Builtin.copy_ #[66,66] I #[.slice (some (A8 w.heap.size ((i+1)*2))) (L.length-i) O,.slice (some (A8 g (i*2))) (L.length-i) sc]).run Tryz.prog ((w.drew.aC c0 70).setRow w.heap.size (CA c0.toList i t v).toArray).drew=.ok (goInt ((L.length-i:Nat):Int)) (((w.drew.aC c0 70).setRow w.heap.size (CA c0.toList i t v).toArray).drew.setRow w.heap.size (Co (CA c0.toList i t v) L i).toArray)):=λI O sc=>
  HM (P:=Tryz.prog) ((w.drew.aC c0 70).setRow w.heap.size (CA c0.toList i t v).toArray).drew 66 66 I 70 i0 2 w.heap.size ((i+1)*2) (L.length-i) O (A8 g (i*2)) (L.length-i) sc (L.length-i) (CA c0.toList i t v).toArray 70 (AQ (L.drop i)) underlying66 U V aN (by simp) aF
   (λj u d=>by
    rw[W];have h0:w.cell? (A8 g (i*2+j))=some u:=by
     refine Be (w:=w) hL (g:=g) rfl ?_;rw[<-HT,FU]at d;exact d
    refine(GQ ?_).trans h0
    exact(Gs _ w.heap.size g _ (by omega)).trans (DD w.drew _ _ aO))
   (by rw[aF,Hq,aI];omega) (HS _)
 have aS:Hid (FA w (((w.drew.aC c0 70).setRow w.heap.size (CA c0.toList i t v).toArray).drew.setRow w.heap.size (Co (CA c0.toList i t v) L i).toArray) (AH g L.length L.length) (L.take i++(t,v):: L.drop i) (AH w.heap.size (L.length+1) H)):=by
  have aR:(((w.drew.aC c0 70).setRow w.heap.size (CA c0.toList i t v).toArray).drew.setRow w.heap.size (Co (CA c0.toList i t v) L i).toArray).heap[w.heap.size]?=some (.cells (Co (CA c0.toList i t v) L i).toArray 70 (0,0)):=H7 _ w.heap.size _ _ 70 _ aN;have aK:(L.take i++(t,v):: L.drop i).length=L.length+1:=by simp;omega
  obtain⟨k1,k2⟩:=Rl L i (by omega) t v c0.toList aA (by omega);refine⟨?_,?_,λg' h'=>by simp[Value.ownBlock]at h';exact .inr (by omega)⟩
  ·unfold CR;rw[aK];refine⟨by rw[E8,aK],.inr ⟨w.heap.size,H,_,rfl,CL _,aR,aJ,by unfold maxLen;omega,?_,k1⟩⟩;rw[Hq,k2,E]
  ·refine⟨rfl,rfl,rfl,by simp,λk hk hn=>?_⟩;(have Z:k≠w.heap.size:=by omega);rw[Gs _ _ k _ Z];exact(Gs _ _ k _ Z).trans (DD w.drew _ _ hk)
 have q1:((i:Int)==(L.length:Int))=false:=by simp;omega
 have q2:¬(H=i):=by omega
 have q3:¬(H=i+1):=by omega
 have q3':¬(L.length=i):=by omega
 have q4:(i:Int)<=(L.length:Int):=by omega
 have q8:((i:Int)+1).toNat=i+1:=by omega
 have q9:(i:Int)+1<=(L.length:Int)+1:=by omega
 have q10:=C3 i;have q11:(i:Int)<=(L.length:Int)+1:=by omega
 have q13:(0:Int)<=(i:Int)+1:=by omega
 have q12:IntKind.i64.wrap ((i:Int)+1)=(i:Int)+1:=by simp only[IP];omega
 have q14:IntKind.i64.wrap ((L.length:Int)+1-(i:Int))=(L.length:Int)+1-(i:Int):=by simp only[IP];omega
 have aD:=A1 z
 go_enter func139,ntmps139
 go_wp2_with (first
  | (at_builtin;refine Lib.wpList_append_run _ rfl (.tmp 34) (.tmp 39) 66 3 rfl _ _ (by rfl) (by rfl) _ _ aD.o ?_)
  | (refine Hy _ rfl (.tmp 43) (.tmp 44) 66 66 rfl _ _ (by rfl) (by rfl) (aL.o _ _) ?_))
 refine Kw 8 (by kernel_rfl) (by kernel_rfl) ?_;simp only[N4,Ei,Eh,Dh,Da]
 repeat still_step
 refine Kz ?_;refine Hy _ rfl (.tmp 50) (.tmp 53) 66 66 rfl _ _ (by rfl) (by rfl) (Y.o _ _ _) ?_;go_wp2;go_ret;exact⟨_,rfl,aS.o⟩
def Rh(w:World)(z:Option Addr)(cap:Nat)(L:List Pt)(i h:Nat)(t v:Int)(E:CR w (.slice z L.length cap) L)(hi:i<=L.length)(y:L.length<1099511627776)(O:w.heap[h]?=some (.cells #[.int .i64 t,.int .i64 v] 70 (0,0)))(I:(Value.slice z L.length cap).ownBlock≠some h):
 Calls Tryz.prog 139 #[.slice z L.length cap,.int .i64 i,.slice (some ⟨h,0,none⟩) 1 1] w λe w'=>∃lv',e=.returned lv'/\FA w w' (.slice z L.length cap) (L.take i++(t,v):: L.drop i) lv':=by
 by_cases J:i=L.length
 ·subst J;exact Rg w z cap L h t v E y O
 ·obtain⟨_,_,V,h1,h2,U,h4,h5⟩:=AR E;cases V;obtain⟨g,rfl⟩:=U (by omega);have H:h≠g:=λe=>I (by simp[Value.ownBlock,e]);by_cases d:L.length+1<=cap
  ·exact Re w g cap L i h t v E (by omega) d y O H
  ·exact Rf w g cap L i h t v E (by omega) (by omega) y O
def MB{l:List Pt}{t:Int}(h:Dk l t=true):∃d:AZ l t<l.length,(l[AZ l t]'d).1=t:=by
 unfold Dk at h;by_cases d:AZ l t<l.length
 ·rw[E4 d]at h;exact⟨d,by simpa using h⟩
 ·rw[Ki (by omega)]at h;cases h
def Ms(l:List Pt)(t v:Int):BZ l t v=if Dk l t then l.set (AZ l t) (t,v) else l.take (AZ l t)++(t,v):: l.drop (AZ l t):=by
 rw[Ru];show _++_::(if Dk l t then _ else _)=_;by_cases h:Dk l t=true
 ·obtain⟨d,_⟩:=MB h;rw[Am h,Am h,List.set_eq_take_append_cons_drop,Am d]
 ·rw[Ad h,Ad h]
def Mr{l:List Pt}{t v:Int}(h:l.length<1099511627775):(BZ l t v).length<1099511627776:=by
 have:(BZ l t v).length<=l.length+1:=by
  rw[Ms];split
  ·simp
  ·simp;omega
 omega
def PE(w:World)(y z:Nat)(cs:Array Value)(T:Nat)(hT:T≠70)(L:List Pt)(lv:Value)(t v:Int)(h:ES w y z cs T L lv)(aH:L.length<1099511627775):
 Ac 102 #[.pointer (some (A8 y z)),.agg #[A0 t,A0 v]] w (Ak (.tuple #[]) λw'=>∃lv',F7 w w' y z cs T lv (BZ L t v) lv'):=by
 have H:=A1 h;obtain⟨J,cap,rfl,h1,h2,h3,h4,h5⟩:=AR h.AU;unfold maxLen at h2;have aW:=A1 h3;have aI:=Ms L t v;have aK:=G2 L t;obtain⟨i,aA⟩:∃i,AZ L t=i:=⟨_,rfl⟩;obtain⟨hs,aD⟩:∃hs,Dk L t=hs:=⟨_,rfl⟩;have aZ:Hid (hs=true->i<L.length):=λe=>by
  obtain⟨q,_⟩:=MB (aD.trans e);rw[aA]at q;exact q
 have aV:Hid (∀W,A2 A7 w W->Ac 116 #[.pointer (some (A8 y z)),A0 t] W (Ak (.tuple #[A0 i,.bool hs]) λw'=>A2 A7 W w')):=λW V=>
  (Ik W y z L _ t (H.o.Aj V).bp).mono (by rintro e w'⟨rfl,h⟩;rw[aA,aD];exact⟨rfl,h⟩)
 rw[aA,aD]at aI;rw[aA]at aK;have aN:=A1 aI;have aQ:=Bw w (.cells #[A0 t,A0 v] 70);have aY:=A1 aQ;have hbl:=CD h.Ae;have aP:L.length<1099511627776:=h.En;have iz:=C3 i;have aJ:Hid (∀W,A2 A7 (w.aC #[A0 t,A0 v] 70) W->A2 A7 w W/\W.heap[w.heap.size]?=some (.cells #[A0 t,A0 v] 70 (0,0))/\ES W y z cs T L (.slice J L.length cap)):=λW V=>by
  have h1:A2 A7 w W:=((A2.C _ w).ae _).tr V;exact⟨h1,(V.Ao _ (by simp) (λh=>h)).trans aY.o,H.o.Aj h1⟩
 cases hs with
 | true=>
  have aM:=aZ.o rfl;obtain⟨g,rfl⟩:=aW.o (by omega);have i1:(i:Int)<(L.length:Int):=by omega
  have aF:Hid (∀W n,A2 A7 (w.aC #[A0 t,A0 v] 70) W->F7 w (((W.drewN n).sC g (i*2) (A0 t)).sC g (i*2+1) (A0 v)) y z cs T (AH g L.length cap) (BZ L t v) (AH g L.length cap)):=by
   intro W n V;obtain⟨O,k2,d⟩:=aJ.o W V;have s1:=((Aq d.AU (w':=W.drewN n) λ_ _=>rfl).stored (i*2) (A0 t)).1;have s2:=(s1.stored (i*2+1) (A0 v)).1;have e:=PI L i (t,v) aM;simp only at e;rw[e]at s2;obtain⟨ce,aL⟩:=BA d.AU (g:=g) rfl;(have Y:y≠g:=λe=>by subst e;rw[d.Ae]at aL;cases aL;exact hT rfl);have I:BZ L t v=L.set i (t,v):=aN.o;have aB:cs.setIfInBounds z (AH g L.length cap)=cs:=by
    obtain⟨aE,he⟩:=Ku.1 H.o.BJ;apply TG;intro k;by_cases hk:z=k
    ·subst hk;simp[aE,he]
    ·rw[NS hk]
   refine⟨⟨?_,by rw[aB];exact H.o.BJ,?_,JF H.o.DZ t v,Mr aH⟩,?_,λg hg=>.inl hg⟩
   ·rw[aB,EV _ _ _ _ Y,EV _ _ _ _ Y];exact d.Ae
   ·rw[I];unfold CR;rw[Kf];exact s2
   ·exact(((O.aU n).U (S':=λk=>k=y\/(AH g L.length cap).oB k) (λ_ _ h=>h.elim)).ak (b:=g) (.inr rfl) (i*2) _).ak (b:=g) (.inr rfl) (i*2+1) _
  go_enter func102,ntmps102
  go_wp2_with (fail);refine(aV.o _ ((A2.C _ w).ae _)).mono ?_;rintro e U⟨rfl,O⟩;have aO:=A1 O;obtain⟨k2,d,k4⟩:=aJ.o U O;have c0:=k4.bp.CK;have p0:U.cell? (A8 w.heap.size 0)=some (A0 t):=by simp[World.cell?,d]
  have p1:U.cell? (A8 w.heap.size 1)=some (A0 v):=by simp[World.cell?,d]
  obtain⟨o0,o1⟩:=k4.AU.bh i aM;have z0:=Fm k4.AU (g:=g) rfl (i*2);have z1:=Fm k4.AU (g:=g) rfl (i*2+1);go_wp2;refine Kw 7 (by kernel_rfl) (by kernel_rfl) ?_;simp only[N4,Ei,Eh,Dh,Da]
  repeat still_step
  refine Kz ?_;go_wp2;refine MV (results_none rfl _ _ _) rfl ?_;exact⟨rfl,_,aF.o U 1 aO.o⟩
 | false=>
  have aU:Hid (∀W,A2 A7 (w.aC #[A0 t,A0 v] 70) W->Ac 139 #[.slice J L.length cap,A0 i,AH W.heap.size 1 1] (W.aC #[A0 t,A0 v] 70) λe w'=>∃lv',e=.returned lv'/\FA (W.aC #[A0 t,A0 v] 70) w' (.slice J L.length cap) (L.take i++(t,v):: L.drop i) lv'):=λW V=>by
   obtain⟨O,k2,d⟩:=aJ.o W V;exact Rh _ J cap L i W.heap.size t v (Aq d.AU λg hg=>DD _ _ _ (Av d.AU hg)) aK aP (Bw W _) (λe=>by have:=Av d.AU e;omega)
  have aF:Hid (∀W E lv',A2 A7 (w.aC #[A0 t,A0 v] 70) W->FA (W.aC #[A0 t,A0 v] 70) E (.slice J L.length cap) (L.take i++(t,v):: L.drop i) lv'->
   (E.cell? (A8 y z)=some (.slice J L.length cap)/\E.cell? (A8 w.heap.size 0)=some (A0 t)/\E.cell? (A8 w.heap.size 1)=some (A0 v))/\E.frozen? (A8 y z)=false/\F7 w (E.sC y z lv') y z cs T (.slice J L.length cap) (BZ L t v) lv'/\∃a c,lv'=.slice a (L.length+1) c):=by
   intro W E lv' V hI;obtain⟨O,k2,d⟩:=aJ.o W V;have aR:(Value.slice J L.length cap).ownBlock≠some y:=λe=>by
    obtain⟨c,hh⟩:=BA d.AU e;rw[d.Ae]at hh;cases hh;exact hT rfl
   have aS:(Value.slice J L.length cap).ownBlock≠some w.heap.size:=λe=>by
    have:=Av H.o.AU e;omega
   have Z:E.heap[y]?=some (.cells cs T (0,0)):=(hI.Aj.Ao y (by have:=CD d.Ae;simp;omega) aR).trans ((DD _ _ _ (CD d.Ae)).trans d.Ae);have aG:E.heap[w.heap.size]?=some (.cells #[A0 t,A0 v] 70 (0,0)):=(hI.Aj.Ao _ (by have:=CD k2;simp;omega) aS).trans ((DD _ _ _ (CD k2)).trans k2);(have aT:(L.take i++(t,v):: L.drop i).length=L.length+1:=by simp;omega);(have I:BZ L t v=L.take i++(t,v):: L.drop i:=by have:=aN.o;simpa using this);refine⟨⟨by simp[World.cell?,Z,H.o.BJ],by simp[World.cell?,aG],by simp[World.cell?,aG]⟩,by simp[World.frozen?,Z],⟨⟨Ca Z,?_,?_,JF H.o.DZ t v,Mr aH⟩,?_,?_⟩,?_⟩
   ·have aE:z<cs.size:=(Ku.1 H.o.BJ).1;simp[aE]
   ·rw[I];refine Aq hI.AU λg hg=>?_;have Y:g≠y:=λe=>by
     obtain⟨c,hh⟩:=BA hI.AU hg;subst e;rw[Z]at hh;cases hh;exact hT rfl
    exact EV _ _ _ _ (λe=>Y (by simpa using e))
   ·have c1:A2 (λk=>k=y\/(Value.slice J L.length cap).oB k) w E:=((O.ae (.cells #[A0 t,A0 v] 70)).U (λ_ _ h=>h.elim)).As hI.Aj (λx hx _=>.inr hx);exact c1.ak (.inl rfl) z _
   ·intro g hg;rcases hI.AA g hg with h|h
    ·exact .inl h
    ·right;have:=O.Af;simp at h;omega
   ·obtain⟨a,c,e,_⟩:=AR hI.AU;rw[aT]at e;exact⟨a,c,e⟩
  go_enter func102,ntmps102
  go_wp2_with (fail);refine(aV.o _ ((A2.C _ w).ae _)).mono ?_;rintro e U⟨rfl,O⟩;have aO:=A1 O;obtain⟨k2,d,k4⟩:=aJ.o U O;have c0:=k4.bp.CK;have p0:U.cell? (A8 w.heap.size 0)=some (A0 t):=by simp[World.cell?,d]
  have p1:U.cell? (A8 w.heap.size 1)=some (A0 v):=by simp[World.cell?,d]
  go_wp2;refine EJ (λw'=>w'.cell? (A8 y z)=some (.slice J L.length cap)/\w'.cell? (A8 w.heap.size 0)=some (A0 t)/\w'.cell? (A8 w.heap.size 1)=some (A0 v)) 9
   (Bj [0,1,2,3,4,5,6,7,8] [7,8]) (by kernel_rfl) (by kernel_rfl) (λ_ _ _ _ _ h=>h) ⟨c0,p0,p1⟩ ?_
  iterate 7 (refine DW (v:=?_) rfl (by rfl) ?_ ?_;rotate_left;(· (intro w' hS;(try dsimp only at hS);go_simp;try with_reducible rfl));(try simp only[An]))
  refine Em rfl (by rfl) (λK hK=>?_);go_simp;refine hK _ _ ?_ (λhS=>?_)
  ·simp[World.cell?_alloc_some,c0,p0,p1]
  (try simp only[An])
  refine Em rfl (by rfl) (λK hK=>?_);go_simp;refine(aU.o U.drew aO.o.I).mono ?_;rintro e E⟨lv',rfl,hI⟩;obtain⟨f1,f2,f3,a3,d3,rfl⟩:=aF.o U.drew E lv' aO.o.I hI;have aX:=A1 f3;refine hK _ _ f1 (λhS=>?_);obtain⟨f1,-,-⟩:=f1
  (try simp only[An])
  refine Bd ?_;simp only[Dh,Da];go_wp2;go_end0;exact⟨rfl,_,aX.o⟩
end
end Go.Proofs.YtodcnkbblippnaaGreatDoor
