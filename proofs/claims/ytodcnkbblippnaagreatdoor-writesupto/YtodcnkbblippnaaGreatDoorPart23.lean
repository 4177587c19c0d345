/- Part 23 of a proof: walks of the program. -/
import Derived.Test.YtodcnkbblippnaaGreatDoorPart22
namespace Go.Proofs.YtodcnkbblippnaaGreatDoor
set_option maxRecDepth 100000
set_option maxHeartbeats 32000000
set_option linter.defProp false
open Go.Proofs.Tryz
section
open Go.RowKit
attribute [local go_sem ↓] Go.wp_at_zero Go.wp_at_succ
section
variable {w w':World} {H wb sb ab b t B:Nat} {n:WN} {life win A7:Int} {ro:Bool} {L:Nat->List Pt} {A:Ar} {P:PD} {FT:Nat->Prop} {puts:List Pu} {ls:List (Value×Int)} {Ad:Nat}
def L0(t H wb sb ab b Ad:Nat)(life win A7:Int)(L:Nat->List Pt)(w':World)(n:WN)(puts:List Pu)(ls:List (Value×Int)):Prop:=
 ∃d z h,h.D.n.AA=DU n.AA/\((∃ro s2,LW w' H wb {n with AF:=((s2:Nat):Int),CG:=ro} b life (KS sb ab b life win A7 ro L z h) d puts ls/\St (t+1) z h puts s2 (AT A7 life) ro)\/
  (LW w' H wb {n with CG:=true,sv:=.pointer none} b life (KD b h) d puts ls/\Ex (t+1) h puts Ad (AT A7 life) n.fell))
def Pe(f:Nat)(H B sb ab b:Nat)(life win A7:Int)(ro:Bool)(L:Nat->List Pt)(A:Ar)(P:PD)(I:Int)(z:Bool)(O:Ar)(E:PD):Prop:=
 ∀h d,KS sb ab b life win A7 ro L A P h d->(∀k,d k->k<h.heap.size)->Lets B h->(∀k,d k->H<=k)->Calls Tryz.prog f #[.pointer (some ⟨sb,0,none⟩)] h λe w'=>e=.returned (.int .i64 I)/\As h d w' (KS sb ab b life win A7 z L O E)
def Pd(t:Nat)(I:Int)(life _win A7:Int)(ro:Bool)(A:Ar)(P:PD)(puts:List Pu)(Ad:Nat)(h:Int)(z:Bool)(E:Ar)(d:PD):Prop:=
 (ro=true/\z=true/\h=4/\E=A/\d=P/\St t A P puts Ad (AT A7 life) true)\/
 (ro=false/\z=decide (h≠0)/\PB d (t+1)/\HU P h d/\DI (CC (t+1)) d puts Ad (AT A7 life)/\Reads (CC (t+1)) d puts (AT A7 life)/\(h=0->St (t+1) E d puts puts.length (AT A7 life) false)/\d.D.n.AA=P.D.n.AA/\(I=6->h≠6))
def Xr(w:World)(kd k tt v cd:Int)(tv:Value)(aB:Bool)(aH:Ar)(W:PD)(h:LW w H wb n b life (KS sb ab b life win A7 ro L A P) FT puts ls)(a0:n.sv=(A6 sb))(aL:n.CG=ro)(bO:n.CA=A7)(bS:n.win=win)(b8:n.AF=(Ad:Int))(hp:PB P t)(bU:puts.length<=t)(bT:Ad<=puts.length)(b9:∀p∈puts,Bq p)(X:kd=6/\Pe 31 H B sb ab b life win A7 ro L A P cd aB aH W)(a5:Pd t kd life win A7 ro A P puts Ad cd aB aH W)(bZ:t+1<=200000)(aJ:P.D.n.AA=DU n.AA)(hl:1<=life/\life<=4611686018427387904)(hw:1<=win/\win<=4611686018427387904)(hc:Ax A7)(hL:Lets B w):
 Ag 57 #[A6 wb,.agg #[A0 kd,A0 k,A0 tt,A0 v,tv]] w (Aj (.bool true) λw'=>A4 (Up H) w w'/\
  L0 t H wb sb ab b Ad life win A7 L w' n puts ls):=by
 have ht:t<=200000:=by omega
 have bB:=A1 a5;have aP:=A1 b9;have aN:=A1 (And.intro bU bT);have bH:=A1 hL;have HLC:=A1 (And.intro hl (And.intro hw hc));have a3:=A1 (And.intro bO (And.intro bS (And.intro b8 h.FU)));have aY:Hid (0<=P.D.n.Bj/\P.D.n.Bj<=200000):=by have:=hp.refQ;exact⟨by omega,by omega⟩
 have aR:Hid (0<=P.D.n.fulls/\P.D.n.fulls<=200000):=by have:=hp.J4;exact⟨by omega,by omega⟩
 have HT:=A1 (And.intro ht bZ);have hA:=(A4.C Aa w).ah (BF kd k tt v tv);obtain⟨o0,-,-,-⟩:=Gk w kd k tt v tv;have h1:=h.al hA;have b2:=h.lt;have aO:w.heap.size<(w.alloc (BF kd k tt v tv)).heap.size:=by simp
 generalize bM:w.alloc (BF kd k tt v tv)=w1 at hA o0 h1 aO;unfold BF at bM;obtain⟨z,aW⟩:∃z,P.D.n.Bj=z:=⟨_,rfl⟩;obtain⟨fu,aS⟩:∃fu,P.D.n.fulls=fu:=⟨_,rfl⟩;obtain⟨cn,bG⟩:∃cn,P.D.n.B8=cn:=⟨_,rfl⟩;obtain⟨rm,aG⟩:∃rm,P.D.n.AA=rm:=⟨_,rfl⟩;obtain⟨us,aF⟩:∃us,AX P.F P.D.A5=us:=⟨_,rfl⟩;have b6:=OC hp ht;have cN:=A1 h1.dH;rw[aW,aS]at cN;rw[aG,aF]at b6;rw[aG]at aJ;have aD:=A1 aW;have bD:=A1 aS;have a6:=A1 bG;have a4:=A1 aG;have aV:Hid (AX P.F P.D.A5=us/\us<=4611686018427387904):=⟨aF,by rw[<-aF];exact hp.bB ht⟩;have cQ:=A1 hA;have bJ:=A1 h1;have bY:=A1 b2;have a2:=A1 h.Af.lt;rw[aW]at aY;rw[aS]at aR;obtain⟨rfl,X⟩:=X
 all_goals
  have aX:=A1 X
  go_enter func57,ntmps57
  go_wp2_with (fail);refine cN.m ?_;rintro e E⟨rfl,k2⟩;have v4:A8 (E.alloc (.cells #[A0 z,A0 fu] 85)) wb 4 (A6 b):=((bJ.o.al (k2.ah _)).Af.c4).trans (by rw[bJ.o.D8]);go_wp2_with (fail);have k3:A4 Aa w1 (E.alloc (.cells #[A0 z,A0 fu] 85)):=k2.ah _;have a7:=Bf E (.cells #[A0 z,A0 fu] 85);have m0:A8 (E.alloc (.cells #[A0 z,A0 fu] 85)) E.heap.size 0 (A0 z):=CP a7;have m1:A8 (E.alloc (.cells #[A0 z,A0 fu] 85)) E.heap.size 1 (A0 fu):=CP a7;have cB:Hid (w1.heap.size<=E.heap.size/\w.heap.size<w1.heap.size):=⟨k2.Al,aO⟩;generalize E.alloc (.cells #[A0 z,A0 fu] 85)=w3 at k3 m0 m1 v4 ⊢;have bE:=A1 (bJ.o.al k3);have cP:Hid (A4 Aa w w3):=cQ.o.tr k3;have p0:=k3.ag o0;have bC:=A1 bE.o.B8;rw[a6.o]at bC;refine bC.m ?_;rintro e w4⟨rfl,rfl⟩;have c2:=bE.o.Af.c2;have cS:=A1 (NA w3.drew aJ);have cT:Hid (Ag 90 #[A6 b] w3.drew (Aj (A0 us) λw'=>A4 Aa w3.drew w')):=by
   have:=(bE.o.al (A4.C Aa w3).aa).bB (by rw[aV.o.1];exact aV.o.2);rw[aV.o.1]at this;exact this
  go_wp2;refine Bt (λw'=>A8 w' wb 2 (A0 n.AA)/\A8 w' wb 4 (A6 b)) 12
   (Bb [0,1,2,3,4,6,7,8,9,5,10,11] [5,10]) ⟨c2,v4⟩ ?_
  iterate 9 (refine B1 ?_;(try simp only[Ak]))
  refine Bd λK hK=>?_;go_simp;refine cS.m ?_;rintro e w4⟨rfl,rfl⟩;refine hK _ _ ⟨c2,v4⟩ (λhS=>?_)
  (try simp only[Ak])
  refine Bd λK hK=>?_;go_simp;refine cT.m ?_;rintro e w4⟨rfl,k4⟩;have Y:A4 Aa w3 w4:=⟨k4.os,k4.DC,k4.DE,k4.Al,k4.Am⟩;refine hK _ _ ⟨Y.ag c2,Y.ag v4⟩ (λhS=>?_);have cC:=A1 (bE.o.al Y);have cD:Hid (A4 Aa w w4):=cP.o.tr Y;have q0:=Y.ag p0;have n0:=Y.ag m0;have n1:=Y.ag m1
  (try simp only[Ak])
  (refine B1 ?_;(try simp only[Ak]))
  refine B4 ?_;simp only[Bm,Bl];have c5:A8 w4 wb 5 n.sv:=cC.o.Af.c5;rw[a0]at c5
  have SV:Hid (∀f,Pe f H B sb ab b life win A7 ro L A P cd aB aH W->Ag f #[A6 sb] w4 (Aj (A0 cd) λw'=>A4 (Up H) w4 w'/\(∀o u,A8 w4 w.heap.size o u->A8 w' w.heap.size o u)/\
   w'.cell? (A9 E.heap.size 0)=some (A0 z)/\A8 w' E.heap.size 1 (A0 fu)/\∃bR,LW w' H wb n b life (KS sb ab b life win A7 aB L aH W) bR puts ls)):=λf hf=>by
   have aK:=cC.o;have h4:=cD.o;refine(hf w4 FT aK.Eg aK.lt (bH.o.aM h4) aK.Fy).mono ?_;rintro e w'⟨rfl,hS⟩;obtain⟨r1,b4,r2⟩:=aK.cG (KS.DR sb ab b life win A7 aB L aH W) hS;(have nb:∀x,w.heap.size<=x->¬FT x:=λx hx hy=>by have:=bY.o x hy;omega);(have hm:w.heap.size<=E.heap.size:=by have:=cB.o;omega);exact⟨rfl,r1,λo u hu=>Dg (w:=w4) hS.1 hu (nb _ (Ao _)),Dg (w:=w4) hS.1 n0 (nb _ hm),Dg (w:=w4) hS.1 n1 (nb _ hm),b4,r2⟩
  have bN:=A1 (SV.o _ aX.o);go_wp2_with (fail);refine bN.m ?_;rintro e w5⟨rfl,k5,cA,m5,m6,aM,hR⟩;have q5:=cA 0 _ q0;have cM:Hid (A4 (Up H) w w5):=(cD.o.ad (S':=Up H) λ_ _ h=>h.elim).tr k5;have a1:=A1 hR;have d9:=hR.Af.c9;have d4:=hR.Af.c4;rw[hR.D8]at d4;obtain⟨ap,cp,bQ,hp1,hp2,-⟩:=a1.o.Dw.BP;rcases bB.o with⟨rfl,rfl,rfl,rfl,rfl,hS⟩|⟨rfl,rfl,z1,z2,z3,z4,z5,z6,z7⟩
  ·rw[aL]at d9;have bC:=A1 a1.o.B8;rw[a6.o]at bC;have d:Hid (A4 (Up H) w w5/\L0 t H wb sb ab b Ad life win A7 L w5 n puts ls):=by
    refine⟨cM.o,aM,_,_,a4.o.trans aJ,.inl ⟨true,Ad,?_,hS.ad (Fa t)⟩⟩;(have en:({n with AF:=(Ad:Int),CG:=true}:WN)=n:=by rw[<-a3.o.2.2.1,<-aL]);rw[en];exact a1.o
   go_wp2_with (go_at_call 49;refine bC.m ?_;rintro e w6⟨rfl,rfl⟩);go_ret;exact⟨rfl,d.o⟩
  rw[aL]at d9;have bV:Hid (W.D.n.Bh=true->Ex (t+1) W puts Ad (AT A7 life) n.fell):=λhd=>⟨z1,z3,aP.o,JY aN.o.1,aN.o.2,.inl hd⟩
  have bI:Hid (W.D.n.Bh=false->St (t+1) aH W puts Ad (AT A7 life) true):=λhd=>St.cN z1 z3 z4 aP.o (JY aN.o.1) aN.o.2 hd;have b1:=A1 z2;have bP:=A1 z5;have aQ:Hid (W.D.n.AA=DU n.AA):=z6.trans (a4.o.trans aJ);have cJ:=A1 z7;have ZP:=A1 z1;have HPI:=A1 aP.o;have cL:=A1 (a1.o.al (A4.C Aa w5).aa).Bj;generalize aE:W.D.n.Bj=rf2 at cL;have bK:(cd=0/\rf2=z)\/((cd=5\/cd=6)/\rf2=z+1):=by
   rcases z2 with⟨q1,q2,-⟩|⟨q1,q2,-⟩|⟨q1,q2,-⟩
   ·exact .inl ⟨q1,by rw[<-aE,q2,aD.o]⟩
   ·exact .inr ⟨.inl q1,by rw[<-aE,q2,aD.o]⟩
   ·exact .inr ⟨.inr q1,by rw[<-aE,q2,aD.o]⟩
  go_wp2;refine Bt (λw'=>A8 w' wb 4 (A6 b)/\A8 w' E.heap.size 0 (A0 z)) 7
   (Bb [0,1,2,3,5,6,4] [4]) ⟨d4,m5⟩ ?_
  iterate 6 (refine B1 ?_;(try simp only[Ak]))
  refine Bd λK hK=>?_;go_simp;refine cL.m ?_;rintro e w9⟨rfl,rfl⟩;refine hK _ _ ⟨d4,m5⟩ (λhS=>?_)
  (try simp only[Ak])
  refine B4 ?_;simp only[Bm,Bl];have aA:=A1 (a1.o.al (A4.C Aa w5).aa);have bW:Hid (A4 (Up H) w w5.drew):=cM.o.aa;have t0:w5.drew.cell? (A9 w.heap.size 0)=_:=q5;have t5:w5.drew.cell? (A9 E.heap.size 0)=_:=m5;have t6:w5.drew.cell? (A9 E.heap.size 1)=_:=m6;generalize w5.drew=w6 at aA bW t0 t5 t6 ⊢;have bL:wb≠w.heap.size:=by have:=aA.o.Af;intro e;have:=a2.o;omega
  rcases bK with⟨rfl,rfl⟩|⟨aI,rfl⟩
  ·have z7:=aA.o.Af.fz 7;have s7:=aA.o.Af.c7;have d6:A8 w6 wb 6 n.pv:=aA.o.Af.c6;rw[bQ]at d6;obtain⟨k7,h7⟩:=aA.o.CT (n':={n with AF:=((puts.length:Nat):Int)}) 7 (A0 puts.length) (aA.o.Af.s7 _) rfl rfl rfl rfl;have cH:Hid (A4 (Up H) w (w6.setCell (A9 wb 7) (A0 puts.length))):=bW.o.tr k7;have cF:=A1 h7;have u0:=(Gy w6 (A9 wb 7) (A9 w.heap.size 0) (A0 puts.length) (by simp;try omega)).trans t0;have a9:Hid (∀w',A4 Aa (w6.setCell (A9 wb 7) (A0 puts.length)) w'->A4 (Up H) w w'/\L0 t H wb sb ab b Ad life win A7 L w' n puts ls):=λw' a8=>by
    refine⟨cH.o.Au a8 λ_ h _=>h.elim,aM,aH,W,aQ.o,.inl ⟨false,puts.length,?_,bP.o rfl⟩⟩;(have en:({n with AF:=((puts.length:Nat):Int),CG:=false}:WN) = {n with AF:=((puts.length:Nat):Int)}:=by rw[<-aL]);rw[en];exact cF.o.al a8
   go_wp2_with (fail);generalize (w6.setCell (A9 wb 7) (A0 puts.length))=w7 at cF cH u0 a9 ⊢;go_ret;exact⟨rfl,a9.o w7 (A4.C _ _)⟩
  ·have hgt:z<z+1:=Int.lt_succ z;have z9:=aA.o.Af.fz 9;have s9:A8 w6 wb 9 (.bool n.CG):=aA.o.Af.c9;have cO:Hid (∀w',LW w' H wb {n with CG:=true} b life (KS sb ab b life win A7 (decide (cd≠0)) L aH W) aM puts ls->Ag 51 #[A6 wb,A0 cd,.agg #[A0 z,A0 fu]] w' λe b3=>e=.returned (.bool true)/\A4 Aa w' b3):=λw' hw=>by
    rcases b1.o with⟨q1,-⟩|⟨q1,q2,q3⟩|⟨q1,q2,q3,-⟩
    ·exact absurd q1 (by rcases aI with h|h<;>(rw[h];decide))
    ·subst q1;exact U0 w' z fu hw (by rw[q2,aD.o]) (by rw[q3,bD.o]) aY.o aR.o
    ·subst q1;exact TY w' z fu hw (by rw[q2,aD.o]) (by rw[q3,bD.o]) aY.o aR.o
   obtain⟨k9,h9⟩:=aA.o.CT (n':={n with CG:=true}) 9 (.bool true) (aA.o.Af.s9 true) rfl rfl rfl rfl;(have mb8:wb≠E.heap.size:=by have h1:=cB.o;have h2:=a2.o;omega);have u0:=(Gy w6 (A9 wb 9) (A9 w.heap.size 0) (.bool true) (by simp;try omega)).trans t0;have u5:=(Gy w6 (A9 wb 9) (A9 E.heap.size 0) (.bool true) (by simp;try omega)).trans t5;have u6:=(Gy w6 (A9 wb 9) (A9 E.heap.size 1) (.bool true) (by simp;try omega)).trans t6;have cE:=A1 h9;have cI:Hid (A4 (Up H) w (w6.setCell (A9 wb 9) (.bool true))):=bW.o.tr k9;have cG:=A1 (cO.o _ h9);have bF:=A1 bL;(have b0:Hid (decide (cd≠0)=true):=by rcases aI with h|h<;>(rw[h];rfl));go_wp2_with (fail);generalize (w6.setCell (A9 wb 9) (.bool true))=w9 at cE cI cG u0 u5 u6 ⊢;refine cG.m ?_;rintro e O⟨rfl,aU⟩;have I:=A1 (cE.o.al aU);have bA:Hid (A4 (Up H) w O):=cI.o.Au aU λ_ h _=>h.elim;have v0:=aU.ag u0;have e4:A8 O wb 4 (A6 b):=I.o.Af.c4.trans (Eu some I.o.D8);have aZ:=A1 I.o.Bh;have y5:=I.o.Af.fz 5;have s5:A8 O wb 5 n.sv:=I.o.Af.c5;rw[a0]at s5;cases hdd:W.D.n.Bh with
   | true=>
    rw[hdd]at aZ;have d:Hid (A4 (Up H) w (O.setCell (A9 wb 5) (.pointer none))/\L0 t H wb sb ab b Ad life win A7 L (O.setCell (A9 wb 5) (.pointer none)) n puts ls):=by
     obtain⟨b5,b7⟩:=I.o.CT (n':={n with CG:=true,sv:=.pointer none}) 5 (.pointer none) (I.o.Af.s5 _) rfl rfl rfl rfl;obtain⟨Ft,bX⟩:=b7.bI;exact⟨bA.o.tr b5,Ft,aH,W,aQ.o,.inr ⟨bX,bV.o hdd⟩⟩
    have x0:=(Gy O (A9 wb 5) (A9 w.heap.size 0) (.pointer none) (by have:=bF.o;simp;try omega)).trans v0;rcases aI with rfl|rfl
    ·go_wp2_with (go_at_call 36;refine aZ.m ?_;rintro e aT⟨rfl,rfl⟩);go_ret;exact⟨rfl,d.o⟩
    ·first
      | (exfalso;have h:=cJ.o;simp at h;done)
      | (go_wp2_with (go_at_call 36;refine aZ.m ?_;rintro e aT⟨rfl,rfl⟩)
         go_ret
         exact⟨rfl,d.o⟩)
   | false=>
    rw[hdd]at aZ;have d:Hid (A4 (Up H) w O/\L0 t H wb sb ab b Ad life win A7 L O n puts ls):=by
     refine⟨bA.o,aM,aH,W,aQ.o,.inl ⟨true,Ad,?_,bI.o hdd⟩⟩;(have en:({n with AF:=(Ad:Int),CG:=true}:WN) = {n with CG:=true}:=by rw[<-a3.o.2.2.1]);rw[en];have:=I.o
     rwa [b0.o]at this
    rcases aI with rfl|rfl
    ·go_wp2_with (go_at_call 36;refine aZ.m ?_;rintro e aT⟨rfl,rfl⟩);go_ret;exact⟨rfl,d.o⟩
    ·first
      | (exfalso;have h:=cJ.o;simp at h;done)
      | (go_wp2_with (go_at_call 36;refine aZ.m ?_;rintro e aT⟨rfl,rfl⟩)
         go_ret
         exact⟨rfl,d.o⟩)
end
end
section
open Go.RowKit
section
variable {w w':World} {H wb t N B:Nat} {life:Int} {n:WN} {puts:List Pu} {ls:List (Value×Int)}
def Xq(w:World)(z a b3 c3:Int)(tv:Value)(Y:z=6)(h:Dp t H wb life w n puts ls)(aD:n.sv≠.pointer none)(hL:Lets B w)(aE:B<=H)(ht:t+1<=200000):
 Ag 57 #[A6 wb,.agg #[A0 z,A0 a,A0 b3,A0 c3,tv]] w (Aj (.bool true) λw'=>A4 (Up H) w w'/\LI w' H wb life (t+1)):=by
 obtain⟨h1,h2,h3,h4,b,Ad,P,FT,h5,h6,h7⟩:=h;rcases h7 with⟨sb,ab,ro,L,A,g1,g2,g3,g4,g5,g6,O,g8,g9⟩|⟨g1,-⟩
 ·have key:∀cd d W E,(z=6/\Pe 31 H B sb ab b life n.win n.CA ro L A P cd d W E)->
   Pd t z life n.win n.CA ro A P puts Ad cd d W E->
   Ag 57 #[A6 wb,.agg #[A0 z,A0 a,A0 b3,A0 c3,tv]] w (Aj (.bool true) λw'=>A4 (Up H) w w'/\LI w' H wb life (t+1)):=λcd d W E k1 k2=>by
   refine(Xr w z a b3 c3 cd tv d W E g6 g1 g2 rfl rfl h5 O.pb O.Bo O.le O.pu k1 k2 ht h6 g4 g5 h1 hL).mono ?_;rintro e w'⟨rfl,hc,X,W,E,I,q2⟩;rcases q2 with⟨aA,s2,r1,r2⟩|⟨r1,r2⟩
   ·exact⟨rfl,hc,{n with AF:=((s2:Nat):Int),CG:=aA},puts,ls,h1,h2,h3.ai hc,by omega,b,s2,E,X,rfl,I,.inl ⟨sb,ab,aA,L,W,g1,rfl,g3,g4,g5,r1,r2,g8,λk hk=>JY (g9 k hk)⟩⟩
   ·exact⟨rfl,hc,{n with CG:=true,sv:=.pointer none},puts,ls,h1,h2,h3.ai hc,by omega,b,Ad,E,X,h5,I,.inr ⟨rfl,r1,r2⟩⟩
  cases ro with
  | true=>
   have aB:Pd t z life n.win n.CA true A P puts Ad 4 true A P:=.inl ⟨rfl,rfl,rfl,rfl,rfl,O⟩;subst Y;exact key 4 true A P (⟨rfl,λw4 aF I _ _ _=>W6 w4 I⟩) aB
  | false=>
   subst Y
   ·obtain⟨a1,a2,a3,a4,a5,a6⟩:=O.ae ht;exact key _ _ _ _ (⟨rfl,λw4 aF I q2 q3 q4=>W2 w4 I q2 q3 λk hk=>AQ aE (q4 k hk)⟩) (.inr ⟨rfl,rfl,a1,a2,a3,a4,a5,XA A P,λ_=>a6⟩)
 ·exact absurd g1 aD
end
end
section
open Go.RowKit
attribute [local go_sem ↓] Go.wp_at_zero Go.wp_at_succ
section
variable {w w':World} {H wb t N B:Nat} {life:Int} {n:WN} {puts:List Pu} {ls:List (Value×Int)}
def LI.cO{d:Nat}(h:LI w H wb life t)(z:t<=d):LI w H wb life d:=by
 obtain⟨n,puts,ls,h⟩:=h;exact⟨n,puts,ls,h.ad z⟩
def WY(aE:GY N)(hN:N<=200000)(w:World)(E a z c3:Int)(tv:Value)(aD:E=1\/E=9\/E=10\/E=11)(h:Dp t H wb life w n puts ls)(hE:Env B w)(aG:B<=H)(ht:t+3<=200000)(aI:t+2<=N)(ha:Ax a)(hb:Ax z)(Y:Eo H w tv):
 Ag 18 #[A6 wb,.agg #[A0 E,A0 a,A0 z,A0 c3,tv]] w (Aj (.bool true) λw'=>A4 (Up H) w w'/\LI w' H wb life (t+1)):=by
 have hA:=(A4.C Aa w).ah (BF E a z c3 tv);obtain⟨o0,o1,o2,o3⟩:=Gk w E a z c3 tv;have o4:A8 (w.alloc (BF E a z c3 tv)) w.heap.size 4 tv:=by
  have aA:=Bf w (BF E a z c3 tv);unfold BF at aA ⊢;simp only[A8,World.cell?,aA];rfl
 have h1:=h.al hA;have X:=hE.aM hA;have d:=Y.ai (hA.ad (S':=Up H) λ_ _ h=>h.elim);generalize aF:w.alloc (BF E a z c3 tv)=w1 at hA o0 o1 o2 o3 o4 h1 X d;unfold BF at aF;have aB:Hid (A4 (Up H) w w1):=hA.ad λ_ _ h=>h.elim;obtain⟨ts,⟨ta,tc,rfl,-⟩,-⟩:=Y;rcases aD with rfl|rfl|rfl|rfl
 ·have aJ:=A1 (NZ aE hN w1 a z h1 ht aI X aG hb)
  go_enter func18,ntmps18
  go_wp2_with (fail);refine aJ.m ?_;rintro e w2⟨rfl,W,O⟩;have I:=A1 W;have L:=A1 O;go_wp2;go_ret;exact⟨rfl,aB.o.tr I.o,L.o.cO (Fa t)⟩
 ·have CR:=A1 (A1X w1 a (.slice ta ts.length tc) h1 (by omega) ha d)
  go_enter func18,ntmps18
  go_wp2_with (fail);refine CR.m ?_;rintro e w2⟨rfl,W,O⟩;have I:=A1 W;have L:=A1 O;go_wp2;go_ret;exact⟨rfl,aB.o.tr I.o,L.o.cO (Fa t)⟩
 ·have aH:=A1 (A1M w1 10 a z c3 (.slice ta ts.length tc) h1 (by decide) ha hb d)
  go_enter func18,ntmps18
  go_wp2_with (fail);refine aH.m ?_;rintro e w2⟨rfl,W,O⟩;have I:=A1 W;have L:=A1 O;go_wp2;go_ret;exact⟨rfl,aB.o.tr I.o,L.o.cO (Fa t)⟩
 ·have aH:=A1 (A1r w1 a z c3 (.slice ta ts.length tc) h1 ha hb)
  go_enter func18,ntmps18
  go_wp2_with (fail);refine aH.m ?_;rintro e w2⟨rfl,W,O⟩;have I:=A1 W;have L:=A1 O;go_wp2;go_ret;exact⟨rfl,aB.o.tr I.o,L.o.cO (Fa t)⟩
def WV(w:World)(z a E c3:Int)(tv:Value)(I:z=6)(h:Dp t H wb life w n puts ls)(hL:Lets B w)(aB:B<=H)(ht:t+1<=200000):
 Ag 18 #[A6 wb,.agg #[A0 z,A0 a,A0 E,A0 c3,tv]] w (Aj (.bool true) λw'=>A4 (Up H) w w'/\LI w' H wb life (t+1)):=by
 have Y:=(A4.C Aa w).ah (BF z a E c3 tv);obtain⟨o0,o1,o2,o3⟩:=Gk w z a E c3 tv;have o4:A8 (w.alloc (BF z a E c3 tv)) w.heap.size 4 tv:=by
  have O:=Bf w (BF z a E c3 tv);unfold BF at O ⊢;simp only[A8,World.cell?,O];rfl
 have W:=h.al Y;have X:=hL.aM Y;generalize aA:w.alloc (BF z a E c3 tv)=w1 at Y o0 o1 o2 o3 o4 W X;unfold BF at aA;have aE:Hid (A4 (Up H) w w1):=Y.ad λ_ _ h=>h.elim;have aD:Hid (LI w1 H wb life (t+1)):=⟨n,puts,ls,W.ad (Fa t)⟩;have aG:Hid (n.sv≠.pointer none->_):=λd=>Xq w1 z a E c3 tv I W d X aB ht;have c5:A8 w1 wb 5 n.sv:=W.Af.c5;have d:n.sv=.pointer none\/∃sb,n.sv=(A6 sb):=by
  obtain⟨-,-,-,-,b,Ad,P,FT,-,-,h7⟩:=W;rcases h7 with⟨sb,ab,ro,L,A,g1,-⟩|⟨g1,-⟩
  ·exact .inr ⟨sb,g1⟩
  ·exact .inl g1
 rcases d with d|⟨sb,d⟩
 ·rw[d]at c5;subst I
  all_goals
   go_enter func18,ntmps18
   go_wp2;go_ret;exact⟨rfl,aE.o,aD.o⟩
 ·have SB:=A1 (aG.o (by rw[d];simp));rw[d]at c5;subst I
  all_goals
   go_enter func18,ntmps18
   go_wp2_with (fail);refine SB.m ?_;rintro e w2⟨rfl,k2,hI⟩;have aF:=A1 k2;have aD:=A1 hI;go_wp2;go_ret;exact⟨rfl,aE.o.tr aF.o,aD.o⟩
def WX(W:GY N)(hN:N<=200000)(w:World)(d a E c3:Int)(tv:Value)(h78:d≠7/\d≠8)(h:LI w H wb life t)(X:Env B w)(z:B<=H)(ht:t+3<=200000)(Y:t+2<=N)(ha:Ax a)(hb:Ax E)(aA:Ax c3)(O:Eo H w tv):
 Calls Tryz.prog 18 #[.pointer (some ⟨wb,0,none⟩),.agg #[.int .i64 d,.int .i64 a,.int .i64 E,.int .i64 c3,tv]] w λe w'=>e=.returned (.bool true)/\A4 (Up H) w w'/\LI w' H wb life (t+1):=by
 obtain⟨n,puts,ls,L⟩:=h;by_cases k1:d=1\/d=9\/d=10\/d=11
 ·exact WY W hN w d a E c3 tv k1 L X z ht Y ha hb O
 ·by_cases k2:d=6
  ·exact WV w d a E c3 tv k2 L X.1 z (by omega)
  ·(have hk:d∉[1,6,7,8,9,10,11]:=by simp;omega);by_cases I:n.sv=.pointer none
   ·refine(WW w d a E c3 tv L.Af I hk).mono ?_;rintro e w'⟨rfl,q1⟩;exact⟨rfl,q1.ad λ_ _ h=>h.elim,n,puts,ls,(L.al q1).ad (Fa t)⟩
   ·exact WU w d a E c3 tv L I X.1 z (by omega) ha hb aA hk
end
def VI:piece (Es (λ_=>[]) (AT 0 5) 1 2 3 1) (max 0 (AT 0 5)) 9=[(2,3)]:=by decide +kernel
def VJ{d:Nat->List Pt}(h:H4 (Es (λ_=>[]) (AT 0 5) 1 2 3) d (AT (Dv 0 7) 5)):piece (d 1) (max 0 (AT (Dv 0 7) 5)) 9=[]:=by
 rcases h 1 (by omega) with e|e
 ·rw[e];decide +kernel
 ·rw[e];decide +kernel
def Zb{B:Nat}(w:World)(room:Int)(b:Nat)(Ft:Nat->Prop)(h:Bu w b (D2 room) Ft)(d:∀k,Ft k->k<w.heap.size)(hr:0<=room/\room<=9223372036854775807)(O:Env B w)(life win A7:Int)(hl:1<=life/\life<=4611686018427387904)(hw:1<=win/\win<=4611686018427387904)(hc:Ax A7):
 Ag 22 #[A6 b,.agg #[A0 life,A0 win],A0 A7] w λe w'=>
  ∃ab z,e=.returned (.tuple #[A6 z,A0 0])/\w.heap.size<=z/\As w Ft w' (λw' L=>SF w' z ab b 0 life win A7 false (λ_=>[]) ⟨⟨1,[]⟩,⟨[],0,0,none⟩,0,[]⟩ (D2 room) L):=by
 refine(RU w life win A7 hl hw hc d (P:=D2 room) (Ft:=Ft) (b:=b) (λA Y h=>by rw[Oy]at h;cases h;simp) λX E=>?_).mono ?_
 ·refine U3 X (AU.au h d E) (λk I=>Bi (d k I) E.Al) (Tc hr) ⟨by omega,by omega,by omega⟩ (by omega) (O.1.aM E) (O.2.1.aM E) (λnm hm=>by cases hm) (λix W=>?_) (λfirst=>?_)
  ·rw[Ou (Oz room AK)]at W;cases W;simp
  ·rw[show (D2 room).Az=[] from rfl];simp[BO,PD.puts,PD.bh]
 ·rintro e w' (⟨n,h1,-⟩|⟨A,Y,ab,z,h1,rfl,h2,h3⟩)
  ·rw[Oy]at h1;cases h1
  ·rw[Oy]at h1;cases h1;exact⟨ab,z,rfl,h2,h3⟩
def Yt{B W ab b:Nat}{FT:Nat->Prop}{life win A7:Int}(w:World)(room:Int)(p:Pu)(h:SF w W ab b 0 life win A7 false (λ_=>[]) ⟨⟨1,[]⟩,⟨[],0,0,none⟩,0,[]⟩ (D2 room) FT)(I:∀k,FT k->k<w.heap.size)(hr:1000<=room/\room<=9223372036854775807)(X:Bq p)(Y:Lets B w)(O:∀k,FT k->B<=k)(hl:1<=life/\life<=4611686018427387904)(hc:Ax A7):
 Calls Tryz.prog 23 #[.pointer (some ⟨W,0,none⟩),.int .i64 p.1,.int .i64 p.2.1,.int .i64 p.2.2] w λe w'=>e=.returned (.int .i64 0)/\
  ∃A' P',As w FT w' (λw' z=>SF w' W ab b 0 life win A7 false (Es (λ_=>[]) (AT A7 life) p.1.toNat p.2.1 p.2.2) A' P' z):=by
 have d:Cm (D2 room) (3+0+3) 33:=A0Y (by omega) (by omega);obtain⟨a1,a2,-,-,-⟩:=(Lay.fG (Oz room)).af (N:=3) (by simpa using d) (λ_=>rfl) p X (by omega);have E:CJ (0+1)/\Ax (0+1)/\Ax 0:=⟨Hq (by omega) (by omega),by constructor<;>omega,by constructor<;>omega⟩;refine(Rs w p h I X (λ_=>E) (by simp) Y O (Tc (by omega)) ⟨by omega,by omega,by omega⟩ (λ_ _=>by simp) hl hc).mono ?_;rintro e w'⟨rfl,L⟩;rw[a2]at L ⊢;rw[a1]at L;exact⟨rfl,_,_,L⟩
def A2L{B:Nat}(w:World)(hE:Env B w):
 Ag 15 #[] w (Aj (.bool true) λw'=>A4 Aa w w'):=by
 have a3:Hid (Ag 21 #[A0 100000] w λe w'=>∃b,e=.returned (A6 b)/\Bu w' b (D2 100000) (One w.heap.size)/\A4 Aa w w'/\w'.heap.size=w.heap.size+1):=by
  refine(S7 (F:=λ_=>([],0)) 100000 w).mono ?_;rintro e w'⟨rfl,h1,h2,h3⟩;exact⟨_,rfl,h1,h2,h3⟩
 have aK:=A1 hE
 go_enter func15,ntmps15
 go_wp2_with (fail);refine a3.m ?_;rintro e w1⟨b,rfl,aP,k1,hz1⟩;have a4:=A1 (Zb w1 100000 b (One w.heap.size) aP (λk d=>by cases d;omega) (by omega) (aK.o.aM k1) 5 5 0 (by omega) (by omega) (by constructor<;>omega));have aU:=A1 k1;go_wp2_with (fail);refine a4.m ?_;rintro e w2⟨ab,sb,rfl,hsb,k2,X,hV,aD,aG⟩;have aN:Hid (A4 Aa w w2):=aU.o.bQ k2 λk d=>by cases d;omega
 have aL:Hid (∀k,X k->w.heap.size<=k):=λk d=>(aG k d).elim (λh=>by cases h;exact Ao _) λh=>AQ aU.o.Al h
 have a1:Hid (Ag 23 #[A6 sb,A0 1,A0 2,A0 3] w2 (Aj (A0 0) λw'=>∃A' P',As w2 X w' (λw' aI=>SF w' sb ab b 0 5 5 0 false (Es (λ_=>[]) (AT 0 5) 1 2 3) A' P' aI))):=
  Yt w2 100000 (1,2,3) hV aD (by omega) ⟨by simp,(show Ax 2 by constructor<;>omega),(show Ax 3 by constructor<;>omega)⟩ (aK.o.aM aN.o).1 (λk d=>AQ aK.o.1.1 (aL.o k d)) (by omega) (by constructor<;>omega)
 go_wp2_with (fail);refine a1.m ?_;rintro e O⟨rfl,A3,P3,k3,W,aO,aA,aE⟩;have aW:Hid (A4 Aa w O):=aN.o.bQ k3 aL.o;have aM:Hid (∀k,W k->w.heap.size<=k):=λk d=>(aE k d).elim (aL.o k) (λh=>AQ aN.o.Al h)
 obtain⟨lv3,F03,I,E⟩:=aO;have a0:Hid (Ag 37 #[A6 sb,A0 1,A0 0,A0 9] O λe w'=>∃v,e=.returned (.tuple #[v,A0 0])/\Cb w' v [(2,3)]/\A4 Aa O w'/\∀g,v.oB g->O.heap.size<=g):=by
  have:=LP O 1 0 9 I.Af I.DT (by omega) (by omega) (by constructor<;>omega);rw[VI]at this;exact this
 have aF:=A1 I;have aJ:=A1 E;have aR:=A1 aA;go_wp2_with (fail);refine a0.m ?_;rintro e w4⟨v,rfl,hv,k4,aB⟩;obtain⟨ad,cap,rfl,-,-,hg,-,-⟩:=Bk hv;obtain⟨g,rfl⟩:=hg (by decide);have aQ:=A1 (aF.o.al k4);have aX:Hid (A4 Aa w w4):=aW.o.tr k4;have aV:=A1 hv;have aY:Hid (¬W g):=λz=>by have:=aR.o g z;have:=aB g rfl;omega
 have aZ:=A1 (Qc w4 7 aQ.o.Af aQ.o.DT (by omega) (by omega) (by constructor<;>omega));go_wp2_with (fail);refine aZ.m ?_;rintro e L⟨rfl,lv5,L5,hS,hF⟩;obtain⟨k5,FT6,⟨lv6,F06,aT,-⟩,-,s6⟩:=aQ.o.cI aJ.o hS;have a5:Hid (A4 Aa w L):=aX.o.bQ k5 aM.o;have Y:Hid (Cb L (AB g 1 cap) [(2,3)]):=Aw aV.o λx z=>k5.Am x (Ay aV.o z) (by simp[Value.ownBlock]at z;subst z;exact aY.o);have a6:Hid (Ag 37 #[A6 sb,A0 1,A0 0,A0 9] L λe w'=>∃v,e=.returned (.tuple #[v,A0 0])/\Cb w' v []/\A4 Aa L w'/\∀g,v.oB g->L.heap.size<=g):=by
  have aS:Ax (Dv 0 7):=Lx (by constructor<;>omega) (by omega) (by omega);have:=LP L 1 0 9 aT.Af aT.DT (by omega) (by omega) aS;rw[VJ hF]at this;exact this
 go_wp2_with (fail);refine a6.m ?_;rintro e w6⟨v,rfl,hv,k6,aB⟩;obtain⟨ad,cap2,rfl,-⟩:=Bk hv;have aH:Cb w6 (AB g 1 cap) [(2,3)]:=Aw Y.o λx z=>k6.Am x (Ay Y.o z) (λh=>h);obtain⟨t0,t1⟩:=aH.bn 0 (by decide);have a2:Hid (A4 Aa w w6):=a5.o.tr k6;simp only[K3]at t0 t1;go_wp2;go_ret;exact⟨rfl,a2.o⟩
section
variable {w w':World} {H wb t t' B:Nat} {life:Int}
def LI.bF(h:LI w H wb life t)(z:t<=t'):LI w H wb life t':=by
 obtain⟨n,puts,E,d⟩:=h;exact⟨n,puts,E,d.ad z⟩
end
def JV(w:World)(g o n:Nat):Prop:=∀i,i<n->∃d a b c tv,Ax a/\Ax b/\Ax c/\w.cell? ⟨g,o+i*5,none⟩=some (.int .i64 d)/\w.cell? ⟨g,o+i*5+1,none⟩=some (.int .i64 a)/\w.cell? ⟨g,o+i*5+2,none⟩=some (.int .i64 b)/\w.cell? ⟨g,o+i*5+3,none⟩=some (.int .i64 c)/\w.cell? ⟨g,o+i*5+4,none⟩=some tv/\Eo w.heap.size w tv
section
variable {w:World} {H wb b B:Nat} {life:Int}
def Z4{d room A7 count:Int}(L:GY 200000)(w:World)(h:AP w wb ⟨life,d,room,A7,.pointer (some ⟨b,0,none⟩),.pointer none,.slice none 0 0,0,false,false,A7,d,0,.slice none 0 0,.slice none 0 0,count⟩)(X:AU w b ⟨[],[],[],Hb (DU room)⟩ (λ_=>([],0)) (One b))(hbw:b<wb)(z:H<=b)(hE:Env B w)(O:B<=H)(hc:Ax A7)(hr:Ax room):
 Calls Tryz.prog 17 #[.pointer (some ⟨wb,0,none⟩),.int .i64 d,.int .i64 0] w λe w'=>e=.returned (.bool true)/\A4 (Up H) w w'/\LI w' H wb life 0:=by
 have hwl:=h.lt;have E : -4611686018427387904<=DU room/\DU room<=9223372036854775807:=by
  obtain⟨r1,r2⟩:=hr;unfold DU;split<;>omega
 have W:LW w H wb ⟨life,d,room,A7,.pointer (some ⟨b,0,none⟩),.pointer none,.slice none 0 0,0,false,false,A7,d,0,.slice none 0 0,.slice none 0 0,count⟩ b life (KD b (D2 (DU room))) (One b) [] []:=by
  refine⟨h,rfl,rfl,KD.DR _ _,X,λk I=>by cases I;omega,Cp _ _ _ _,Cp _ _ _ _,?_,?_,λk I=>by cases I;exact z⟩
  ·rintro k (rfl|e|e) hx
   ·cases hx;omega
   ·simp[Value.ownBlock]at e
   ·simp[Value.ownBlock]at e
  ·rintro k (rfl|e|e)
   ·omega
   ·simp[Value.ownBlock]at e
   ·simp[Value.ownBlock]at e
 have Y:Dp 0 H wb life w ⟨life,d,room,A7,.pointer (some ⟨b,0,none⟩),.pointer none,.slice none 0 0,0,false,false,A7,d,0,.slice none 0 0,.slice none 0 0,count⟩ [] []:=
  ⟨hc,by constructor<;>simp,Eo.bN _ _ ⟨none,0,rfl,by simp,λj hj=>by simp at hj⟩,by simp,b,0,D2 (DU room),One b,rfl,rfl,.inr ⟨rfl,W,A0Z E⟩⟩
 exact NZ L (by decide) w d 0 Y (by omega) (by omega) hE O (by constructor<;>simp)
end
def LX{B g o n gw:Nat}(aA:GY 200000)(w:World)(life d room A7:Int)(cap:Nat)(W:List Int)(aQ:W≠[])(aX:W.length<1000)(aF:∀k:Int,k∉W->k≠7/\k≠8)(hS:JV w g o n)(hn:n<=180000)(hg:n≠0->g<w.heap.size)(hW:K5 w gw W)(hL:Env B w)(hc:Ax A7)(hr:Ax room)(sv:Value)(aH:sv=.slice (some (A9 g o)) n cap\/(n=0/\∃x,sv=.slice x 0 cap)):
 Ag 14 #[.agg #[A0 life,A0 d,A0 room,A0 A7],sv,AB gw W.length W.length] w (Aj (.bool true) λw'=>A4 (Up w.heap.size) w w'):=by
 have aY:=A1 aF;clear aF;have Y:∃a,sv=.slice a n cap/\(n≠0->a=some (A9 g o)):=by
  rcases aH with rfl|⟨rfl,x,rfl⟩
  ·exact⟨_,rfl,λ_=>rfl⟩
  ·exact⟨x,rfl,λh=>absurd rfl h⟩
 obtain⟨ad,rfl,aM⟩:=Y;have hA:=(A4.C Aa w).ah (.cells #[A0 life,A0 d,A0 room,A0 A7] 23);have L:=Bf w (.cells #[A0 life,A0 d,A0 room,A0 A7] 23);generalize hw0:(w.alloc (.cells #[A0 life,A0 d,A0 room,A0 A7] 23))=w0 at hA L;have q0:A8 w0 w.heap.size 0 (A0 life):=CP L;have q1:A8 w0 w.heap.size 1 (A0 d):=CP L;have q2:A8 w0 w.heap.size 2 (A0 room):=CP L;have q3:A8 w0 w.heap.size 3 (A0 A7):=CP L;have a4:=A1 hA;have a6:=A1 hS;have a8:=A1 hg;have aV:=A1 aM;have aZ:=A1 hW;have X:=A1 hL;have a9:=A1 (A2L w0 (hL.aM hA))
 go_enter func14,ntmps14
 go_wp2_with (fail);refine a9.m ?_;rintro e w1⟨rfl,k1⟩;have a1:Hid (A4 Aa w w1):=a4.o.tr k1;have p0:=k1.ag q0;have p1:=k1.ag q1;have p2:=k1.ag q2;have p3:=k1.ag q3;have a5:=A1 (A2H (F:=λ_=>([],0)) w1 life d room A7 0);go_wp2_with (fail);refine a5.m ?_;rintro e w2⟨wb,b,rfl,aN,aO,aK,aP,k2⟩;have a0:Hid (A4 Aa w w2):=a1.o.tr k2;have r1:=k2.ag p1;have aR:=A1 (Z4 (H:=w.heap.size) aA w2 aN aO aP (AQ a1.o.Al aK) (X.o.aM a0.o) X.o.1.1 hc hr);go_wp2_with (fail);refine aR.m ?_;rintro e w3⟨rfl,k3,hI⟩;have a3:Hid (A4 (Up w.heap.size) w w3):=(a0.o.ad (S':=Up w.heap.size) λ_ _ h=>h.elim).tr k3;have a7:=A1 hI;have hnI:(n:Int)<=180000:=by omega
 go_wp2;have aI:Hid (gw<w.heap.size):=Gz w _ (aZ.o 0 (IC.2 aQ));have a2:Hid (∀w' x,A4 (Up w.heap.size) w w'->Ag 41 #[AB gw W.length W.length,A0 x] w' (Aj (.bool (decide (x∈W))) λw2=>w'=w2)):=λw' x hk=>
  A3g w' gw W x (λk aJ=>Dg hk (aZ.o k aJ) λe=>by unfold Up at e;have:=aI.o;omega) aX
 go_loopw [9,10] (λokv iv wr=>∃k:Nat,k<=n/\okv=.bool true/\iv=A0 k/\Hid (A4 (Up w.heap.size) w wr/\LI wr w.heap.size wb life k)) (λ_ iv _=>n-(intOf iv).toNat)
 case atStart=>exact⟨0,Ce _,rfl,rfl,a3.o,a7.o⟩
 case round=>
  obtain⟨k,hk,rfl,rfl,I⟩:=hrel;obtain⟨O,aG⟩:∃O,O=wr:=⟨_,rfl⟩;subst aG;have k0:=BR k;by_cases aL:k<n
  ·(have i1:(k:Int)<(n:Int):=by omega);obtain rfl:=aV.o (by omega);have hgl:=a8.o (by omega);obtain⟨kd,a,b3,c3,tv,ia,ib,ic,s0,s1,s2,s3,s4,aT⟩:=a6.o k aL;(have up:∀x u,A8 w g x u->A8 O g x u:=λx u hu=>Dg I.o.1 hu λe=>by unfold Up at e;omega);have s0:=up _ _ s0;have s1:=up _ _ s1;have s2:=up _ _ s2;have s3:=up _ _ s3;have s4:=up _ _ s4;have z:=A1 (a2.o O kd I.o.1);by_cases E:kd∈W
   ·rw[Ct E]at z;have aS:Hid (LI O w.heap.size wb life (k+1)):=I.o.2.bF (Fa k);go_wp2_with (go_at_call 41;refine z.m ?_;rintro e w5⟨rfl,rfl⟩);go_roundw
    case rel=>exact⟨k+1,by omega,rfl,by go_num,I.o.1,aS.o⟩
    case measure=>simp[intOf];omega
   ·rw[Cu E]at z;have ST:=A1 (WX aA (by decide) O kd a b3 c3 tv (aY.o kd E) I.o.2 (X.o.ai I.o.1 λx e=>by unfold Up at e;have:=X.o.1.1;omega) X.o.1.1 (by omega) (by omega) ia ib ic (aT.ai I.o.1))
    go_wp2_with (first
     | (go_at_call 41;refine z.m ?_;rintro e w5⟨rfl,rfl⟩)
     | (go_at_call 18;refine ST.m ?_;rintro e w5⟨rfl,k5,aB⟩;have aU:=A1 k5;have aW:=A1 aB))
    go_roundw
    case rel=>exact⟨k+1,by omega,rfl,by go_num,I.o.1.tr aU.o,aW.o⟩
    case measure=>simp[intOf];omega
  ·(obtain rfl:k=n:=by omega);have z:=A1 (a2.o O 1 I.o.1);obtain⟨n4,puts4,ls4,aD⟩:=I.o.2;have aR:=A1 (NZ aA (by decide) O n4.win 0 aD (by omega) (by omega) (X.o.ai I.o.1 λx e=>by unfold Up at e;have:=X.o.1.1;omega) X.o.1.1 (by constructor<;>omega));have c11:=aD.Af.ds;have aE:=A1 I.o.1;by_cases E:(1:Int)∈W
   ·rw[Ct E]at z;go_wp2_with (go_at_call 41;refine z.m ?_;rintro e w5⟨rfl,rfl⟩);go_ret;exact⟨rfl,aE.o⟩
   ·rw[Cu E]at z
    go_wp2_with (first
     | (go_at_call 41;refine z.m ?_;rintro e w5⟨rfl,rfl⟩)
     | (go_at_call 17;refine aR.m ?_;rintro e w5⟨rfl,k5,aB⟩;have aU:=A1 k5))
    go_ret;exact⟨rfl,aE.o.tr aU.o⟩
end
section
open Go.RowKit
attribute [local go_sem ↓] Cw
def B5.bw{w:World}{g n cap:Nat}{l:List Pu}(h:w.ownsRow 0 113 3 (AB g n cap) n (AZ l))(k:Nat)(d:k<l.length)(p:Pu)(L:l[k]'d=p):
 w.cell? (A9 g (k*3))=some (A0 p.1)/\A8 w g (k*3+1) (A0 p.2.1)/\A8 w g (k*3+2) (A0 p.2.2):=by
 obtain⟨z,I,E⟩:=Ia l k d;rw[L]at z I E;exact⟨BD h rfl z,BD h rfl I,BD h rfl E⟩
def OA{α:Type}(A C:List α)(x:α)(h:A.length<(A++x::C).length):(A++x::C)[A.length]'h=x:=by
 rw[FV (Ao _)];simp
def Ju{α:Type}(A C:List α)(x y:α):(A++x::C).set A.length y=A++y::C:=by
 rw[IB _ _ (Ao _)];simp
def Wp{a b c n:Nat}(hn:n<=9223372036854775807)(hbn:b+c<=n)(hab:a+c<=b)(i:Nat)(hi:i<c):
 a+i<n/\b+i<n/\IntKind.i64.wrap ((a:Int)+(i:Int))=((a+i:Nat):Int)/\IntKind.i64.wrap ((b:Int)+(i:Int))=((b+i:Nat):Int)/\wrap64 ((a:Int)+(i:Int))=((a+i:Nat):Int)/\wrap64 ((b:Int)+(i:Int))=((b+i:Nat):Int)/\((a+i:Nat):Int)<(n:Int)/\((b+i:Nat):Int)<(n:Int):=by
 refine⟨by omega,by omega,?_,?_,by unfold wrap64;omega,by unfold wrap64;omega,by omega,by omega⟩
 ·simp[IntKind.wrap,IntKind.bits,IntKind.signed];omega
 ·simp[IntKind.wrap,IntKind.bits,IntKind.signed];omega
section
variable {w w':World} {g cap n:Nat}
def Wr(w:World)(g cap n:Nat)(A X M Y Z:List Pu)(cv:Value)(aE:X.length=Y.length)(hn:n=(A++X++M++Y++Z).length)(h:w.ownsRow 0 113 3 (AB g n cap) n (AZ (A++X++M++Y++Z))):
 Ag 273 #[AB g n cap,A0 A.length,A0 ((A.length+X.length+M.length:Nat):Int),A0 X.length,cv] w (Aj (.tuple #[]) λw'=>
  w'.ownsRow 0 113 3 (AB g n cap) n (AZ (A++Y++M++X++Z))/\A4 (One g) w w'):=by
 obtain⟨a,ha⟩:∃a,A.length=a:=⟨_,rfl⟩;obtain⟨b,hb⟩:∃b,A.length+X.length+M.length=b:=⟨_,rfl⟩;obtain⟨c,hc⟩:∃c,X.length=c:=⟨_,rfl⟩;have aD:n<=cap/\cap<=9223372036854775807:=by
  obtain⟨a',c',e,h1,h2,_⟩:=Bk h;cases e;unfold maxLen at h2;omega
 obtain⟨aV,aN⟩:=aD;have aT:b+c<=n:=by rw[hn];simp only[Ba];omega
 have aS:a+c<=b:=by omega
 obtain⟨d,E⟩:∃d:Nat->List Pu,d=λi=>A++(Y.take i++X.drop i)++M++(X.take i++Y.drop i)++Z:=⟨_,rfl⟩;have aB:Hid (∀i,i<c->∃x y,(∀hk,(d i)[a+i]'hk=x)/\(∀hk,(d i)[b+i]'hk=y)/\(d i).length=n/\(∀hk,((d i).set (a+i) y)[b+i]'hk=y)/\((d i).set (a+i) y).set (b+i) x=d (i+1)):=λi hi=>by
  have I:i<X.length:=by omega
  have O:i<Y.length:=by omega
  have dx:X.drop i=X[i]'I::X.drop (i+1):=FW I;have dy:Y.drop i=Y[i]'O::Y.drop (i+1):=FW O;have tx:X.take (i+1)=X.take i++[X[i]'I]:=DL I;have ty:Y.take (i+1)=Y.take i++[Y[i]'O]:=DL O;obtain⟨x,hx⟩:∃x,X[i]'I=x:=⟨_,rfl⟩;obtain⟨y,hy⟩:∃y,Y[i]'O=y:=⟨_,rfl⟩;rw[hx]at dx tx;rw[hy]at dy ty;have e1:d i=(A++Y.take i)++x::((X.drop (i+1)++M++X.take i)++y::(Y.drop (i+1)++Z)):=by
   rw[E];dsimp only;rw[dx,dy];simp
  have e2:d (i+1)=(A++Y.take i)++y::((X.drop (i+1)++M++X.take i)++x::(Y.drop (i+1)++Z)):=by
   rw[E];dsimp only;rw[tx,ty];simp
  have l1:(A++Y.take i).length=a+i:=by simp;omega
  have e3:∀z:Pu,(A++Y.take i)++z::((X.drop (i+1)++M++X.take i)++y::(Y.drop (i+1)++Z))=((A++Y.take i)++z::(X.drop (i+1)++M++X.take i))++y::(Y.drop (i+1)++Z):=λz=>by simp
  have l2:∀z:Pu,((A++Y.take i)++z::(X.drop (i+1)++M++X.take i)).length=b+i:=λz=>by simp;omega
  have s1:(d i).set (a+i) y=((A++Y.take i)++y::(X.drop (i+1)++M++X.take i))++y::(Y.drop (i+1)++Z):=by
   rw[e1,<-l1,Ju,e3]
  refine⟨x,y,λhk=>?_,λhk=>?_,?_,λhk=>?_,?_⟩
  ·have:=OA (A++Y.take i) ((X.drop (i+1)++M++X.take i)++y::(Y.drop (i+1)++Z)) x (by simp);simp only[e1,<-l1];exact this
  ·have:=OA ((A++Y.take i)++x::(X.drop (i+1)++M++X.take i)) (Y.drop (i+1)++Z) y (by simp);simp only[e1,e3,<-l2 x];exact this
  ·rw[e1,hn];simp;omega
  ·have:=OA ((A++Y.take i)++y::(X.drop (i+1)++M++X.take i)) (Y.drop (i+1)++Z) y (by simp);simp only[s1,<-l2 y];exact this
  ·rw[s1,<-l2 y,Ju,e2];simp
 have aM:Hid (∀i,i<c->_):=Wp (AQ aV aN) aT aS;have aW:Hid (w.ownsRow 0 113 3 (AB g n cap) n (AZ (d 0))):=by
  unfold Hid;rw[E];simpa using h
 have aX:Hid (d c=A++Y++M++X++Z):=by
  unfold Hid;rw[E];dsimp only;rw[<-hc,Cc,GN,aE,Cc,GN];simp
 rw[hb,ha,hc];clear E h hn hb ha hc aE
 go_enter func273,ntmps273
 go_wp2;go_loopw [10] (λiv wr=>∃i:Nat,iv=A0 (i:Int)/\i<=c/\Hid (wr.ownsRow 0 113 3 (AB g n cap) n (AZ (d i))/\A4 (One g) w wr)) (λiv _=>c-(intOf iv).toNat)
 case atStart=>exact⟨0,by go_num,by omega,aW.o,A4.C _ _⟩
 case round=>
  obtain⟨i,rfl,hic,hI⟩:=hrel;by_cases L:i<c
  ·have hltI:(i:Int)<(c:Int):=Ff.2 L;obtain⟨aA,W,aK,aR,aO,aP,a0,a1⟩:=aM.o i L;obtain⟨i1,i2⟩:=hI.o;obtain⟨x,y,sx,sy,sl,sb,sn⟩:=aB.o i L;obtain⟨P,hP⟩:∃P,a+i=P:=⟨_,rfl⟩;obtain⟨Q,hQ⟩:∃Q,b+i=Q:=⟨_,rfl⟩;rw[hP]at sx sb sn aA aK aO a0;rw[hQ]at sy sb sn W aR aP a1;obtain⟨x1,x2,x3⟩:=B5.bw i1 P (MQ aA sl.symm) x (sx _);obtain⟨y1,y2,y3⟩:=B5.bw i1 Q (MQ W sl.symm) y (sy _);have P0:=BR P;have Q0:=BR Q;have tP:(P:Int).toNat=P:=EG P;have tQ:(Q:Int).toNat=Q:=EG Q;have aG:=B5.bq i1 P (MQ aA sl.symm) y;have aI:=B5.bq aG Q (MQ W ((Hi ..).trans sl).symm) x;rw[sn]at aI;have fz:∀o,wr.frozen? (A9 g o)=false:=λo=>Ez i1 rfl o;obtain⟨xa,xb,xc⟩:=x;obtain⟨ya,yb,yc⟩:=y;dsimp only at x1 x2 x3 y1 y2 y3 aG aI;have aU:∀o,((((wr.setCell (A9 g (P*3)) (A0 ya)).setCell (A9 g (P*3+1)) (A0 yb)).setCell (A9 g (P*3+2)) (A0 yc))).drew.frozen? (A9 g o)=false:=λo=>Ez aG rfl o;have z:=B5.bw aG Q (MQ W ((Hi ..).trans sl).symm) _ (sb _);obtain⟨z1,z2,z3⟩:=z;dsimp only at z1 z2 z3;have aL:((((wr.setCell (A9 g (P*3)) (A0 ya)).setCell (A9 g (P*3+1)) (A0 yb)).setCell (A9 g (P*3+2)) (A0 yc))).drew.cell? (A9 g (Q*3))=some (A0 ya):=z1;have aQ:((((wr.setCell (A9 g (P*3)) (A0 ya)).setCell (A9 g (P*3+1)) (A0 yb)).setCell (A9 g (P*3+2)) (A0 yc))).drew.cell? (A9 g (Q*3+1))=some (A0 yb):=z2;have aJ:((((wr.setCell (A9 g (P*3)) (A0 ya)).setCell (A9 g (P*3+1)) (A0 yb)).setCell (A9 g (P*3+2)) (A0 yc))).drew.cell? (A9 g (Q*3+2))=some (A0 yc):=z3;have aZ:Hid (A4 (One g) w (((((((wr.setCell (A9 g (P*3)) (A0 ya)).setCell (A9 g (P*3+1)) (A0 yb)).setCell (A9 g (P*3+2)) (A0 yc)).drew.setCell (A9 g (Q*3)) (A0 xa)).setCell (A9 g (Q*3+1)) (A0 xb)).setCell (A9 g (Q*3+2)) (A0 xc)))):=
    (((((i2.aj (b:=g) rfl _ _).aj (b:=g) rfl _ _).aj (b:=g) rfl _ _).aa.aj (b:=g) rfl _ _).aj (b:=g) rfl _ _).aj (b:=g) rfl _ _
   have aH:Hid ((((((((wr.setCell (A9 g (P*3)) (A0 ya)).setCell (A9 g (P*3+1)) (A0 yb)).setCell (A9 g (P*3+2)) (A0 yc)).drew.setCell (A9 g (Q*3)) (A0 xa)).setCell (A9 g (Q*3+1)) (A0 xb)).setCell (A9 g (Q*3+2)) (A0 xc))).ownsRow 0 113 3 (AB g n cap) n (AZ (d (i+1)))):=aI;have aF:=A1 L;clear aG aI z1 z2 z3 i1 i2 sx sy sl sb sn hI aB aW aX hP hQ L aA W;go_wp2;refine Lr 21 (λw'=>A8 w' g (P*3) (A0 xa)/\A8 w' g (P*3+1) (A0 xb)/\A8 w' g (P*3+2) (A0 xc)/\A8 w' g (Q*3) (A0 ya)/\A8 w' g (Q*3+1) (A0 yb)/\A8 w' g (Q*3+2) (A0 yc)) 22
    [(0,1),(1,1),(2,1),(3,1),(8,1),(9,1),(10,1),(11,1),(12,1),(13,1),(14,2),(15,2),(16,2),(17,2),(18,2),(19,1),(20,1),(4,2),(5,2),(6,2),(7,2),(21,0)] ⟨x1,x2,x3,y1,y2,y3⟩ ?_
   iterate 10 (refine I6 ?_;(try simp only[Ak]))
   iterate 5 (refine I7 ?_;(try simp only[Ak]))
   iterate 2 (refine I6 ?_;(try simp only[Ak]))
   iterate 4 (refine I7 ?_;(try simp only[Ak]))
   refine Lt λK hK=>?_;go_simp;refine hK _ _ ?_
   (try simp only[Ak])
   refine Ls ?_;simp only[Bm,Bl];generalize (((wr.setCell (A9 g (P*3)) (A0 ya)).setCell (A9 g (P*3+1)) (A0 yb)).setCell (A9 g (P*3+2)) (A0 yc)).drew=w7 at aU aZ aH aL aQ aJ ⊢;go_wp2;go_roundw
   case rel=>exact⟨i+1,by go_num,aF.o,Aw aH.o λ_ _=>rfl,aZ.o⟩
   case measure=>
    have h:=aF.o;simp[intOf];omega
  ·(obtain rfl:i=c:=by omega);have aY:=A1 hI.o;(have hno:¬((i:Int)<(i:Int)):=by omega);go_wp2;go_end0;exact⟨rfl,by have h:=aY.o.1;rw[aX.o]at h;simpa using h,aY.o.2⟩
end
def FH(n m:Nat)(T d:List Pu)(i j:Nat):Prop:=∃L U V R:List Pu,d=L++U++V++R/\T=L++V++U++R/\U.length=i/\V.length=j/\L.length+i=m/\0<i/\0<j/\d.length=n
def L1(n:Nat)(d h:List Pu)(p q c:Nat):Prop:=∃A X M Y Z:List Pu,d=A++X++M++Y++Z/\h=A++Y++M++X++Z/\X.length=Y.length/\A.length=p/\A.length+X.length+M.length=q/\X.length=c/\n=d.length
def FH.gt{n m i j:Nat}{T E:List Pu}(h:FH n m T E i j)(hij:j<i):∃d,L1 n E d (m-i) m j/\FH n m T d (i-j) j:=by
 obtain⟨L,U,V,R,X,e2,h1,h2,h3,h4,Y,W⟩:=h;have O:U=U.take j++U.drop j:=(E0 j U).symm;obtain⟨U1,z⟩:∃U1,U.take j=U1:=⟨_,rfl⟩;obtain⟨U2,I⟩:∃U2,U.drop j=U2:=⟨_,rfl⟩;have l1:U1.length=j:=by rw[<-z,BI];omega
 have l2:U2.length=i-j:=by rw[<-I,Cl];omega
 rw[z,I]at O;subst O;refine⟨L++V++U2++U1++R,⟨L,U1,U2,V,R,by rw[X];simp,rfl,by omega,by omega,by omega,by omega,W.symm⟩,L++V,U2,U1,R,rfl,by rw[e2];simp,l2,l1,by simp;omega,by omega,Y,?_⟩;rw[<-W,X];simp;omega
def FH.lt{n m i j:Nat}{T E:List Pu}(h:FH n m T E i j)(hij:i<j):∃z,L1 n E z (m-i) (m+j-i) i/\FH n m T z i (j-i):=by
 obtain⟨L,U,V,R,W,e2,h1,h2,h3,Y,h5,O⟩:=h;have X:V=V.take (j-i)++V.drop (j-i):=(E0 _ V).symm;obtain⟨V1,d⟩:∃V1,V.take (j-i)=V1:=⟨_,rfl⟩;obtain⟨V2,I⟩:∃V2,V.drop (j-i)=V2:=⟨_,rfl⟩;have l1:V1.length=j-i:=by rw[<-d,BI];omega
 have l2:V2.length=i:=by rw[<-I,Cl];omega
 rw[d,I]at X;subst X;refine⟨L++V2++V1++U++R,⟨L,U,V1,V2,R,by rw[W];simp,rfl,by omega,by omega,by omega,by omega,O.symm⟩,L,V2,V1,U++R,by simp,by rw[e2];simp,l2,l1,by omega,Y,by omega,?_⟩;rw[<-O,W];simp;omega
def FH.eq{n m i:Nat}{T d:List Pu}(h:FH n m T d i i):L1 n d T (m-i) m i:=by
 obtain⟨L,U,V,R,E,O,I,h2,h3,h4,h5,z⟩:=h;exact⟨L,U,[],V,R,by rw[E];simp,by rw[O];simp,by omega,by omega,by simp;omega,I,z.symm⟩
def FH.bZ{n m i j:Nat}{T z:List Pu}(hn:n<=9223372036854775807)(h:FH n m T z i j):
 i<=n/\j<=n/\IntKind.i64.wrap ((m:Int)-(i:Int))=((m-i:Nat):Int)/\wrap64 ((m:Int)-(i:Int))=((m-i:Nat):Int)/\IntKind.i64.wrap ((m:Int)+(j:Int))=((m+j:Nat):Int)/\wrap64 ((m:Int)+(j:Int))=((m+j:Nat):Int)/\
 IntKind.i64.wrap (((m+j:Nat):Int)-(i:Int))=((m+j-i:Nat):Int)/\wrap64 (((m+j:Nat):Int)-(i:Int))=((m+j-i:Nat):Int)/\
 (j<i->IntKind.i64.wrap ((i:Int)-(j:Int))=((i-j:Nat):Int)/\wrap64 ((i:Int)-(j:Int))=((i-j:Nat):Int))/\(i<j->IntKind.i64.wrap ((j:Int)-(i:Int))=((j-i:Nat):Int)/\wrap64 ((j:Int)-(i:Int))=((j-i:Nat):Int)):=by
 obtain⟨L,U,V,R,X,e2,h1,h2,h3,h4,h5,I⟩:=h;have hl:L.length+i+j<=n:=by rw[<-I,X];simp;omega
 clear X e2 I h1 h2;have W:∀x:Int,-9223372036854775808<=x->x<=9223372036854775807->IntKind.i64.wrap x=x/\wrap64 x=x:=λx a b=>by
  refine⟨?_,by unfold wrap64;omega⟩;simp[IntKind.wrap,IntKind.bits,IntKind.signed];omega
 have d:∀(x:Int) (k:Nat),x=(k:Int)->k<=9223372036854775807->IntKind.i64.wrap x=(k:Int)/\wrap64 x=(k:Int):=λx k e hk=>by
  subst e;exact W _ (by omega) (by omega)
 have E:=d ((m:Int)-i) (m-i) (by omega) (by omega);have Y:=d ((m:Int)+j) (m+j) (by omega) (by omega);have O:=d (((m+j:Nat):Int)-i) (m+j-i) (by omega) (by omega);exact⟨by omega,by omega,E.1,E.2,Y.1,Y.2,O.1,O.2,λh=>d _ _ (by omega) (by omega),λh=>d _ _ (by omega) (by omega)⟩
section
variable {w w':World} {g cap n:Nat}
def L1.b9{d z:List Pu}{p q c:Nat}(h:L1 n d z p q c)(E:Value)(I:w.ownsRow 0 113 3 (AB g n cap) n (AZ d)):
 Ag 273 #[AB g n cap,A0 (p:Int),A0 (q:Int),A0 (c:Int),E] w (Aj (.tuple #[]) λw'=>
  w'.ownsRow 0 113 3 (AB g n cap) n (AZ z)/\A4 (One g) w w'):=by
 obtain⟨A,X,M,Y,Z,rfl,rfl,e,rfl,rfl,rfl,L⟩:=h;exact Wr w g cap n A X M Y Z E e L I
def Xv(w:World)(g cap n:Nat)(A U V Z:List Pu)(cv:Value)(hu:U≠[])(hv:V≠[])(hn:n=(A++U++V++Z).length)(h:w.ownsRow 0 113 3 (AB g n cap) n (AZ (A++U++V++Z))):
 Ag 263 #[AB g n cap,A0 A.length,A0 ((A.length+U.length:Nat):Int),A0 ((A.length+U.length+V.length:Nat):Int),cv] w (Aj (.tuple #[]) λw'=>
  w'.ownsRow 0 113 3 (AB g n cap) n (AZ (A++V++U++Z))/\A4 (One g) w w'):=by
 have W:n<=9223372036854775807:=by
  obtain⟨a',c',e,h1,h2,_⟩:=Bk h;cases e;unfold maxLen at h2;omega
 have aP:=IC.2 hu;have aU:=IC.2 hv;have aG:A.length+U.length+V.length<=n:=by rw[hn];simp;omega
 obtain⟨T,hT⟩:∃T,A++V++U++Z=T:=⟨_,rfl⟩;obtain⟨C,hC⟩:∃C,A++U++V++Z=C:=⟨_,rfl⟩;obtain⟨a,ha⟩:∃a,A.length=a:=⟨_,rfl⟩;obtain⟨m,hm⟩:∃m,A.length+U.length=m:=⟨_,rfl⟩;obtain⟨b,hb⟩:∃b,A.length+U.length+V.length=b:=⟨_,rfl⟩;obtain⟨i0,aL⟩:∃i0,U.length=i0:=⟨_,rfl⟩;obtain⟨j0,aH⟩:∃j0,V.length=j0:=⟨_,rfl⟩;have aM:Hid (FH n m T C i0 j0):=⟨A,U,V,Z,hC.symm,hT.symm,aL,aH,by omega,by omega,by omega,by rw[hn,hC]⟩;have ei:IntKind.i64.wrap ((m:Int)-(a:Int))=(i0:Int)/\wrap64 ((m:Int)-(a:Int))=(i0:Int):=by
  refine⟨?_,by unfold wrap64;omega⟩;simp[IntKind.wrap,IntKind.bits,IntKind.signed];omega
 have ej:IntKind.i64.wrap ((b:Int)-(m:Int))=(j0:Int)/\wrap64 ((b:Int)-(m:Int))=(j0:Int):=by
  refine⟨?_,by unfold wrap64;omega⟩;simp[IntKind.wrap,IntKind.bits,IntKind.signed];omega
 obtain⟨aA,aF⟩:=ei;obtain⟨aD,aE⟩:=ej;have L:Hid (∀z i j,FH n m T z i j->_):=λz i j h=>FH.bZ W h;rw[hC]at h;rw[hT,hb,hm,ha];have aN:=A1 h;clear h hn hu hv aP aU aG hT hC ha hm hb aL aH W
 go_enter func263,ntmps263
 go_wp2;go_loopw [10,11] (λiv jv wr=>∃(i j:Nat) (z:List Pu),iv=A0 (i:Int)/\jv=A0 (j:Int)/\Hid (FH n m T z i j/\wr.ownsRow 0 113 3 (AB g n cap) n (AZ z)/\A4 (One g) w wr)) (λiv jv _=>(intOf iv).toNat+(intOf jv).toNat)
 case atStart=>exact⟨i0,j0,C,by go_num,by go_num,aM.o,aN.o,A4.C _ _⟩
 case round=>
  obtain⟨i,j,z,rfl,rfl,hI⟩:=hrel;obtain⟨O,i2,i3⟩:=hI.o;obtain⟨z1,z2,z3,z4,z5,z6,z7,z8,z9,I⟩:=L.o _ _ _ O;obtain⟨p,hp⟩:∃p,m-i=p:=⟨_,rfl⟩;obtain⟨q,hq⟩:∃q,m+j-i=q:=⟨_,rfl⟩;obtain⟨mj,E⟩:∃mj,m+j=mj:=⟨_,rfl⟩;rw[hp]at z3 z4;rw[hq,E]at z7 z8;rw[E]at z5 z6;have aQ:=A1 i3;by_cases he:i=j
  ·subst he;have S:=A1 ((FH.eq O).b9 cv i2);rw[hp]at S;clear hI O i2 i3 z1 z2 z5 z6 z7 z8 z9 I hp hq E L aM aN aA aF aD aE;go_wp2_with (go_at_call 273;refine(S.o).mono ?_;rintro e w5⟨rfl,Y,r2⟩;have R:=A1 (And.intro Y (aQ.o.tr r2));clear Y r2);go_end0;exact⟨rfl,R.o⟩
  ·have hne:((i:Int)=(j:Int))=False:=Mn λh=>he (Int.ofNat_inj.1 h);by_cases X:j<i
   ·obtain⟨aB,aK,aI⟩:=FH.gt O X;have S:=A1 (aK.b9 cv i2);rw[hp]at S;obtain⟨y1,y2⟩:=z9 X;have aO:(j:Int)<(i:Int):=Ff.2 X;have aJ:=A1 aI;have aT:=A1 X;obtain⟨d,hd⟩:∃d,i-j=d:=⟨_,rfl⟩;rw[hd]at y1 y2 aJ;have aS:=A1 hd;(have aR:Hid (0<j):=by obtain⟨_,_,_,_,_,_,_,_,_,_,h5,_⟩:=O;exact h5);clear hI O i2 i3 z1 z2 z5 z6 z7 z8 z9 I hp hq E L aM aN aA aF aD aE aK aI X hd;go_wp2_with (go_at_call 273;refine(S.o).mono ?_;rintro e w5⟨rfl,Y,r2⟩;have R:=A1 (And.intro Y (aQ.o.tr r2));clear Y r2);go_roundw
    case rel=>exact⟨d,j,aB,by go_num,by go_num,aJ.o,R.o⟩
    case measure=>
     have h1:=aT.o;have h2:=aS.o;have h3:=aR.o;simp[intOf];omega
   ·have hl:i<j:=Nat.lt_of_le_of_ne (IA X) he;obtain⟨aB,aK,aI⟩:=FH.lt O hl;have S:=A1 (aK.b9 cv i2);rw[hp,hq]at S;obtain⟨y1,y2⟩:=I hl;(have aO:((j:Int)<(i:Int))=False:=by simp;exact IA X);have aJ:=A1 aI;have aT:=A1 hl;obtain⟨d,hd⟩:∃d,j-i=d:=⟨_,rfl⟩;rw[hd]at y1 y2 aJ;have aS:=A1 hd;(have aR:Hid (0<i):=by obtain⟨_,_,_,_,_,_,_,_,_,h5,_,_⟩:=O;exact h5);clear hI O i2 i3 z1 z2 z9 I hp hq E L aM aN aA aF aD aE aK aI X hl hd;go_wp2_with (go_at_call 273;refine(S.o).mono ?_;rintro e w5⟨rfl,Y,r2⟩;have R:=A1 (And.intro Y (aQ.o.tr r2));clear Y r2);go_roundw
    case rel=>exact⟨i,d,aB,by go_num,by go_num,aJ.o,R.o⟩
    case measure=>
     have h1:=aT.o;have h2:=aS.o;have h3:=aR.o;simp[intOf];omega
end
end
section
open Go.RowKit
section
variable {α:Type} {lt:α->α->Bool}
def B2.b4{l:List α}(h:B2 lt l)(k:Nat):B2 lt (l.take k):=(B2.aq (by rw[E0];exact h)).1
def B2.ca{l:List α}(h:B2 lt l)(k:Nat):B2 lt (l.drop k):=(B2.aq (a:=l.take k) (by rw[E0];exact h)).2.1
def B2.CN{l:List α}(h:B2 lt l)(k:Nat):∀x∈l.take k,∀y∈l.drop k,lt y x=false:=(B2.aq (a:=l.take k) (by rw[E0];exact h)).2.2
def B2.Gl(x:α):B2 lt [x]:=MS _ x
def Ca.e0(z:Ca lt){x:α}{V:List α}(h:B2 lt V)(k:Nat)(W:∀y,(V.take k).getLast?=some y->lt y x=true)(O:∀y,(V.drop k).head?=some y->lt y x=false):
 B2 lt (V.take k++x::V.drop k)/\Br lt (x::V) (V.take k++x::V.drop k):=by
 have L:=z.dy (h.b4 k) (B2.Gl x) λa y d I=>by cases I;exact W y d
 have Y:=z.cH (B2.Gl x) (h.ca k) λa y I d=>by cases I;exact O y d
 refine⟨B2.cE (h.b4 k) (Dn.2 ⟨λy d=>Y x (by simp) y d,h.ca k⟩) λu hu v E=>?_,?_⟩
 ·rcases BX.1 E with rfl|E
  ·exact z.cc (L v (by simp) u hu)
  ·exact h.CN k u hu v E
 ·have m:=(z.dX (x:=x) (ys:=V.take k) λy d=>L x (by simp) y d).aq (Br.C (lt:=lt) (V.drop k));have e1:x::V.take k++V.drop k=x::V:=by rw[FL,E0]
  have X:V.take k++[x]++V.drop k=V.take k++x::V.drop k:=by simp
  rw[e1,X]at m;exact m
def Ca.fY(z:Ca lt){y:α}{U:List α}(h:B2 lt U)(k:Nat)(X:∀x,(U.take k).getLast?=some x->lt y x=false)(W:∀x,(U.drop k).head?=some x->lt y x=true):
 B2 lt (U.take k++y::U.drop k)/\Br lt (U++[y]) (U.take k++y::U.drop k):=by
 have O:=z.cH (h.b4 k) (B2.Gl y) λx a d I=>by cases I;exact X x d
 have L:=z.dy (B2.Gl y) (h.ca k) λx a I d=>by cases I;exact W x d
 refine⟨B2.cE (h.b4 k) (Dn.2 ⟨λx d=>z.cc (L x d y (by simp)),h.ca k⟩) λu hu v E=>?_,?_⟩
 ·rcases BX.1 E with rfl|E
  ·exact O u hu v (by simp)
  ·exact h.CN k u hu v E
 ·have m:=(Br.C (lt:=lt) (U.take k)).aq (z.da (y:=y) (xs:=U.drop k) λx d=>L x d y (by simp));have Y:U.take k++(U.drop k++[y])=U++[y]:=by rw[<-C8,E0]
  rw[Y]at m;exact m
def M7{l:List α}{k:Nat}(d:k+1<=l.length):(l.take (k+1)).getLast?=some (l[k]'d):=by
 rw[DL d];exact List.getLast?_concat
def head_drop{l:List α}{k:Nat}(d:k<l.length):(l.drop k).head?=some (l[k]'d):=by
 rw[FW d];rfl
end
section
variable {α:Type} {lt:α->α->Bool}
def Gf(lt:α->α->Bool)(D:List α)(n s0 d s r:Nat):Prop:=
 s0<=s/\s<=r/\r<=d/\(s0<s->∀x y,D[s-1]?=some x->D[n-s]?=some y->lt y x=false)/\(r<d->∀x y,D[r]?=some x->D[n-1-r]?=some y->lt y x=true)
def A1N{A U V Z D:List α}{n s0 Y s:Nat}(hD:D=A++U++V++Z)(hU:2<=U.length)(hV:2<=V.length)(hn:n=(A.length+(A.length+U.length+V.length))/2+(A.length+U.length))(W:if (A.length+(A.length+U.length+V.length))/2<A.length+U.length then s0=n-(A.length+U.length+V.length)/\Y=(A.length+(A.length+U.length+V.length))/2 else s0=A.length/\Y=A.length+U.length)(h:Gf lt D n s0 Y s s):∃U1 U2 V1 V2,U=U1++U2/\V=V1++V2/\A.length+U1.length=s/\n-s=A.length+U.length+V1.length/\U1.length+V1.length=(A.length+(A.length+U.length+V.length))/2-A.length/\
  (∀x y,U1.getLast?=some x->V2.head?=some y->lt y x=false)/\(∀x y,V1.getLast?=some y->U2.head?=some x->lt y x=true):=by
 obtain⟨h1,-,h3,h4,h5⟩:=h;generalize hmid:(A.length+(A.length+U.length+V.length))/2=mid at hn W ⊢;have hsa:A.length<=s/\s<=A.length+U.length/\A.length+U.length<=n-s/\n-s<=A.length+U.length+V.length:=by
  split at W<;>omega
 obtain⟨k,hk⟩:∃k,s=A.length+k:=⟨s-A.length,by omega⟩;obtain⟨j,hj⟩:∃j,n-s=A.length+U.length+j:=⟨n-s-(A.length+U.length),by omega⟩;have aA:k<=U.length:=by omega
 have X:j<=V.length:=by omega
 have l1:(U.take k).length=k:=by rw[BI];omega
 have l2:(V.take j).length=j:=by rw[BI];omega
 have L:∀i (I:i<U.length),D[A.length+i]?=some (U[i]'I):=λi I=>by
  rw[hD,IE (by simp;omega),IE (by simp;omega),HF (by omega)];simp[I]
 have O:∀i (I:i<V.length),D[A.length+U.length+i]?=some (V[i]'I):=λi I=>by
  rw[hD,IE (by simp;omega),HF (by simp)];simp[I]
 refine⟨U.take k,U.drop k,V.take j,V.drop j,(E0 ..).symm,(E0 ..).symm,by omega,by omega,by omega,λx y E z=>?_,λx y z E=>?_⟩
 ·rcases A3z k with h|h
  ·subst h;simp at E
  ·obtain⟨k,rfl⟩:∃q,k=q+1:=⟨k-1,by omega⟩;rw[M7 aA]at E;rcases F9 j V.length with d|d
   ·rw[head_drop d]at z;refine h4 (by split at W<;>omega) x y ?_ ?_
    ·rw[show s-1=A.length+k by omega,L k (by omega)];exact E
    ·rw[hj,O j d];exact z
   ·rw[N1 d]at z;cases z
 ·rcases A3z j with h|h
  ·subst h;simp at z
  ·obtain⟨j,rfl⟩:∃q,j=q+1:=⟨j-1,by omega⟩;rw[M7 X]at z;rcases F9 k U.length with d|d
   ·rw[head_drop d]at E;refine h5 (by split at W<;>omega) x y ?_ ?_
    ·rw[hk,L k d];exact E
    ·rw[show n-1-s=A.length+U.length+j by omega,O j (by omega)];exact z
   ·rw[N1 d]at E;cases E
def Gf.up{D:List α}{n s0 z s r c:Nat}{x y:α}(h:Gf lt D n s0 z s r)(hc:s<=c/\c<r)(X:D[c]?=some x)(O:D[n-1-c]?=some y)(L:lt y x=false):Gf lt D n s0 z (c+1) r:=by
 obtain⟨h1,h2,W,h4,I⟩:=h;refine⟨by omega,by omega,W,λ_ a b E d=>?_,I⟩;rw[A3C,X]at E;rw[show n-(c+1)=n-1-c by omega,O]at d;cases E;cases d;exact L
def Gf.eQ{D:List α}{n s0 z s r c:Nat}{x y:α}(h:Gf lt D n s0 z s r)(hc:s<=c/\c<r)(X:D[c]?=some x)(W:D[n-1-c]?=some y)(O:lt y x=true):Gf lt D n s0 z s c:=by
 obtain⟨L,h2,h3,I,h5⟩:=h;refine⟨L,by omega,by omega,I,λ_ a b E d=>?_⟩;rw[X]at E;rw[W]at d;cases E;cases d;exact O
def Gf.fx(D:List α)(n:Nat){s0 d:Nat}(h:s0<=d):Gf lt D n s0 d s0 d:=⟨Ao _,h,Ao _,λh=>absurd h (GB _),λh=>absurd h (GB _)⟩
def EH(lt:α->α->Bool)(B:Nat)(P:Nat->Prop)(l:List α):Prop:=∀i,P i->B2 lt ((l.drop (i*B)).take B)
def A1O{A M M' Z:List α}(h:M.length=M'.length)(p q:Nat)(d:p+q<=A.length\/A.length+M.length<=p):((A++M++Z).drop p).take q=((A++M'++Z).drop p).take q:=by
 rcases d with d|d
 ·have e:∀X:List α,((A++X++Z).drop p).take q=(A.drop p).take q:=λX=>by
   rw[C8,Lk (by omega),H0 (by rw[Cl];omega)]
  rw[e,e]
 ·have e:∀X:List α,A.length+X.length<=p->((A++X++Z).drop p).take q=(Z.drop (p-(A.length+X.length))).take q:=λX z=>by
   rw[Ll,N1 (by simpa using z),EU,Ba]
  rw[e M d,e M' (by omega),h]
def A1P{A M Z:List α}{p q:Nat}(hp:A.length=p)(d:M.length<=q)(z:M.length<q->Z=[]):((A++M++Z).drop p).take q=M:=by
 rw[C8,Ll,N1 (by omega),EU,show p-A.length=0 by omega,Db];rcases F9 M.length q with h|h
 ·rw[z h,EF,Ec d]
 ·rw[show q=M.length by omega,Je]
def EH.CH{l:List α}{B:Nat}(h:EH lt B (λ_=>True) l)(d:l.length<=B):B2 lt l:=by
 have:=h 0 trivial
 rwa [Nat.zero_mul,Db,Ec d]at this
def Qw(l:List α){a b c:Nat}(h1:a<=b)(h2:b<=c):l=l.take a++(l.drop a).take (b-a)++(l.drop b).take (c-b)++l.drop c:=by
 have d:(l.drop a).take (b-a)++l.drop b=l.drop a:=by
  have:=E0 (b-a) (l.drop a)
  rwa [List.drop_drop,show a+(b-a)=b by omega]at this
 have h:(l.drop b).take (c-b)++l.drop c=l.drop b:=by
  have:=E0 (c-b) (l.drop b)
  rwa [List.drop_drop,show b+(c-b)=c by omega]at this
 rw[C8,C8,h,d,E0]
end
end
end Go.Proofs.YtodcnkbblippnaaGreatDoor
