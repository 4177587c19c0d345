/- Part 22 of a proof: walks of the program. -/
import Derived.Test.YtodcnkbblippnaaGreatDoorPart21
namespace Go.Proofs.YtodcnkbblippnaaGreatDoor
set_option maxRecDepth 100000
set_option maxHeartbeats 32000000
set_option linter.defProp false
open Go.Proofs.Tryz
section
open Go.RowKit
attribute [local go_sem ↓] Go.wp_at_zero Go.wp_at_succ
section
variable {w w':World} {H wb sb ab b:Nat} {n:WN} {life win A7:Int} {ro:Bool} {L:Nat->List Pt} {A:Ar} {P:PD} {FT:Nat->Prop} {puts:List Pu} {ls:List (Value×Int)}
def LW.cC(h:LW w H wb n b life (KS sb ab b life win A7 ro L A P) FT puts ls):∃lv,Bw w sb 0 (A6 ab) life win A7 ro lv/\Eb w lv L:=by
 obtain⟨lv,F0,d,-⟩:=h.Eg;exact⟨lv,d.Af,d.DT⟩
def A2P(w:World)(a Y c3:Int)(tv:Value)(h:LW w H wb n b life (KS sb ab b life win A7 ro L A P) FT puts ls)(aA:n.sv=(A6 sb))(aI:n.CA=A7)(aD:n.CG=ro):
 Ag 55 #[A6 wb,.agg #[A0 5,A0 a,A0 Y,A0 c3,tv]] w (Aj (.bool true) λw'=>A4 Aa w w'):=by
 have hA:=(A4.C Aa w).ah (BF 5 a Y c3 tv);obtain⟨o0,-,-,-⟩:=Gk w 5 a Y c3 tv;have I:=h.al hA;generalize aH:w.alloc (BF 5 a Y c3 tv)=w1 at hA o0 I;unfold BF at aH;have c4:=I.Af.c4;rw[I.D8]at c4;have c5:=I.Af.c5;rw[aA]at c5;have E:Hid (∀w',A4 Aa w1 w'->Ag 49 #[A6 b] w' (Aj (A0 P.D.n.B8) λd=>w'=d)):=λw' k=>(I.al k).B8
 obtain⟨lv,aB,-⟩:=I.cC;have ST:=A1 (Qu w1 aB);generalize hcn:P.D.n.B8=cn at E;have aL:=A1 (E.o w1 (A4.C _ _));have aK:=A1 hA;have aJ:=A1 I
 go_enter func55,ntmps55
 go_wp2_with (first
  | (go_at_call 49;refine aL.m ?_;rintro e d⟨rfl,rfl⟩)
  | (go_at_call 38;refine ST.m ?_;rintro e d⟨rfl,aF⟩;have aG:=A1 aF))
 have z:A4 Aa w1 (d.alloc (.cells #[.bool ro,A0 A7] 74)):=aG.o.ah _;have W:=Bf d (.cells #[.bool ro,A0 A7] 74);have d0:A8 (d.alloc (.cells #[.bool ro,A0 A7] 74)) d.heap.size 0 (.bool ro):=CP W;have d1:A8 (d.alloc (.cells #[.bool ro,A0 A7] 74)) d.heap.size 1 (A0 A7):=CP W;generalize (d.alloc (.cells #[.bool ro,A0 A7] 74))=w3 at z d0 d1 ⊢;have b9:=(aJ.o.al z).Af.c9;rw[aD]at b9;have O:=(aJ.o.al z).Af.bk;rw[aI]at O;have e4:=z.ag c4;have X:=A1 z;refine Bt (λw'=>A8 w' d.heap.size 0 (.bool ro)/\A8 w' d.heap.size 1 (A0 A7)/\A8 w' wb 9 (.bool ro)/\A8 w' wb 10 (A0 A7)) 16
  (Bb [0,1,2,3,4,5,6,7,8,9,10,11,12,13,14,15] []) ⟨d0,d1,b9,O⟩ ?_
 iterate 16 (refine B1 ?_;(try simp only[Ak]))
 refine B4 ?_;simp only[Bm,Bl];have aE:=A1 (E.o w3.drew X.o.aa);go_wp2_with (go_at_call 49;refine aE.m ?_;rintro e w4⟨rfl,rfl⟩);go_ret;exact⟨rfl,aK.o.tr X.o.aa⟩
def A2Q{k:Nat}(w:World)(a d:Int)(tv:Value)(h:LW w H wb n b life (KS sb ab b life win A7 ro L A P) FT puts ls)(aF:n.sv=(A6 sb))(aJ:n.CA=A7)(hR:Rel L puts life A7)(hk:k<8)(hp:∀p∈puts,Ax p.2.1)(hpl:puts.length<1099511627000)(aR:ls.length<1099511627000)(hl:1<=life/\life<=4611686018427387904)(hc:Ax A7):
 Ag 55 #[A6 wb,.agg #[A0 3,A0 k,A0 a,A0 d,tv]] w (Aj (.bool true) λw'=>A4 (Up H) w w'/\∃n' O,LW w' H wb n' b life (KS sb ab b life win A7 ro L A P) FT puts O/\O.length=ls.length+4/\JT n n'):=by
 have hA:=(A4.C Aa w).ah (BF 3 k a d tv);obtain⟨o0,o1,o2,o3⟩:=Gk w 3 k a d tv;have W:=h.al hA;generalize aI:w.alloc (BF 3 k a d tv)=w1 at hA o0 o1 o2 o3 W;unfold BF at aI;have c4:=W.Af.c4;rw[W.D8]at c4;have c5:=W.Af.c5;rw[aF]at c5;have a1:=A1 (W.B8);generalize aG:P.D.n.B8=cn at a1;have aK:=A1 aG;have a3:=A1 hA;have aH:=W.al (A4.C Aa w1).aa;obtain⟨lv,aP,aN⟩:=aH.cC;have aL:=A1 (LP w1.drew k a d aP aN hk hl hc);have aW:=hR.dt hp hk a d;rw[aW]at aL;have aS:=Rf puts k a d life A7;have aU:Hid (∀w',A4 Aa w1 w'->_):=λw' k'=>Rp w' n.pv puts puts.length (W.al k').Dw (Ao _) (by omega) hp k a d life A7 hl hc;rw[Cc]at aU;generalize hQ:refQ puts k a d life A7=Q at aL aU aS;have a4:Hid (∀w',Ag 91 #[A0 k] w' (Aj (.bool true) λw2=>w'=w2)):=λw'=>by
  have:=LM k w';have e:Fm (k:Int)=true:=by unfold Fm;simp;omega
  rwa [e]at this
 have I:=A1 W;obtain⟨ap,cp,aA,-⟩:=W.Dw.BP
 go_enter func55,ntmps55
 go_wp2_with (go_at_call 49;refine a1.m ?_;rintro e w2⟨rfl,rfl⟩);refine Bt (λw'=>A8 w' wb 5 (A6 sb)/\A8 w' w.heap.size 1 (A0 k)/\A8 w' w.heap.size 2 (A0 a)/\A8 w' w.heap.size 3 (A0 d)) 15
  (Bb [0,1,2,3,4,5,6,7,8,9,10,11,12,13,14] [10]) ⟨c5,o1,o2,o3⟩ ?_
 iterate 10 (refine B1 ?_;(try simp only[Ak]))
 refine Bd λK hK=>?_;go_simp;refine aL.m ?_;rintro e w2⟨v,rfl,hv,z,aT⟩;have k2:A4 Aa w1 w2:=⟨z.os,z.DC,z.DE,z.Al,z.Am⟩;have p1:=k2.ag o1;have p2:=k2.ag o2;have p3:=k2.ag o3;refine hK _ _ ⟨k2.ag c5,p1,p2,p3⟩ (λhS=>?_);have aY:=A1 k2;have a0:=A1 hv;have a5:Hid (∀g,v.oB g->w1.heap.size<=g):=aT;have aE:=A1 (I.o.al k2)
 (try simp only[Ak])
 iterate 4 (refine B1 ?_;(try simp only[Ak]))
 refine B4 ?_;simp only[Bm,Bl];go_wp2_with (go_at_call 91;refine(a4.o _).mono ?_;rintro e w6⟨rfl,rfl⟩);have c6:=aE.o.Af.c6;rw[aA]at c6;have c0:=aE.o.Af.c0;rw[aE.o.FU]at c0;have c10:=aE.o.Af.bk;rw[aJ]at c10;have aZ:=A1 (aU.o w2.drew aY.o.aa);rw[aA]at aZ;refine Bt (λw'=>A8 w' wb 6 (.slice ap puts.length cp)/\A8 w' wb 0 (A0 life)/\A8 w' wb 10 (A0 A7)/\A8 w' w.heap.size 1 (A0 k)/\A8 w' w.heap.size 2 (A0 a)/\A8 w' w.heap.size 3 (A0 d)) 25
  (Bb [0,1,2,3,4,5,6,7,8,9,10,11,12,13,14,15,16,17,18,19,20,21,22,23,24] [24]) ⟨c6,c0,c10,p1,p2,p3⟩ ?_
 iterate 24 (refine B1 ?_;(try simp only[Ak]))
 refine Bd λK hK=>?_;go_simp;refine aZ.m ?_;rintro e w3⟨v2,rfl,aO,E,hfr3⟩;have X:A4 Aa w2 w3:=⟨E.os,E.DC,E.DE,E.Al,E.Am⟩;refine hK _ _ ⟨X.ag c6,X.ag c0,X.ag c10,X.ag p1,X.ag p2,X.ag p3⟩ (λhS=>?_);have a2:Hid (A4 Aa w1 w3):=aY.o.tr X;have Y:Hid (Cb w3 v Q):=Aw a0.o λg hg=>X.Am g (Ay a0.o hg) (λh=>h);have bB:Hid (Ag 93 #[v,v2] w3 (Aj (.bool true) λw'=>A4 Aa w3 w')):=by
  have:=QJ w3 v v2 Q Q Y.o aO (by omega) (by omega)
  rwa [Ct rfl]at this
 (try simp only[Ak])
 refine B4 ?_;simp only[Bm,Bl];go_wp2_with (go_at_call 93;refine bB.m ?_;rintro e w4⟨rfl,k4⟩;have aX:Hid (A4 Aa w1 w4):=a2.o.tr k4;have aQ:Hid (Cb w4 v Q):=Aw Y.o (λg hg=>k4.Am g (Ay Y.o hg) (λh=>h)));have a6:=A1 (I.o.al aX.o)
 have a8:Hid (MR w4 H wb n FT v Q):=⟨aQ.o,by omega,λg hg=>by
  have aM:=a5.o g hg
  exact⟨AQ I.o.Al aM,λhx=>by have:=I.o.cg hx;omega,λhx=>by have:=I.o.lt _ hx;omega⟩⟩
 have bA:=A1 (Qd w4 v Q a6.o a8.o (by omega) aR);refine bA.m ?_;rintro e w5⟨rfl,k5,n',O,hW,aV,aD⟩;have aB:=A1 (hW.B8);rw[aK.o]at aB;have d4:=hW.Af.c4;rw[hW.D8]at d4;have a9:Hid (A4 (Up H) w w5):=((a3.o.tr aX.o).ad (S':=Up H) λ_ _ h=>h.elim).tr k5;have a7:=A1 hW;go_wp2_with (go_at_call 49;refine aB.m ?_;rintro e w6⟨rfl,rfl⟩);go_ret;exact⟨rfl,a9.o,n',O,a7.o,aV,aD⟩
def A2R(w:World)(k a I:Int)(tv:Value)(h:LW w H wb n b life (KS sb ab b life win A7 ro L A P) FT puts ls)(aA:n.sv=(A6 sb))(hk:¬(0<=k/\k<8))(aJ:ls.length<1099511627000):
 Ag 55 #[A6 wb,.agg #[A0 3,A0 k,A0 a,A0 I,tv]] w (Aj (.bool true) λw'=>A4 (Up H) w w'/\∃n' z,LW w' H wb n' b life (KS sb ab b life win A7 ro L A P) FT puts z/\z.length=ls.length+4/\JT n n'):=by
 have hA:=(A4.C Aa w).ah (BF 3 k a I tv);obtain⟨o0,o1,o2,o3⟩:=Gk w 3 k a I tv;have E:=h.al hA;generalize aH:w.alloc (BF 3 k a I tv)=w1 at hA o0 o1 o2 o3 E;unfold BF at aH;have c4:=E.Af.c4;rw[E.D8]at c4;have c5:=E.Af.c5;rw[aA]at c5;have aL:=A1 (E.B8);generalize aB:P.D.n.B8=cn at aL;have aD:=A1 aB;have aP:=A1 hA;have aG:=E.al (A4.C Aa w1).aa;obtain⟨lv,aF,-⟩:=aG.cC;have aN:=A1 (Yo w1.drew k a I aF hk);have aS:Hid (∀w',Ag 91 #[A0 k] w' (Aj (.bool false) λO=>w'=O)):=λw'=>by
  have:=LM k w';have e:Fm k=false:=by unfold Fm;simp;omega
  rwa [e]at this
 have aI:=A1 E
 go_enter func55,ntmps55
 go_wp2_with (go_at_call 49;refine aL.m ?_;rintro e O⟨rfl,rfl⟩);refine Bt (λw'=>A8 w' wb 5 (A6 sb)/\A8 w' w.heap.size 1 (A0 k)/\A8 w' w.heap.size 2 (A0 a)/\A8 w' w.heap.size 3 (A0 I)) 15
  (Bb [0,1,2,3,4,5,6,7,8,9,10,11,12,13,14] [10]) ⟨c5,o1,o2,o3⟩ ?_
 iterate 10 (refine B1 ?_;(try simp only[Ak]))
 refine Bd λK hK=>?_;go_simp;refine aN.m ?_;rintro e O⟨rfl,d⟩;have Y:A4 Aa w1 O:=⟨d.os,d.DC,d.DE,d.Al,d.Am⟩;have p1:=Y.ag o1;refine hK _ _ ⟨Y.ag c5,p1,Y.ag o2,Y.ag o3⟩ (λhS=>?_);have aK:=A1 Y
 (try simp only[Ak])
 iterate 4 (refine B1 ?_;(try simp only[Ak]))
 refine B4 ?_;simp only[Bm,Bl];have aQ:=A1 (aI.o.al aK.o);have aM:Hid (MR O H wb n FT (.slice none 0 0) []):=⟨Cp _ _ _ _,by decide,λg hg=>by simp[Value.ownBlock]at hg⟩;have aT:=A1 (Qd O (.slice none 0 0) [] aQ.o aM.o (by decide) aJ)
 go_wp2_with (first
  | (go_at_call 91;refine(aS.o _).mono ?_;rintro e w6⟨rfl,rfl⟩))
 refine aT.m ?_;rintro e w5⟨rfl,k5,n',z,hW,aE,X⟩;have W:=A1 (hW.B8);rw[aD.o]at W;have d4:=hW.Af.c4;rw[hW.D8]at d4;have aO:Hid (A4 (Up H) w w5):=((aP.o.tr aK.o).ad (S':=Up H) λ_ _ h=>h.elim).tr k5;have aR:=A1 hW;go_wp2_with (go_at_call 49;refine W.m ?_;rintro e w6⟨rfl,rfl⟩);go_ret;exact⟨rfl,aO.o,n',z,aR.o,aE,X⟩
end
section
variable {w w':World} {H wb sb ab b:Nat} {n:WN} {life win A7:Int} {ro:Bool} {L:Nat->List Pt} {A:Ar} {P:PD} {FT:Nat->Prop} {puts:List Pu} {ls:List (Value×Int)}
def VW(w:World)(X a W c3:Int)(tv:Value)(h:LW w H wb n b life (KS sb ab b life win A7 ro L A P) FT puts ls)(Y:n.sv=(A6 sb))(ha:a<0):
 Ag 56 #[A6 wb,.agg #[A0 X,A0 a,A0 W,A0 c3,tv]] w (Aj (.bool true) λw'=>A4 Aa w w'):=by
 have hA:=(A4.C Aa w).ah (BF X a W c3 tv);obtain⟨-,o1,-,-⟩:=Gk w X a W c3 tv;have z:=h.al hA;generalize aB:w.alloc (BF X a W c3 tv)=w1 at hA o1 z;unfold BF at aB;have c4:=z.Af.c4;rw[z.D8]at c4;have c5:=z.Af.c5;rw[Y]at c5;have aE:=A1 (z.B8);obtain⟨lv,aA,-⟩:=(z.al (A4.C Aa w1).aa).cC;have aF:=A1 (VY w1.drew a aA ha);have I:Hid (∀w',A4 Aa w1 w'->Ag 49 #[A6 b] w' (Aj (A0 P.D.n.B8) λE=>w'=E)):=λw' k=>(z.al k).B8
 generalize hcn:P.D.n.B8=cn at aE I;have aH:=A1 hA;have aI:Hid (∀w',A4 Aa w1 w'->A8 w' wb 4 (A6 b)):=λw' k=>k.ag c4
 go_enter func56,ntmps56
 go_wp2_with (go_at_call 49;refine aE.m ?_;rintro e E⟨rfl,rfl⟩);refine Bt (λw'=>A8 w' wb 5 (A6 sb)/\A8 w' w.heap.size 1 (A0 a)) 7
  (Bb [0,1,2,3,4,5,6] [6]) ⟨c5,o1⟩ ?_
 iterate 6 (refine B1 ?_;(try simp only[Ak]))
 refine Bd λK hK=>?_;go_simp;refine aF.m ?_;rintro e E⟨rfl,O⟩;have d:A4 Aa w1 E:=⟨O.os,O.DC,O.DE,O.Al,O.Am⟩;have d5:=d.ag c5;have p1:=d.ag o1;refine hK _ _ ⟨d5,p1⟩ (λhS=>?_);have aD:=A1 (I.o E d);have d4:=aI.o E d;have aG:Hid (A4 Aa w E):=aH.o.tr d
 (try simp only[Ak])
 refine B4 ?_;simp only[Bm,Bl];go_wp2_with (go_at_call 49;refine aD.m ?_;rintro e w3⟨rfl,rfl⟩);go_ret;exact⟨rfl,aG.o⟩
def VV(w:World)(kd a b3 c3:Int)(tv:Value)(h:LW w H wb n b life (KS sb ab b life win A7 ro L A P) FT puts ls)(Y:n.sv=(A6 sb))(aJ:n.CA=A7)(ha:0<=a/\a<=9223372036854775807)(hl:1<=life/\life<=4611686018427387904)(hc:Ax A7):
 Ag 56 #[A6 wb,.agg #[A0 kd,A0 a,A0 b3,A0 c3,tv]] w (Aj (.bool true) λw'=>A4 (Up H) w w'/\
  ∃d z,LW w' H wb {n with CA:=Dv A7 a} b life (KS sb ab b life win (Dv A7 a) ro z A P) d puts ls/\H4 L z (AT (Dv A7 a) life)):=by
 have hA:=(A4.C Aa w).ah (BF kd a b3 c3 tv);obtain⟨-,o1,-,-⟩:=Gk w kd a b3 c3 tv;have W:=h.al hA;have aG:w.heap.size<(w.alloc (BF kd a b3 c3 tv)).heap.size:=by simp
 have aE:=h.lt;have hwl:=h.Af.lt;generalize aH:w.alloc (BF kd a b3 c3 tv)=w1 at hA o1 W aG;unfold BF at aH;have c4:=W.Af.c4;rw[W.D8]at c4;have c5:=W.Af.c5;rw[Y]at c5;have aK:=A1 (W.B8)
 have aL:Hid (Ag 27 #[A6 sb,A0 a] w1.drew (Aj (A0 0) λw'=>A4 (Up H) w1 w'/\w'.cell? (A9 wb 5)=some (A6 sb)/\w'.cell? (A9 w.heap.size 1)=some (A0 a)/\w'.cell? (A9 wb 10)=some (A0 A7)/\w'.frozen? (A9 wb 10)=false/\
  ∃d z,LW w' H wb n b life (KS sb ab b life win (Dv A7 a) ro z A P) d puts ls/\H4 L z (AT (Dv A7 a) life))):=by
  have aA:=W.al (A4.C Aa w1).aa;obtain⟨lv,F0,I,aD⟩:=aA.Eg;refine(Qc w1.drew a I.Af I.DT ha hl hc).mono ?_;rintro e w'⟨rfl,lv',z,hS,hF⟩;have E:=I.cI aD hS;obtain⟨O,aI,X⟩:=aA.cG (KS.DR sb ab b life win (Dv A7 a) ro z A P) E;refine⟨rfl,⟨O.os,O.DC,O.DE,O.Al,O.Am⟩,?_,?_,?_,X.Af.fz 10,aI,z,X,hF⟩
  ·rw[X.Af.c5,Y]
  ·exact Dg (w:=w1.drew) E.1 o1 (λhx=>by have:=aE _ hx;omega)
  ·rw[X.Af.bk,aJ]
 have aP:=A1 (Qb A7 a);generalize hcn:P.D.n.B8=cn at aK;have aN:=A1 hA
 go_enter func56,ntmps56
 go_wp2_with (go_at_call 49;refine aK.m ?_;rintro e w2⟨rfl,rfl⟩);refine Bt (λw'=>w'.cell? (A9 wb 5)=some (A6 sb)/\w'.cell? (A9 w.heap.size 1)=some (A0 a)) 7
  (Bb [0,1,2,3,4,5,6] [6]) ⟨c5,o1⟩ ?_
 iterate 6 (refine B1 ?_;(try simp only[Ak]))
 refine Bd λK hK=>?_;go_simp;refine aL.m ?_;rintro e w2⟨rfl,k2,d5,p1,d10,z10,hR⟩;refine hK _ _ ⟨d5,p1⟩ (λhS=>?_);have aO:=A1 hR;have aM:Hid (A4 (Up H) w w2):=(aN.o.ad (S':=Up H) λ_ _ h=>h.elim).tr k2;have aF:=A1 (aP.o w2.drew hc ha)
 (try simp only[Ak])
 refine B4 ?_;simp only[Bm,Bl];obtain⟨ha1,ha2⟩:=ha;go_wp2;refine Bt (λw'=>w'.cell? (A9 wb 10)=some (A0 A7)/\w'.cell? (A9 w.heap.size 1)=some (A0 a)) 8
  (Bb [0,1,2,3,4,5,6,7] [7]) ⟨d10,p1⟩ ?_
 iterate 7 (refine B1 ?_;(try simp only[Ak]))
 refine Bd λK hK=>?_;go_simp;refine aF.m ?_;rintro e w3⟨rfl,rfl⟩;refine hK _ _ ⟨d10,p1⟩ (λhS=>?_)
 (try simp only[Ak])
 refine B4 ?_;simp only[Bm,Bl];go_wp2;go_ret;obtain⟨d,z,O,X⟩:=aO.o;have aB:=O.al (A4.C Aa w2).aa;obtain⟨r1,r2⟩:=aB.CT 10 (A0 (Dv A7 a)) (aB.Af.cb (Dv A7 a)) rfl rfl rfl rfl;exact⟨rfl,aM.o.aa.tr r1,d,z,r2,X⟩
end
def Eo.ai{H:Nat}{w w':World}{v:Value}(h:Eo H w v)(W:A4 (Up H) w w'):Eo H w' v:=by
 obtain⟨ts,⟨I,cap,e,hl,hj⟩,X,O⟩:=h;refine⟨ts,⟨I,cap,e,hl,λj d=>?_⟩,X,O⟩;obtain⟨L,z,E,h4,h5⟩:=hj j d;have hb:=O I _ cap (A9 L z) (λY=>absurd (Y ▸ d) (JX _)) e E;exact⟨L,z,E,Bi h4 W.Al,Dg W h5 λhx=>by unfold Up at hx;dsimp only at hb;omega⟩
section
variable {w w':World} {H wb t t' B:Nat} {life:Int} {n:WN} {puts:List Pu} {ls:List (Value×Int)}
def Dp.ad(h:Dp t H wb life w n puts ls)(d:t<=t'):Dp t' H wb life w n puts ls:=by
 obtain⟨h1,W,h3,h4,b,Ad,P,FT,h5,h6,h7⟩:=h;refine⟨h1,W,h3,by omega,b,Ad,P,FT,h5,h6,?_⟩;rcases h7 with⟨sb,ab,X,L,A,E,z,I,g4,g5,O,g7,g8,Y⟩|⟨E,z,I⟩
 ·exact .inl ⟨sb,ab,X,L,A,E,z,I,g4,g5,O,g7.ad d,g8,λk hk=>AQ (Y k hk) d⟩
 ·exact .inr ⟨E,z,I.ad d⟩
def Dp.al(h:Dp t H wb life w n puts ls)(E:A4 Aa w w'):Dp t H wb life w' n puts ls:=by
 obtain⟨h1,W,h3,Y,b,Ad,P,FT,h5,h6,h7⟩:=h;refine⟨h1,W,h3.ai (E.ad λ_ _ h=>h.elim),Y,b,Ad,P,FT,h5,h6,?_⟩;rcases h7 with⟨sb,ab,X,L,A,z,d,I,g4,g5,O,g7⟩|⟨z,d,I⟩
 ·exact .inl ⟨sb,ab,X,L,A,z,d,I,g4,g5,O.al E,g7⟩
 ·exact .inr ⟨z,d.al E,I⟩
def Dp.Af(h:Dp t H wb life w n puts ls):AP w wb n:=by
 obtain⟨-,-,-,-,b,Ad,P,FT,-,-,d⟩:=h;rcases d with⟨_,_,_,_,_,_,_,_,_,_,g,-⟩|⟨-,g,-⟩<;>exact g.Af
def LI(w:World)(H wb:Nat)(life:Int)(t:Nat):Prop:=∃n puts ls,Dp t H wb life w n puts ls
def V6(w:World)(kd k tt v:Int)(tv:Value)(h:Dp t H wb life w n puts ls)(aA:n.sv≠.pointer none)(hL:Lets B w)(aB:B<=H)(ht:t+1<=200000)(aD:Ax tt)(hv:Ax v):
 Ag 54 #[A6 wb,.agg #[A0 kd,A0 k,A0 tt,A0 v,tv]] w (Aj (.bool true) λw'=>A4 (Up H) w w'/\LI w' H wb life (t+1)):=by
 obtain⟨X,h2,h3,h4,b,Ad,P,FT,h5,h6,h7⟩:=h;rcases h7 with⟨sb,ab,O,L,A,E,W,g3,g4,g5,g6,Y,g8,g9⟩|⟨E,-⟩
 ·by_cases hk:0<=k/\k<8
  ·cases O with
   | true=>
    refine(V8 w kd k tt v tv g6 E W Y.pb (by omega) h6 hk).mono ?_;rintro e w'⟨rfl,z,d,hW⟩;exact⟨rfl,z,n,puts,ls,Dp.ad ⟨X,h2,h3.ai z,h4,b,Ad,P,d,h5,h6,.inl ⟨sb,ab,true,L,A,E,W,g3,g4,g5,hW,Y,g8,g9⟩⟩ (by omega)⟩
   | false=>
    refine(Vi (Ad:=Ad) w kd k tt v tv g6 E W rfl Y g8 ht h6 ⟨hk,aD,hv⟩ g9 g4 X hL aB).mono ?_;rintro e w'⟨rfl,z,d,I,aF,aE,aG,q,q1,q2⟩;rcases q2 with⟨O,r1,r2,r3,r4⟩|⟨r1,r2⟩
    ·exact⟨rfl,z,{n with pv:=I,CG:=O},q,ls,X,h2,h3.ai z,by omega,b,Ad,aE,d,h5,q1,.inl ⟨sb,ab,O,aG,aF,E,rfl,g3,g4,g5,r1,r2,r3,r4⟩⟩
    ·exact⟨rfl,z,{n with pv:=I,CG:=true,sv:=.pointer none},q,ls,X,h2,h3.ai z,by omega,b,Ad,aE,d,h5,q1,.inr ⟨rfl,r1,r2⟩⟩
  ·refine(Vk w kd k tt v tv g6 E W Y.pb (by omega) h6 hk).mono ?_;rintro e w'⟨rfl,z,d,hW⟩;exact⟨rfl,z,n,puts,ls,Dp.ad ⟨X,h2,h3.ai z,h4,b,Ad,P,d,h5,h6,.inl ⟨sb,ab,O,L,A,E,W,g3,g4,g5,hW,Y,g8,g9⟩⟩ (by omega)⟩
 ·exact absurd E aA
def A2O(w:World)(kd k a Y:Int)(tv:Value)(aB:kd=3\/kd=5)(h:Dp t H wb life w n puts ls)(aA:n.sv≠.pointer none)(ht:t+1<=200000):
 Ag 55 #[A6 wb,.agg #[A0 kd,A0 k,A0 a,A0 Y,tv]] w (Aj (.bool true) λw'=>A4 (Up H) w w'/\LI w' H wb life (t+1)):=by
 obtain⟨h1,h2,h3,h4,b,Ad,P,FT,h5,h6,h7⟩:=h;rcases h7 with⟨sb,ab,ro,L,A,E,g2,g3,g4,g5,X,g7,g8,g9⟩|⟨E,-⟩
 ·have hlen:=g7.Bo;have fin:∀w' n' d,A4 (Up H) w w'->JT n n'->LW w' H wb n' b life (KS sb ab b life n.win n.CA ro L A P) FT puts d->d.length=ls.length+4->LI w' H wb life (t+1):=λw' n' d z W O hl=>by
   obtain⟨lv',c',rfl⟩:∃lv' c',n' = {n with lv:=lv',FD:=c'}:=⟨_,_,W⟩;exact⟨{n with lv:=lv',FD:=c'},puts,d,h1,h2,h3.ai z,by omega,b,Ad,P,FT,h5,h6,.inl ⟨sb,ab,ro,L,A,E,g2,g3,g4,g5,O,g7.ad (Fa t),g8,λk hk=>JY (g9 k hk)⟩⟩
  rcases aB with rfl|rfl
  ·by_cases hk:0<=k/\k<8
   ·obtain⟨k',rfl⟩:∃k':Nat,k=k':=⟨k.toNat,by omega⟩;refine(A2Q w a Y tv X E rfl g8 (by omega) (λp hp=>(g7.pu p hp).2.1) (by omega) (by omega) g4 h1).mono ?_;rintro e w'⟨rfl,z,n',d,O,I,W⟩;exact⟨rfl,z,fin w' n' d z W O I⟩
   ·refine(A2R w k a Y tv X E hk (by omega)).mono ?_;rintro e w'⟨rfl,z,n',d,O,I,W⟩;exact⟨rfl,z,fin w' n' d z W O I⟩
  ·refine(A2P w k a Y tv X E rfl g2).mono ?_;rintro e w'⟨rfl,z⟩;exact⟨rfl,z.ad λ_ _ h=>h.elim,n,puts,ls,Dp.ad (Dp.al ⟨h1,h2,h3,h4,b,Ad,P,FT,h5,h6,.inl ⟨sb,ab,ro,L,A,E,g2,g3,g4,g5,X,g7,g8,g9⟩⟩ z) (by omega)⟩
 ·exact absurd E aA
def VU(w:World)(kd a b3 c3:Int)(tv:Value)(h:Dp t H wb life w n puts ls)(Y:n.sv≠.pointer none)(ha:Ax a):
 Ag 56 #[A6 wb,.agg #[A0 kd,A0 a,A0 b3,A0 c3,tv]] w (Aj (.bool true) λw'=>A4 (Up H) w w'/\LI w' H wb life (t+1)):=by
 obtain⟨O,h2,h3,h4,b,Ad,P,FT,h5,h6,h7⟩:=h;rcases h7 with⟨sb,ab,ro,L,A,d,g2,g3,g4,g5,W,g7,g8,g9⟩|⟨d,-⟩
 ·obtain⟨ha1,z⟩:=ha;by_cases h0:a<0
  ·refine(VW w kd a b3 c3 tv W d h0).mono ?_;rintro e w'⟨rfl,I⟩;exact⟨rfl,I.ad λ_ _ h=>h.elim,n,puts,ls,Dp.ad (Dp.al ⟨O,h2,h3,h4,b,Ad,P,FT,h5,h6,.inl ⟨sb,ab,ro,L,A,d,g2,g3,g4,g5,W,g7,g8,g9⟩⟩ I) (by omega)⟩
  ·have E:n.CA<=Dv n.CA a:=by
    obtain⟨k1,k2⟩:=O;unfold Dv;split<;>omega
   refine(VV w kd a b3 c3 tv W d rfl ⟨by omega,z⟩ g4 O).mono ?_;rintro e w'⟨rfl,I,X,aA,hW,hF⟩;refine⟨rfl,I,{n with CA:=Dv n.CA a},puts,ls,Dp.ad ⟨Lx O (by omega) z,h2,h3.ai I,h4,b,Ad,P,X,h5,h6,.inl ⟨sb,ab,ro,aA,A,d,g2,g3,g4,g5,hW,g7.ba (M0 E),g8.eM (λp hp=>(g7.pu p hp).2.1) E hF,λk hk=>?_⟩⟩ (by omega)⟩;have:=hF.Bo hk;have:=g9 k hk;omega
 ·exact absurd d Y
def WU(w:World)(d a z c3:Int)(tv:Value)(h:Dp t H wb life w n puts ls)(E:n.sv≠.pointer none)(hL:Lets B w)(aH:B<=H)(ht:t+1<=200000)(ha:Ax a)(hb:Ax z)(aJ:Ax c3)(hk:d∉[1,6,7,8,9,10,11]):
 Ag 18 #[A6 wb,.agg #[A0 d,A0 a,A0 z,A0 c3,tv]] w (Aj (.bool true) λw'=>A4 (Up H) w w'/\LI w' H wb life (t+1)):=by
 have hA:=(A4.C Aa w).ah (BF d a z c3 tv);obtain⟨o0,o1,o2,o3⟩:=Gk w d a z c3 tv;have o4:(w.alloc (BF d a z c3 tv)).cell? (A9 w.heap.size 4)=some tv:=by
  have Y:=Bf w (BF d a z c3 tv);unfold BF at Y ⊢;simp only[World.cell?,Y];rfl
 have O:=h.al hA;have aA:=hL.aM hA;generalize aF:w.alloc (BF d a z c3 tv)=w1 at hA o0 o1 o2 o3 o4 O aA;unfold BF at aF;have c5:∃sb,w1.cell? (A9 wb 5)=some (A6 sb):=by
  have hb:=O.Af.c5;obtain⟨-,-,-,-,b,Ad,P,FT,-,-,h7⟩:=O;rcases h7 with⟨sb,ab,ro,L,A,g1,-⟩|⟨g1,-⟩
  ·exact⟨sb,by rw[hb,g1]⟩
  ·exact absurd g1 E
 obtain⟨sb,c5⟩:=c5;have aN:Hid (∀d,Ag 54 #[A6 wb,.agg #[A0 d,A0 a,A0 z,A0 c3,tv]] w1 (Aj (.bool true) λw'=>A4 (Up H) w1 w'/\LI w' H wb life (t+1))):=λd=>V6 w1 d a z c3 tv O E aA aH ht hb aJ;have aL:Hid (∀d,d=3\/d=5->Ag 55 #[A6 wb,.agg #[A0 d,A0 a,A0 z,A0 c3,tv]] w1 (Aj (.bool true) λw'=>A4 (Up H) w1 w'/\LI w' H wb life (t+1))):=λd aE=>A2O w1 d a z c3 tv aE O E ht;have aK:Hid (∀d,Ag 56 #[A6 wb,.agg #[A0 d,A0 a,A0 z,A0 c3,tv]] w1 (Aj (.bool true) λw'=>A4 (Up H) w1 w'/\LI w' H wb life (t+1))):=λd=>VU w1 d a z c3 tv O E ha;have aM:Hid (LI w1 H wb life (t+1)):=⟨n,puts,ls,O.ad (Fa t)⟩;have aB:Hid (A4 (Up H) w w1):=hA.ad λ_ _ h=>h.elim;simp only[BX,A3H,or_false,not_or]at hk;obtain⟨n1,n6,n7,n8,n9,n10,n11⟩:=hk;by_cases e2:d=2
 ·subst e2;have aG:=A1 (aN.o 2)
  go_enter func18,ntmps18
  go_wp2_with (go_at_call 54;refine aG.m ?_;rintro e w2⟨rfl,k2,hI⟩;have W:=A1 k2;have X:=A1 hI);go_ret;exact⟨rfl,aB.o.tr W.o,X.o⟩
 ·by_cases I:d=3\/d=5
  ·have aD:=A1 (aL.o d I);rcases I with rfl|rfl
   all_goals
    go_enter func18,ntmps18
    go_wp2_with (go_at_call 55;refine aD.m ?_;rintro e w2⟨rfl,k2,hI⟩;have W:=A1 k2;have X:=A1 hI);go_ret;exact⟨rfl,aB.o.tr W.o,X.o⟩
  ·by_cases e4:d=4
   ·subst e4;have aI:=A1 (aK.o 4)
    go_enter func18,ntmps18
    go_wp2_with (go_at_call 56;refine aI.m ?_;rintro e w2⟨rfl,k2,hI⟩;have W:=A1 k2;have X:=A1 hI);go_ret;exact⟨rfl,aB.o.tr W.o,X.o⟩
   ·have e3:¬d=3:=λe=>I (.inl e);have e5:¬d=5:=λe=>I (.inr e)
    go_enter func18,ntmps18
    go_wp2;go_ret;exact⟨rfl,aB.o,aM.o⟩
def WW(w:World)(d a z c3:Int)(tv:Value)(h:AP w wb n)(E:n.sv=.pointer none)(O:d∉[1,6,7,8,9,10,11]):
 Ag 18 #[A6 wb,.agg #[A0 d,A0 a,A0 z,A0 c3,tv]] w (Aj (.bool true) λw'=>A4 Aa w w'):=by
 have I:=(A4.C Aa w).ah (BF d a z c3 tv);obtain⟨o0,o1,Y,o3⟩:=Gk w d a z c3 tv;have W:=h.al I;generalize L:w.alloc (BF d a z c3 tv)=w1 at I o0 o1 Y o3 W;unfold BF at L;have c5:=W.c5;rw[E]at c5;have X:=A1 I;simp only[BX,A3H,or_false,not_or]at O;obtain⟨n1,n6,n7,n8,n9,n10,n11⟩:=O
 go_enter func18,ntmps18
 go_wp2;go_ret;exact⟨rfl,X.o⟩
end
section
variable {w:World} {wb b:Nat} {n:WN} {D:DS} {F:Nat->FC} {Ft:Nat->Prop}
def K7(wb:Nat)(Ft:Nat->Prop)(k:Nat):Prop:=k=wb\/Ft k
def VF(w:World)(h:AP w wb n)(aE:n.dv=(A6 b))(hd:AU w b D F Ft)(aF:¬Ft wb)(dirs:Int)(vt:Value)(ts:List Int)(ht:Lm w vt ts)(aH:∀ad n c x,n≠0->vt=.slice ad n c->ad=some x->¬Ft x.block)(hs:D.A5.length<1099511627776/\D.AF.length<1099511627776/\D.Aq.length<1099511627776/\∀c∈D.Aq,c.length<1099511627776)(hdi : -9223372036854775808<=dirs/\dirs<=9223372036854775807)(aG:∀t∈ts,-9223372036854775808<=t/\t<=9223372036854775807)(hF:∀f,D.Ap f->0<=(F f).2/\(F f).2<=(F f).1.length/\(F f).1.length<=1099511627776):
 Ag 43 #[A6 wb,A0 dirs,vt] w (Aj (.tuple #[]) λw'=>AP w' wb {n with sv:=.pointer none,fell:=true}/\A4 (K7 wb Ft) w w'/\
  ∃d,AU w' b (F5 D F dirs ts).1 (F5 D F dirs ts).2 d/\(∀k,d k->k<w'.heap.size)/\∀k,d k->Ft k\/w.heap.size<=k):=by
 have CR:=A1 (A12 hd dirs vt ts ht aH hs hdi aG hF);have c4:=h.c4;rw[aE]at c4;have H:=A1 h;have aK:=A1 aF
 go_enter func43,ntmps43
 go_wp2_with (fail);refine CR.m ?_;rintro e w1⟨rfl,O,E,aB,aI,aD⟩;have I:=A1 (H.o.An O aK.o);have e5:=I.o.fz 5;have e8:=I.o.fz 8;have s5:=I.o.c5;have s8:=I.o.c8;have aA:=A1 O;have aJ:=A1 aB;have Y:=A1 aI;have z:=A1 aD;go_wp2;have X:A4 (One wb) w1 ((w1.sC wb 5 (.pointer none)).sC wb 8 (.bool true)):=((A4.C (One wb) w1).aj rfl 5 _).aj rfl 8 _;have W:¬E wb:=λhx=>(z.o wb hx).elim aK.o λh=>by have:=H.o.lt;omega
 refine TS (IL rfl _ _ _) rfl ?_;refine⟨rfl,(I.o.s5 (.pointer none)).s8 true,(aA.o.ad (S':=K7 wb Ft) λ_ _ h=>.inr h).Au X (λx hx _=>.inl hx),E,aJ.o.aI λk hk=>X.Am k (Y.o k hk) (λe=>W (by cases e;exact hk)),λk hk=>by simpa using Y.o k hk,z.o⟩
def ET(a:Int):Int:=if a<0 then 1 + -((a+1).tmod 40) else 1+a % 40
def OS(a:Int):1<=ET a/\ET a<=40:=by
 unfold ET;split
 ·rw[<-PA,A3W (by omega)];omega
 ·omega
def VD(w:World)(h:AP w wb n)(Y:n.dv=(A6 b))(hd:AU w b D F Ft)(E:∀k,Ft k->k<w.heap.size)(a p c:Int)(tv:Value)(ha : -9223372036854775808<=a/\a<=9223372036854775807):
 Ag 53 #[A6 wb,.agg #[A0 11,A0 a,A0 p,A0 c,tv]] w (Aj (.tuple #[]) λw'=>Ej w Ft w' b {D with n:=ED D.n (ET a) p} F):=by
 obtain⟨a1,a2⟩:=ha;have z:=(A4.C Aa w).ah (BF 11 a p c tv);obtain⟨o0,o1,W,-⟩:=Gk w 11 a p c tv;have d:=hd.au E z;have c4:=(h.al z).c4;rw[Y]at c4;generalize aA:w.alloc (BF 11 a p c tv)=w0 at z o0 o1 W d c4;unfold BF at aA;have aB:=A1 (λx=>Tl d.aa x p);have K:Hid (∀w',Ej w0.drew Ft w' b {D with n:=ED D.n (ET a) p} F->Ej w Ft w' b {D with n:=ED D.n (ET a) p} F):=λw' h=>h.aY z.aa;have hb:=OS a;by_cases hn:a<0
 ·have e1:IntKind.i64.wrap (a+1)=a+1:=by simp[IntKind.wrap,IntKind.bits,IntKind.signed];omega
  have e2:IntKind.i64.wrap (-(a+1)) = -(a+1):=by simp[IntKind.wrap,IntKind.bits,IntKind.signed];omega
  have O:ET a=1 + -((a+1).tmod 40):=by unfold ET;rw[Ai hn]
  rw[O]at hb K ⊢;have e3:IntKind.i64.wrap (1 + -((a+1).tmod 40))=1 + -((a+1).tmod 40):=by simp[IntKind.wrap,IntKind.bits,IntKind.signed];omega
  have e4:IntKind.i64.wrap (-((a+1).tmod 40)) = -((a+1).tmod 40):=by simp[IntKind.wrap,IntKind.bits,IntKind.signed];omega
  go_enter func53,ntmps53
  go_wp2;refine Bt (λw'=>A8 w' wb 4 (A6 b)/\A8 w' w.heap.size 2 (A0 p)) 9
   (Bb [0,1,2,3,4,5,6,7,8] []) ⟨c4,W⟩ ?_
  iterate 9 (refine B1 ?_;(try simp only[Ak]))
  refine B4 ?_;simp only[Bm,Bl];go_wp2_with (fail);refine(aB.o _).mono ?_;rintro e w1⟨rfl,X⟩;have I:=A1 (K.o _ X);go_wp2;refine Jb (IL rfl _ _ _) rfl ?_;exact⟨rfl,I.o⟩
 ·have O:ET a=1+a % 40:=by unfold ET;rw[Ae hn]
  rw[O]at hb K ⊢;have e3:IntKind.i64.wrap (1+a % 40)=1+a % 40:=by simp[IntKind.wrap,IntKind.bits,IntKind.signed];omega
  have e4:IntKind.i64.wrap (a % 40)=a % 40:=by simp[IntKind.wrap,IntKind.bits,IntKind.signed];omega
  go_enter func53,ntmps53
  go_wp2;refine Bt (λw'=>A8 w' wb 4 (A6 b)/\A8 w' w.heap.size 2 (A0 p)) 9
   (Bb [0,1,2,3,4,5,6,7,8] []) ⟨c4,W⟩ ?_
  iterate 9 (refine B1 ?_;(try simp only[Ak]))
  refine B4 ?_;simp only[Bm,Bl];go_wp2_with (fail);refine(aB.o _).mono ?_;rintro e w1⟨rfl,X⟩;have I:=A1 (K.o _ X);go_wp2;refine Jb (IL rfl _ _ _) rfl ?_;exact⟨rfl,I.o⟩
def VE(w:World)(h:AP w wb n)(aQ:n.dv=(A6 b))(hd:AU w b D F Ft)(aF:∀k,Ft k->k<w.heap.size)(aJ:¬Ft wb)(X a p c:Int)(I:Option Addr)(O E:Nat)(aO:X≠11){oa:Option Addr}{ol oc:Nat}(aG:n.tv=.slice oa ol oc)(ha : -9223372036854775808<=a/\a<=9223372036854775807):
 Ag 53 #[A6 wb,.agg #[A0 X,A0 a,A0 p,A0 c,.slice I O E]] w (Aj (.tuple #[]) λw'=>AP w' wb {n with dirs:=p,tv:=.slice I O E}/\A4 (K7 wb Ft) w w'/\
  ∃z,AU w' b {D with n:={D.n with CN:=wrap64 (D.n.B8+ET a)}} F z/\(∀k,z k->k<w'.heap.size)/\∀k,z k->Ft k\/w.heap.size<=k):=by
 obtain⟨a1,a2⟩:=ha;have hA:=(A4.C Aa w).ah (BF X a p c (.slice I O E));have hbk:(X==11)=false:=Hu.2 aO;have aM:=Bf w (BF X a p c (.slice I O E));obtain⟨o0,o1,o2,-⟩:=Gk w X a p c (.slice I O E);have aH:=hd.au aF hA;have c4:=(h.al hA).c4;rw[aQ]at c4;have hW:=h.al hA;have hwl:wb<w.heap.size:=h.lt;have o4:A8 (w.alloc (BF X a p c (.slice I O E))) w.heap.size 4 (.slice I O E):=CP aM;have aP:(w.alloc (BF X a p c (.slice I O E))).heap.size=w.heap.size+1:=by simp
 generalize aR:w.alloc (BF X a p c (.slice I O E))=w0 at hA o0 o1 o2 o4 aH c4 hW aP;unfold BF at aR;have aS:=A1 (λx=>Ty aH x)
 have K:Hid (∀w',Ej w0 Ft w' b {D with n:={D.n with CN:=if ET a>0 then wrap64 (D.n.B8+ET a) else 0}} F->
  (A8 w' w.heap.size 2 (A0 p)/\A8 w' w.heap.size 4 (.slice I O E)/\AP w' wb n)/\
  (∀u,AP (u:World) wb {n with dirs:=p,tv:=.slice I O E}->A4 (One wb) w' u->(AP u wb {n with dirs:=p,tv:=.slice I O E}/\A4 (K7 wb Ft) w u/\
  ∃z,AU u b {D with n:={D.n with CN:=wrap64 (D.n.B8+ET a)}} F z/\(∀k,z k->k<u.heap.size)/\∀k,z k->Ft k\/w.heap.size<=k))):=λw' hf=>by
  obtain⟨aD,aN,aE,aK,aI⟩:=hf;rw[Ai (by have:=OS a;omega)]at aE;have hx:¬Ft w.heap.size:=λhx=>by have:=aF _ hx;omega
  have keep:∀(o:Nat) (v:Value),A8 w0 w.heap.size o v->A8 w' w.heap.size o v:=λo v hv=>Dg aD hv hx;refine⟨⟨keep 2 _ o2,keep 4 _ o4,hW.An aD aJ⟩,λu hu aB=>⟨hu,?_,aN,aE.aI λk hk=>aB.Am k (aK k hk) (λe=>?_),λk hk=>Bi (aK k hk) aB.Al,λk hk=>(aI k hk).imp id λh=>by omega⟩⟩
  ·exact((hA.ad (S':=K7 wb Ft) λ_ _ h=>h.elim).Au aD (λ_ h _=>.inr h)).Au aB λx hx _=>.inl hx
  ·cases e;(exact(aI _ hk).elim aJ λh=>by omega)
 have hb:=OS a;by_cases hn:a<0
 ·have e1:IntKind.i64.wrap (a+1)=a+1:=by simp[IntKind.wrap,IntKind.bits,IntKind.signed];omega
  have e2:IntKind.i64.wrap (-(a+1)) = -(a+1):=by simp[IntKind.wrap,IntKind.bits,IntKind.signed];omega
  have hq:ET a=1 + -((a+1).tmod 40):=by unfold ET;rw[Ai hn]
  rw[hq]at hb K ⊢;have e3:IntKind.i64.wrap (1 + -((a+1).tmod 40))=1 + -((a+1).tmod 40):=by simp[IntKind.wrap,IntKind.bits,IntKind.signed];omega
  have e4:IntKind.i64.wrap (-((a+1).tmod 40)) = -((a+1).tmod 40):=by simp[IntKind.wrap,IntKind.bits,IntKind.signed];omega
  go_enter func53,ntmps53
  go_wp2_with (fail);refine(aS.o _).mono ?_;rintro e w1⟨rfl,hf⟩;obtain⟨⟨p2,p4,d⟩,W⟩:=K.o _ hf;have Y:=A1 W;have aA:=A1 d;have s9:=d.dc;have s10:=d.dJ;rw[aG]at s10;have z9:=d.fz 12;have aL:=d.fz 13;go_wp2;refine TS (IL rfl _ _ _) rfl ?_;exact⟨rfl,Y.o _ ((aA.o.ez p).ev (.slice I O E)) (((A4.C (One wb) w1).aj rfl 12 _).aj rfl 13 _)⟩
 ·have hq:ET a=1+a % 40:=by unfold ET;rw[Ae hn]
  rw[hq]at hb K ⊢;have e3:IntKind.i64.wrap (1+a % 40)=1+a % 40:=by simp[IntKind.wrap,IntKind.bits,IntKind.signed];omega
  have e4:IntKind.i64.wrap (a % 40)=a % 40:=by simp[IntKind.wrap,IntKind.bits,IntKind.signed];omega
  go_enter func53,ntmps53
  go_wp2_with (fail);refine(aS.o _).mono ?_;rintro e w1⟨rfl,hf⟩;obtain⟨⟨p2,p4,d⟩,W⟩:=K.o _ hf;have Y:=A1 W;have aA:=A1 d;have s9:=d.dc;have s10:=d.dJ;rw[aG]at s10;have z9:=d.fz 12;have aL:=d.fz 13;go_wp2;refine TS (IL rfl _ _ _) rfl ?_;exact⟨rfl,Y.o _ ((aA.o.ez p).ev (.slice I O E)) (((A4.C (One wb) w1).aj rfl 12 _).aj rfl 13 _)⟩
end
section
variable {w w':World} {sb ab b t:Nat} {mu life win A7 o:Int} {ro:Bool} {L:Nat->List Pt} {A:Ar} {P:PD} {FT:Nat->Prop} {puts:List Pu} {Ad:Nat}
def DI.eB{W:Int×Int}(h:DI W P puts Ad o)(f:Nat)(X:P.D.Ap f):0<=(P.F f).2/\(P.F f).2<=(P.F f).1.length:=by
 have key:∀s∈Bz P,∀e∈s,0<=(P.F e.2).2/\(P.F e.2).2<=(P.F e.2).1.length:=λs E e d=>by
  obtain⟨ix,sg,cl,lo,nb,O,_⟩:=h.DH s E;have hv:vw P.F s e.1.data.toList=some (P.F e.2):=by
   unfold vw;rw[Gm];cases hk:lookup s e.1 with
   | none=>exact absurd rfl (IW.1 hk e d)
   | some g=>
    obtain⟨i,hi,I⟩:=Ep (E9 hk);obtain⟨j,hj,z⟩:=Ep d;have:i=j:=JG (h.Cd s E) (by simpa using hi) (by simpa using hj) (by simp[I,z]);subst this;rw[I]at z;rw[<-z];rfl
  exact O.E3 _ _ hv
 rcases X with⟨e,d,rfl⟩|⟨e,d,rfl⟩|⟨l,Y,e,d,rfl⟩
 ·exact key _ h.Cs e d
 ·exact key _ (BQ ..) e d
 ·exact key _ (BW _ Y) e d
def SF.bI(h:SF w sb ab b mu life win A7 ro L A P FT):∃Ft,Bu w b P Ft/\(∀k,Ft k->k<w.heap.size)/\(∀k,Ft k->FT k)/\∀(S z:Nat->Prop) (w':World) (P':PD),A4 S w w'->(∀k,FT k->S k->Ft k)->Bu w' b P' z->(∀k,z k->k<w'.heap.size)->(∀k,z k->Ft k\/w.heap.size<=k)->
 ∃X,SF w' sb ab b mu life win A7 ro L A P' X/\(∀k,X k->k<w'.heap.size)/\∀k,X k->FT k\/w.heap.size<=k:=by
 obtain⟨lv,F0,O,W⟩:=h;obtain⟨xb,jb,sv,ov,l,jo,Ft,E,Y⟩:=O.ar;refine⟨Ft,E.dk,E.lt,λk d=>W k (.inl (Y k (.inl d))),λS z w' P' hc hS d1 d2 d3=>?_⟩;have hs:Gc (Fv ab xb jb sv ov l jo) w w':=hc.au (λ_ d=>E.bE d) λk d I=>E.Dc k d (hS k (W k (.inl (Y k (.inr d)))) I)
 have hA:Cn w' ab b xb jb sv ov l jo A P' z:=⟨(hs ab (.inl rfl)).trans E.Af,(hs xb (.inr (.inl rfl))).trans E.ix,E.segs.aI λg hg=>hs g (.inr (.inr (.inl hg))),E.AR.aI λg hg=>hs g (.inr (.inr (.inr (.inl hg)))),
  E.jn.aI λk d=>hs k (.inr (.inr (.inr (.inr d)))),d1,d2,λk d I=>(d3 k I).elim (E.Dc k d) λh'=>by have:=E.bE d;omega,E.Fz,E.Gg,E.FQ⟩
 have nF:∀k,(k=sb\/EK lv k)->¬F0 k:=λk d=>by
  rcases d with rfl|d
  ·exact O.ns
  ·exact O.nr k d
 have oF:∀k,(k=sb\/EK lv k)->FT k/\k<w.heap.size:=λk d=>by
  rcases d with rfl|d
  ·exact⟨W _ (.inr (.inl rfl)),O.Af.lt⟩
  ·exact⟨W _ (.inr (.inr d)),O.DT.lt d⟩
 have nS:∀k,(k=sb\/EK lv k)->¬S k:=λk d I=>nF k d (Y k (.inl (hS k (oF k d).1 I)));have nN:∀k,(k=sb\/EK lv k)->¬(z k\/Fv ab xb jb sv ov l jo k):=λk d I=>by
  rcases I with I|I
  ·rcases d3 k I with h' | h'
   ·exact nF k d (Y k (.inl h'))
   ·have:=(oF k d).2;omega
  ·exact nF k d (Y k (.inr I))
 refine⟨λk=>(z k\/Fv ab xb jb sv ov l jo k)\/Own sb lv k,⟨lv,λk=>z k\/Fv ab xb jb sv ov l jo k,⟨O.Af.An hc (nS sb (.inl rfl)),O.DT.An hc λg hg=>nS g (.inr hg),⟨xb,jb,sv,ov,l,jo,z,hA,λk d=>d⟩,λk d=>hA.bU d,nN sb (.inl rfl),λk d=>nN k (.inr d)⟩,λk d=>d⟩,λk d=>?_,λk d=>?_⟩
 ·rcases d with d|rfl|d
  ·exact hA.bU d
  ·exact Bi O.Af.lt hc.Al
  ·exact Bi (O.DT.lt d) hc.Al
 ·rcases d with (d|d)|rfl|d
  ·exact(d3 k d).imp (λh'=>W k (.inl (Y k (.inl h')))) id
  ·exact .inl (W k (.inl (Y k (.inr d))))
  ·exact .inl (W _ (.inr (.inl rfl)))
  ·exact .inl (W _ (.inr (.inr d)))
end
end
section
open Go.RowKit
section
variable {w w':World} {H wb b t:Nat} {n n':WN} {life o:Int} {R R':Kind} {P:PD} {FT aA:Nat->Prop} {puts:List Pu} {ls:List (Value×Int)} {Ad:Nat}
def LW.dd{S:Nat->Prop}(h:LW w H wb n b life R FT puts ls)(W:A4 S w w')(O:∀k,S k->k=wb\/FT k)(hb:AP w' wb n')(e1:n'.dv=n.dv)(e2:n'.life=n.life)(Y:n'.pv=n.pv)(e4:n'.lv=n.lv)(hs:Iv R')(hd:R' w' aA)(I:∀k,aA k->k<w'.heap.size)(X:∀k,aA k->FT k\/w.heap.size<=k):A4 (Up H) w w'/\LW w' H wb n' b life R' aA puts ls:=by
 have L:∀k,FG wb n' k->FG wb n k:=λk E=>by unfold FG at E ⊢;rwa [Y,e4]at E
 have hz:=h.Al;have nP:∀g,n.pv.ownBlock=some g->¬S g:=λg z d=>(O g d).elim (λe=>h.ck (by rw[<-e];exact z)) (h.nw g (.inr (.inl z)))
 have nL:∀g,n.lv.ownBlock=some g->¬S g:=λg z d=>(O g d).elim (λe=>h.b2 (by rw[<-e];exact z)) (h.nw g (.inr (.inr z)))
 refine⟨W.ad λk _ d=>(O k d).elim (λe=>by rw[e];exact h.E2 wb (.inl rfl)) (h.Fy k),hb,e1.trans h.D8,e2.trans h.FU,hs,hd,I,?_,?_,λk E d=>?_,λk E=>h.E2 k (L k E),λk E=>(X k E).elim (h.Fy k) λd=>AQ hz d⟩
 ·rw[Y];exact Aw h.Dw λg z=>W.Am g (Ay h.Dw z) (nP g z)
 ·rw[e4];exact Aw h.EA λg z=>W.Am g (Ay h.EA z) (nL g z)
 ·rcases X k d with d|d
  ·exact h.nw k (L k E) d
  ·have:=h.cg (L k E);omega
def X7(d:PB P t)(ht:t<=200000):P.D.A5.length<1099511627776/\P.D.AF.length<1099511627776/\P.D.Aq.length<1099511627776/\∀c∈P.D.Aq,c.length<1099511627776:=by
 have h1:=d.CU.A5;have h2:=d.CU.AF;have h3:=d.CU.An;exact⟨by omega,by omega,by omega,λc h=>by have:=d.CU.FE c h;omega⟩
def TA(h:LW w H wb n b life (KD b P) FT puts ls)(I:PB P t)(z:DI (CC t) P puts Ad o)(hq:∀p∈puts,Bq p)(hl:puts.length<=t)(Y:Ad<=puts.length)(ht:t<=200000)(dirs:Int)(W:Value)(O:Ax dirs)(E:Eo H w W):
 Calls Tryz.prog 43 #[.pointer (some ⟨wb,0,none⟩),.int .i64 dirs,W] w λe w'=>e=.returned (.tuple #[])/\A4 (Up H) w w'/\∃aA P',LW w' H wb {n with sv:=.pointer none,fell:=true} b life (KD b P') aA puts ls/\Ex t P' puts Ad o true/\P'.D.n.Bh=false/\P'.D.n.AA=P.D.n.AA:=by
 obtain⟨X,k1,k2,k3⟩:=E;have d:=I.CU.Bo;refine(VF w h.Af h.D8 h.Eg (h.nw wb (.inl rfl)) dirs W X k1 (λad m c x e0 e1 e2 hx=>by have h1:=k3 ad m c x e0 e1 e2;have h2:=h.Fy _ hx;omega) (X7 I ht) O k2 (λf L=>⟨(z.eB f L).1,(z.eB f L).2,by have:=d f L;omega⟩)).mono ?_;rintro e w'⟨rfl,q1,q2,aA,q3,q4,q5⟩;obtain⟨c1,c2⟩:=Ex.aW I z hq hl Y ht dirs X;obtain⟨r1,r2⟩:=h.dd (n':={n with sv:=.pointer none,fell:=true}) (R':=KD b (P.aW dirs X)) q2 (λk hk=>hk) q1 rfl rfl rfl rfl (KD.DR _ _) q3 q4 q5;exact⟨rfl,r1,aA,_,r2,c1,c2,rfl⟩
end
section
variable {w w':World} {H wb t:Nat} {n:WN} {life:Int} {puts:List Pu} {ls:List (Value×Int)}
def Dp.eL(h:Dp t H wb life w n puts ls):∃(b Ad:Nat) (P:PD) (FT:Nat->Prop),n.AF=(Ad:Int)/\P.D.n.AA=DU n.AA/\LW w H wb n b life (KD b P) FT puts ls/\Ex t P puts Ad (AT n.CA life) n.fell:=by
 obtain⟨-,-,-,-,b,Ad,P,FT,z,E,W⟩:=h;rcases W with⟨sb,ab,ro,L,A,g1,d,I,g4,g5,O,X,-⟩|⟨g1,d,I⟩
 ·obtain⟨Ft,Y⟩:=O.bI;exact⟨b,Ad,P,Ft,z,E,Y,X.fX _⟩
 ·exact⟨b,Ad,P,FT,z,E,d,I⟩
def A1X(w:World)(dirs:Int)(E:Value)(h:Dp t H wb life w n puts ls)(O:t<=200000)(z:Ax dirs)(d:Eo H w E):
 Ag 43 #[A6 wb,A0 dirs,E] w (Aj (.tuple #[]) λw'=>A4 (Up H) w w'/\LI w' H wb life t):=by
 have hh:=h;obtain⟨X,L,h3,W,-⟩:=h;obtain⟨b,Ad,P,FT,s1,s2,s3,s4,s5,s6,s7,s8,-⟩:=hh.eL;refine(TA s3 s4 s5 s6 s7 s8 O dirs E z d).mono ?_;rintro e w'⟨rfl,I,aA,P',q2,Y,q4,q5⟩;exact⟨rfl,I,{n with sv:=.pointer none,fell:=true},puts,ls,X,L,h3.ai I,W,b,Ad,P',aA,s1,q5.trans s2,.inr ⟨rfl,q2,Y⟩⟩
end
section
variable {w w':World} {H wb t:Nat} {n:WN} {life:Int} {puts:List Pu} {ls:List (Value×Int)}
def Dp.bM{n':WN}(h:Dp t H wb life w n puts ls)(aD:n'.dv=n.dv)(aG:n'.life=n.life)(aE:n'.pv=n.pv)(aA:n'.lv=n.lv)(aB:n'.sv=n.sv)(aJ:n'.CG=n.CG)(aF:n'.fell=n.fell)(I:n'.CA=n.CA)(aH:n'.win=n.win)(W:n'.AF=n.AF)(Y:n'.AA=n.AA)(X:Ax n'.dirs):
 ∃b P Ft,LW w H wb n b life (λ_ _=>True) Ft puts ls/\Bu w b P Ft/\(∀k,Ft k->k<w.heap.size)/\(0<=P.D.n.BC/\P.D.n.BC<=9223372036854775807)/\∀(S:Nat->Prop) (z:DN) (w':World) (d:Nat->Prop),z.AA=P.D.n.AA->(0<=z.BC/\z.BC<=9223372036854775807)->z.Bj=P.D.n.Bj->z.fulls=P.D.n.fulls->z.Bh=P.D.n.Bh->
  A4 S w w'->(∀k,S k->k=wb\/Ft k)->AP w' wb n'->Eo H w' n'.tv->Bu w' b ⟨{P.D with n:=z},P.F⟩ d->(∀k,d k->k<w'.heap.size)->(∀k,d k->Ft k\/w.heap.size<=k)->A4 (Up H) w w'/\LI w' H wb life t:=by
 obtain⟨h1,h2,h3,h4,b,Ad,P,FT,h5,h6,h7⟩:=h;rcases h7 with⟨sb,ab,ro,L,A,g1,E,g3,g4,g5,O,g7,g8,g9⟩|⟨g1,E,g3⟩
 ·obtain⟨Ft,d1,d2,d3,d4⟩:=SF.bI O.Eg;have hT:Iv (λ_ _=>True):=λ_ _ _ _ _ _ _ _=>trivial;refine⟨b,P,Ft,⟨O.Af,O.D8,O.FU,hT,trivial,d2,O.Dw,O.EA,λk hk hx=>O.nw k hk (d3 k hx),O.E2,λk hk=>O.Fy k (d3 k hk)⟩,d1,d2,g7.pb.CU.BC,λS z w' d e1 e2 e3 e4 e5 hc hS hb ht q1 q2 q3=>?_⟩;obtain⟨aI,r1,r2,r3⟩:=d4 S d w' _ hc (λk hk hx=>(hS k hx).elim (λe=>by rw[e]at hk;exact absurd hk (O.nw wb (.inl rfl))) id) q1 q2 q3;obtain⟨c1,c2⟩:=O.dd (n':=n') hc (λk hx=>(hS k hx).imp id (d3 k)) hb aD aG aE aA (KS.DR sb ab b life n.win n.CA ro L A ⟨{P.D with n:=z},P.F⟩) r1 r2 r3;refine⟨c1,n',puts,ls,by rw[I];exact h1,X,ht,h4,b,Ad,⟨{P.D with n:=z},P.F⟩,aI,by rw[W];exact h5,by rw[Y,<-h6];exact e1,.inl ⟨sb,ab,ro,L,A,by rw[aB];exact g1,by rw[aJ];exact E,by rw[aF];exact g3,g4,by rw[aH];exact g5,by rw[aH,I];exact c2,by rw[I];exact g7.bM z e1 e2 e3 e4 e5,by rw[I];exact g8,g9⟩⟩
 ·have hT:Iv (λ_ _=>True):=λ_ _ _ _ _ _ _ _=>trivial;refine⟨b,P,FT,⟨E.Af,E.D8,E.FU,hT,trivial,E.lt,E.Dw,E.EA,E.nw,E.E2,E.Fy⟩,E.Eg,E.lt,g3.1.CU.BC,λS z w' d e1 e2 e3 e4 e5 hc hS hb ht q1 q2 q3=>?_⟩;obtain⟨c1,c2⟩:=E.dd (n':=n') (R':=KD b ⟨{P.D with n:=z},P.F⟩) hc hS hb aD aG aE aA (KD.DR _ _) q1 q2 q3;exact⟨c1,n',puts,ls,by rw[I];exact h1,X,ht,h4,b,Ad,⟨{P.D with n:=z},P.F⟩,d,by rw[W];exact h5,by rw[Y,<-h6];exact e1,.inr ⟨by rw[aB];exact g1,c2,by rw[I,aF];exact g3.bM z e1 e2 e3 e4 e5⟩⟩
def YL{p:Int}{d:DN}{k:Int}(h:Ax p):0<=(ED d k p).BC/\(ED d k p).BC<=9223372036854775807:=by
 obtain⟨p1,p2⟩:=h;unfold ED wrap64;dsimp only
 split<;>omega
def A1r(w:World)(a p c:Int)(tv:Value)(h:Dp t H wb life w n puts ls)(ha:Ax a)(Y:Ax p):
 Ag 53 #[A6 wb,.agg #[A0 11,A0 a,A0 p,A0 c,tv]] w (Aj (.tuple #[]) λw'=>A4 (Up H) w w'/\LI w' H wb life t):=by
 have hh:=h;obtain⟨-,I,h3,-⟩:=h;obtain⟨b,P,Ft,d,k2,W,-,k4⟩:=hh.bM (n':=n) rfl rfl rfl rfl rfl rfl rfl rfl rfl rfl rfl I;refine(VD w d.Af d.D8 k2 W a p c tv ha).mono ?_;rintro e w'⟨rfl,E,z,q2,X,q4⟩;obtain⟨L,r2⟩:=k4 Ft (ED P.D.n (ET a) p) w' z rfl (YL Y) rfl rfl rfl E (λk O=>.inr O) (d.Af.An E (d.nw wb (.inl rfl))) (h3.ai (E.ad λk _ hx=>d.Fy k hx)) q2 X q4;exact⟨rfl,L,r2⟩
def A1M(w:World)(E a p c:Int)(tv:Value)(h:Dp t H wb life w n puts ls)(I:E≠11)(ha:Ax a)(hp:Ax p)(O:Eo H w tv):
 Ag 53 #[A6 wb,.agg #[A0 E,A0 a,A0 p,A0 c,tv]] w (Aj (.tuple #[]) λw'=>A4 (Up H) w w'/\LI w' H wb life t):=by
 have hh:=h;obtain⟨-,h2,⟨ts0,⟨a0,c0,e0,-⟩,-⟩,-⟩:=h;have L:=O;obtain⟨Y,⟨X,cap,rfl,-⟩,-⟩:=O;obtain⟨b,P,Ft,d,k2,k3,k5,k4⟩:=hh.bM (n':={n with dirs:=p,tv:=.slice X Y.length cap}) rfl rfl rfl rfl rfl rfl rfl rfl rfl rfl rfl hp;refine(VE w d.Af d.D8 k2 k3 (d.nw wb (.inl rfl)) E a p c X Y.length cap I e0 ha).mono ?_;rintro e w'⟨rfl,q0,W,z,q2,q3,q4⟩;obtain⟨r1,r2⟩:=k4 (K7 wb Ft) {P.D.n with CN:=wrap64 (P.D.n.B8+ET a)} w' z rfl k5 rfl rfl rfl W (λk hk=>hk) q0 (L.ai (W.ad λk _ hx=>hx.elim (λe=>by rw[e];exact d.E2 wb (.inl rfl)) (d.Fy k))) q2 q3 q4;exact⟨rfl,r1,r2⟩
end
end
def D2(room:Int):PD:=⟨⟨[],[],[],Hb room⟩,λ_=>([],0)⟩
section
variable {room:Int} {o:Int}
def Ta:CW (CC 0) (vw (D2 room).F []) ⟨1,[]⟩ [] [] none:=by
 have d:∀nm,vw (D2 room).F [] nm=none:=λnm=>rfl;refine⟨⟨⟨by decide,by simp,by decide⟩,by simp[CC],by simp⟩,.inl ⟨rfl,rfl⟩,rfl,by simp,by simp,trivial,?_,by simp,?_,?_,?_⟩
 ·intro n l h;cases h
 ·intro n _ _ h;exact absurd (d _) h
 ·intro nm h;exact absurd (d nm) h
 ·intro nm c h;rw[d]at h;cases h
def Tb(f:Nat):¬(D2 room).D.Ap f:=λh=>by
 simp[DS.Ap,D2,Dd]at h
def A0X(hr : -4611686018427387904<=room/\room<=9223372036854775807):PB (D2 room) 0:=by
 refine⟨⟨Ce _,Ce _,?_,Ce _,λf d=>absurd d (Tb f),hr,⟨I1 _,by simp[D2,Hb]⟩⟩,λf d=>absurd d (Tb f),⟨I1 _,I1 _⟩,⟨I1 _,I1 _⟩⟩;intro l h;cases h
def Td:DI (CC 0) (D2 room) [] 0 o:=by
 have d:∀s∈Bz (D2 room),s=[]:=λs d=>by simpa[Bz,D2] using d
 refine⟨λs h=>?_,λs h=>?_,λs h=>?_,by simp[Bz,D2]⟩
 ·rw[d s h];refine⟨⟨1,[]⟩,[],[],none,0,Ta,Ao _,C6.C _ _,?_,λ_=>Ao _⟩;intro n l e;cases e
 ·rw[d s h];exact List.Pairwise.nil
 ·rw[d s h];exact List.Pairwise.nil
def A0W:Reads (CC 0) (D2 room) [] o:=Whole.bt (P:=D2 room) ⟨⟨1,[]⟩,[],[],none,Ta,Ce _,C6.C _ _⟩
def A0Z(hr : -4611686018427387904<=room/\room<=9223372036854775807):Ex 0 (D2 room) [] 0 o false:=by
 refine⟨A0X hr,Td,?_,Ao _,Ao _,.inr ⟨0,Ao _,Ao _,λ_=>rfl,?_⟩⟩
 ·intro p d;cases d
 ·intro o' n _ _ h _;obtain rfl:n=0:=by simpa using h
  exact⟨Td,A0W⟩
def Oz(room:Int)(nm:Bs):(D2 room).bs nm=none:=rfl
def Tc{room:Int}(h:0<=room/\room<=9223372036854775807):Fit (D2 room) 1 1 1:=
 ⟨by simp[D2],by simp[D2],λl d=>by simp[D2]at d,by simp[D2],λf _=>by simp[D2],by simp only[D2,Hb];omega,by simp[D2,Hb]⟩
def A0Y{room:Int}{N R:Nat}(hN:N<=4611686018427387904)(hR:(R:Int)<=room):Cm (D2 room) N R:=
 ⟨rfl,rfl,rfl,by simp only[D2,Hb];omega,by simp only[D2,Hb,AX];omega,by simp[D2],by simp[D2]⟩
def Oy(room:Int):Ar.aQ (D2 room)=.ok (⟨⟨1,[]⟩,⟨[],0,0,none⟩,0,[]⟩,[]):=by
 unfold Ar.aQ;rw[Ou (Oz room AK)];rfl
end
section
open Go.RowKit

end
section
open Go.RowKit
attribute [local go_sem ↓] Go.wp_at_zero Go.wp_at_succ
def L3(t H wb b Ad:Nat)(life A7:Int)(puts:List Pu)(ls:List (Value×Int))(d w:World):Prop:=∃n P FT,LW w H wb n b life (KD b P) FT puts ls/\n.CA=A7/\Ax n.dirs/\Eo H w n.tv/\n.AF=(Ad:Int)/\P.D.n.AA=DU n.AA/\P.D.n.Bh=false/\Ex t P puts Ad (AT A7 life) n.fell/\A4 (Up H) d w
section
variable {w w':World} {H wb b t N B:Nat} {life A7 aA:Int} {puts:List Pu} {ls:List (Value×Int)} {Ad:Nat}
def Z5(dZ:GY N)(hN:N<=200000)(w0:World)(E dirs:Int)(dd:Bool)(ta:Option Addr)(tn tc:Nat)(dJ:A8 w0 wb 4 (A6 b))(bA:A8 w0 wb 12 (A0 dirs))(a9:A8 w0 wb 13 (.slice ta tn tc))(cU:Ag 36 #[A6 b] w0 (Aj (.bool dd) λw'=>w0=w'))(b3:dd=true->Ag 43 #[A6 wb,A0 dirs,.slice ta tn tc] w0.drew (Aj (.tuple #[]) λw'=>L3 t H wb b Ad life A7 puts ls w0 w'))(b6:dd=false->L3 t H wb b Ad life A7 puts ls w0 w0)(h4:ls.length<=4*t)(ht:t+3<=200000)(hqN:puts.length+2<=N)(bH:Env B w0)(dN:B<=H)(hc:Ax A7)(aK:Ax E):
 Ag 17 #[A6 wb,A0 aA,A0 E] w0 (Aj (.bool true) λw'=>A4 (Up H) w0 w'/\LI w' H wb life t):=by
 have bN:=A1 cU;have cL:=A1 b3;have b7:=A1 b6;clear cU b3 b6
 go_enter func17,ntmps17
 cases dd
 focus
  go_wp2_with (fail);refine bN.m ?_;rintro e w⟨rfl,hw⟩;have cZ:Hid (L3 t H wb b Ad life A7 puts ls w0 w):=hw ▸ b7.o (by trivial);clear hw
 rotate_left
 focus
  go_wp2_with (fail);refine bN.m ?_;rintro e w1⟨rfl,rfl⟩;go_wp2_with (fail);refine Bt (λw'=>A8 w' wb 12 (A0 dirs)/\A8 w' wb 13 (.slice ta tn tc)) 9
   (Bb [0,1,2,3,4,5,6,7,8] []) ⟨bA,a9⟩ ?_
  iterate 9 (refine B1 ?_;(try simp only[Ak]))
  refine B4 ?_;simp only[Bm,Bl];go_wp2_with (fail);refine(cL.o (by trivial)).mono ?_;rintro e w⟨rfl,hr⟩;have cZ:=A1 hr;clear hr
 rotate_left
 all_goals
  clear bN cL b7 dJ bA a9;obtain⟨n,P,FT,h,aZ,h2,h3,aF,aI,Y,aM,k0⟩:=cZ.o;have eN:=A1 k0;have hE:Env B w:=bH.ai k0 λk z=>AQ dN z;by_cases b1:(1<=life/\life<=4611686018427387904)/\(1<=aA/\aA<=4611686018427387904)
  focus
   obtain⟨hl,hw⟩:=b1;obtain⟨hp,-,hq,hpl,-,hx⟩:=aM;obtain⟨n0,cO,aV,hall⟩:∃n0,(Ad<=n0/\n0<=puts.length)/\(n.fell=false->n0=puts.length)/\∀o' m,AT A7 life<=o'->n0<=m->m<=puts.length->C6 o' (puts.take n0) (puts.take m)->DI (CC t) P (puts.take m) Ad o'/\Reads (CC t) P (puts.take m) o':=by
    rcases hx with hx|⟨n0,q1,q2,q3,q4⟩
    ·rw[Y]at hx;cases hx
    ·exact⟨n0,⟨q1,q2⟩,q3,q4⟩
   have h0:=cO;obtain⟨aJ,aE⟩:=TM hc aK;have aL:AT A7 life<=AT (Gw A7 E) life:=M0 aE
  rotate_left
  focus
   have a7:=b1;have hp:=aM.1;obtain⟨aJ,aE⟩:=TM hc aK
  rotate_left
  all_goals
   obtain⟨w1,aU,bD,aN,aO,aQ,bL⟩:=A2E w wb n A7 E life aA h.Af aZ;have dH:Hid (0<=E->Ag 44 #[A0 A7,A0 E] w (Aj (A0 (Gw A7 E)) λw'=>w=w')):=λh0=>by
    have:=Qb A7 E w hc ⟨h0,aK.2⟩;(have e:Gw A7 E=Dv A7 E:=by unfold Gw;rw[Ai h0]);rw[e];exact this
   obtain⟨O,cT⟩:∃O,Gw A7 E=O:=⟨_,rfl⟩
  focus
   rw[cT]at aJ aL aN aQ dH;obtain⟨d0,r0⟩:=hall (AT O life) n0 aL (Ao _) h0.2 (C6.C _ _);have aT:∀p∈puts.take n0,Bq p:=λp hp=>hq p (H3 hp);(have dB:(puts.take n0).length=n0:=by rw[BI];omega)
  rotate_left
  focus
   rw[cT]at aJ aE aN aQ dH
  rotate_left
  all_goals
   have hd:AU w b P.D P.F FT:=h.Eg;have aS:=h.lt;have bF:¬FT wb:=h.nw wb (.inl rfl);have bT:=h.Af.lt;have bJ:H<=wb:=h.E2 wb (.inl rfl);have c4:=h.Af.c4;rw[h.D8]at c4;have c0:=h.Af.c0;rw[h.FU]at c0;have c10:=h.Af.bk;rw[aZ]at c10;have f10:=h.Af.fz 10;have e0:=(h.Af.cb O).c0;rw[h.FU]at e0;have a4:AU w1 b P.D P.F FT:=hd.aI λk z=>aU.Am k (aS k z) (λe=>bF (by cases e;exact z));have q0:A8 w1 w.heap.size 0 (A0 life):=CP aO;have q1:A8 w1 w.heap.size 1 (A0 aA):=CP aO;(have aG:∀k,FT k->k<w1.heap.size:=λk z=>by have:=aS k z;omega);have CF:=A1 (A2c w1 life aA)
  focus
   rw[A2d hl hw]at CF;(have bI:Env B w1:=hE.ai aU λk e=>by cases e;omega);have eQ:Hid (∀w2,A4 Aa w1 w2->Ag 46 #[A6 wb,.agg #[A0 life,A0 aA]] w2 (Aj (.tuple #[]) λw'=>A4 Aa w1 w')):=λw2 k2=>by
    refine(VT (t:=t) (q:=puts.take n0) (Ad:=Ad) dZ hN w2 (aN.al k2) h.D8 rfl (a4.au aG k2) (λk z=>Bi (aG k z) k2.Al) hp d0 r0 aT (by omega) (by omega) Y ht (by omega) (bI.aM k2) hl hw aJ).mono ?_;rintro e w'⟨rfl,h2⟩;exact⟨rfl,k2.tr h2⟩
  rotate_left
  focus
   rw[A2e a7]at CF
  rotate_left
  all_goals
   have eG:Hid (∀w3,A4 Aa w1 w3->Ag 47 #[A6 b] w3 λe w'=>∃d I,e=.returned (A6 d)/\AU w' d P.D P.F I/\(∀k,I k->w1.heap.size<=k/\k<w'.heap.size)/\A4 Aa w1 w'):=λw3 k3=>by
    refine(TE (a4.au aG k3) (hp.dV (by omega))).mono ?_;rintro e w'⟨d,I,rfl,a1,a2,a3⟩;exact⟨d,I,rfl,a1,λk z=>⟨AQ k3.Al (a2 k z).1,(a2 k z).2⟩,k3.tr a3⟩
  focus
   have dF:Hid (∀(w3:World) (d:Nat) (aX:Nat->Prop),Bu w3 d P aX->(∀k,aX k->k<w3.heap.size)->Env B w3->Ag 22 #[A6 d,.agg #[A0 life,A0 aA],A0 O] w3 λe w'=>
    ∃A ab sb L,e=.returned (.tuple #[A6 sb,A0 0])/\w3.heap.size<=sb/\(∃ps,Ar.aQ P=.ok (A,ps))/\Rel L (puts.take n0) life O/\(∀k,k<8->(L k).length<=t)/\As w3 aX w' (KS sb ab d life aA O false L A P)):=λw3 d aX g1 g2 g3=>by
    refine(RT (t:=t) (puts:=puts.take n0) (Ad:=Ad) w3 aX g1 g2 hp d0 r0 aT (by omega) (by omega) Y (by omega) g3 hl hw aJ).mono ?_;rintro e w'⟨A,ab,sb,L,rfl,k1,k2,-,k3,k4,k5⟩;exact⟨A,ab,sb,L,rfl,k1,k2,k3,k4,k5⟩
   have cN:Hid (∀(A:Ar) (L:Nat->List Pt) (m:Nat),(∃ps,Ar.aQ P=.ok (A,ps))->Rel L (puts.take n0) life O->n0<=m->m<=puts.length->F7 L (puts.take m) life O->
    Ad<=m/\m<=puts.length/\St t A P (puts.take m) Ad (AT O life) false/\Rel L (puts.take m) life O):=λA L m hA hR h1 h2 hT=>by
    obtain⟨ps,hA⟩:=hA;have dD:=hR.cB λp hp=>(aT p hp).2.1
    have hs:=QK hq h1 λk z=>(dD k z).symm.trans (hT k z)
    obtain⟨dm,rm⟩:=hall (AT O life) m aL h1 h2 hs;have b0:∀p∈puts.take m,Bq p:=λp hp=>hq p (H3 hp);(have hlm:(puts.take m).length=m:=by rw[BI];omega);obtain⟨A2,ps2,g1,g2,-,-⟩:=St.aQ hp dm rm b0 (by omega) (by omega) Y (by omega);rw[hA]at g1;cases g1;exact⟨by omega,h2,g2,Rb hR b0 hs⟩
   have dS:Hid (∀(X:World) (d sb ab:Nat) (A:Ar) (L:Nat->List Pt) (aB:Nat->Prop),(∃ps,Ar.aQ P=.ok (A,ps))->Rel L (puts.take n0) life O->(∀k,k<8->(L k).length<=t)->A4 (One wb) w X->
    AP X wb {n with CA:=O,dv:=(A6 d),sv:=(A6 sb),CG:=false,win:=aA}->KS sb ab d life aA O false L A P X aB->(∀k,aB k->k<X.heap.size)->(∀k,aB k->w.heap.size<=k)->
    Ag 52 #[A6 wb] X (Aj (.bool true) λw'=>A4 (Up H) X w'/\∃m pv,LW w' H wb {n with CA:=O,dv:=(A6 d),sv:=(A6 sb),CG:=false,win:=aA,fell:=false,pv:=pv} d life (KS sb ab d life aA O false L A P) aB (puts.take m) ls/\
     Ad<=m/\m<=puts.length/\St t A P (puts.take m) Ad (AT O life) false/\Rel L (puts.take m) life O)):=λX d sb ab A L aB hA hR bX bU hb bV aR bW=>by
    have dG:=h.ec (n':={n with CA:=O,dv:=(A6 d),sv:=(A6 sb),CG:=false,win:=aA}) bU hb rfl rfl rfl rfl (KS.DR sb ab d life aA O false L A P) bV aR bW;refine(A04 X dG rfl rfl rfl aF h0 aV (hR.cB λp hp=>(aT p hp).2.1) (by omega) (λp hp=>(hq p hp).2.1) (λk z=>by have:=bX k z;omega) hl aJ).mono ?_;rintro e w'⟨rfl,g1,m,pv,g2,g3,g4,g5⟩;exact⟨rfl,g1,m,pv,g5,cN.o A L m hA hR g2 g3 g4⟩
  rotate_left
  focus
   have dU:Hid (∀(X:World) (d:Nat) (aB:Nat->Prop),A4 (One wb) w X->AP X wb {n with CA:=O,dv:=(A6 d),sv:=.pointer none}->KD d P X aB->(∀k,aB k->k<X.heap.size)->(∀k,aB k->w.heap.size<=k)->
    LW X H wb {n with CA:=O,dv:=(A6 d),sv:=.pointer none} d life (KD d P) aB puts ls):=λX d aB bU hb bV aR bW=>h.ec bU hb rfl rfl rfl rfl (KD.DR d P) bV aR bW
  rotate_left
  all_goals
   obtain⟨rf,bO⟩:∃rf,P.D.n.Bj=rf:=⟨_,rfl⟩;obtain⟨fu,bM⟩:∃fu,P.D.n.fulls=fu:=⟨_,rfl⟩;have b5:=A1 bO;have eE:=A1 bM;have cG:=h.D8;have bP:=A1 aN;have b4:=A1 aU
  focus
   have dV:=A1 bI
  rotate_left;rotate_left
  all_goals
   have aD:Hid (w1.heap.size=w.heap.size+1/\wb<w.heap.size/\H<=wb):=⟨bD,bT,bJ⟩;have dR:=A1 aQ;have dM:=A1 bL;have cE:Hid (A4 (Up H) w0 w/\Ax n.dirs/\Eo H w n.tv/\ls.length<=4*t/\n.AF=(Ad:Int)/\P.D.n.AA=DU n.AA):=⟨k0,h2,h3,h4,aF,aI⟩;have eL:=A1 aJ
  focus
   clear hall aT dB hd aS a4 aG bF d0 r0 h hp hE bD bT bJ aN aU bI aO aQ bL hq aV h0 cN Y bO bM aL aE eN cZ bH k0 h2 h3 aF aI aZ hx cO h4
  rotate_left
  focus
   have eC:=A1 (aM.ba (M0 aE));clear hd aS a4 aG bF h hp bD bT bJ aN aU aO aQ bL Y bO bM aE hE bH k0 h2 h3 aF aI aZ h4 cZ aM
  rotate_left
  all_goals
   by_cases aK:0<=E
   focus
    have eA:=dH.o aK;go_wp2_with (go_at_call 44;refine eA.mono ?_;rintro e w1⟨rfl,rfl⟩);rw[dR.o aK]
   rotate_left
   focus
    go_wp2_with (fail);rw[dM.o aK]
  all_goals
   refine CF.m ?_;rintro e w2⟨rfl,k2⟩
  iterate 2
   focus
    have dA:=A1 (eQ.o w2 k2);have r0:=k2.ag q0;have r1:=k2.ag q1;go_wp2_with (fail);refine dA.m ?_;rintro e w3⟨rfl,k3⟩;have t4:=(bP.o.al k3).c4;dsimp only at t4;rw[cG]at t4;have cQ:=A1 (eG.o w3 k3)
   rotate_left
  iterate 2
   focus
    have t4:=(bP.o.al k2).c4;dsimp only at t4;rw[cG]at t4;have cQ:=A1 (eG.o w2 k2)
   rotate_left
  all_goals
   go_wp2_with (fail);refine cQ.m ?_;rintro e w4⟨d,I,rfl,dT,a0,k4⟩;have bB:=bP.o.al k4;have t4':=bB.c4;have z4:=bB.fz 4;(have cJ:¬I wb:=λhx=>by have:=(a0 wb hx).1;have:=aD.o;omega);have cM:=(A4.C (One wb) w4).aj (b:=wb) rfl 4 (A6 d);have b9:=bB.s4 (A6 d);(have a8:∀k,I k->k<(w4.setCell (A9 wb 4) (A6 d)).heap.size:=λk z=>by simpa using(a0 k z).2);have bY:AU (w4.setCell (A9 wb 4) (A6 d)) d P.D P.F I:=dT.aI λk z=>cM.Am k (a0 k z).2 (λe=>cJ (by cases e;exact z));have eK:Hid (A4 (One wb) w1 (w4.setCell (A9 wb 4) (A6 d))):=(k4.ad (S':=One wb) λ_ _ h=>h.elim).tr cM;have cP:=A1 (Su _ b9 rfl bY a8);have bS:=A1 b9;have cB:=A1 bY;have cH:Hid (∀k,I k->w1.heap.size<=k):=λk z=>(a0 k z).1
   have a5:=A1 a8;have x0:=k4.ag q0;have x1:=k4.ag q1;(have hwne:wb≠w.heap.size:=by have:=aD.o;omega);have y0:A8 (w4.setCell (A9 wb 4) (A6 d)) w.heap.size 0 (A0 life):=(Gy _ _ _ _ (by simp;try omega)).trans x0;have y1:A8 (w4.setCell (A9 wb 4) (A6 d)) w.heap.size 1 (A0 aA):=(Gy _ _ _ _ (by simp;try omega)).trans x1;rw[b5.o,eE.o]at cP;go_wp2_with (fail);generalize (w4.setCell (A9 wb 4) (A6 d))=w5 at eK cP bS cB a5 y0 y1 ⊢;refine cP.m ?_;rintro e w6⟨rfl,k6⟩;have v4:A8 (w6.alloc (.cells #[A0 rf,A0 fu] 85)) wb 4 (A6 d):=(bS.o.al (k6.ah _)).c4;go_wp2_with (fail);have k7:A4 Aa w5 (w6.alloc (.cells #[A0 rf,A0 fu] 85)):=k6.ah _;have aO:=Bf w6 (.cells #[A0 rf,A0 fu] 85);have m0:A8 (w6.alloc (.cells #[A0 rf,A0 fu] 85)) w6.heap.size 0 (A0 rf):=CP aO;(have cF:Hid ((w6.alloc (.cells #[A0 rf,A0 fu] 85)).heap.size=w6.heap.size+1):=by simp[Hid]);generalize w6.alloc (.cells #[A0 rf,A0 fu] 85)=w7 at k7 m0 cF ⊢;have cY:=A1 (bS.o.al k7);have dL:=A1 (cB.o.au a5.o k7);have dX:Hid (∀k,I k->k<w7.heap.size):=λk z=>Bi (a5.o k z) k7.Al;have cV:Hid (A4 (One wb) w1 w7):=eK.o.Au k7 λ_ h _=>h.elim;have eO:Hid (∀k,I k->k<w6.heap.size):=λk z=>Bi (a5.o k z) k6.Al;have p0:=k7.ag y0;have p1:=k7.ag y1;have p4:A8 w7 wb 4 (A6 d):=cY.o.c4;have bE:A8 w7 wb 10 (A0 O):=cY.o.bk;have bR:=A1 (P5 dL.o)
  iterate 2
   focus
    generalize bC:P.D.n.B8=cn at bR;refine bR.m ?_;rintro e w8⟨rfl,rfl⟩;go_wp2_with (fail);have eI:=A1 (dF.o w7.drew d I dL.o.aa dX.o ((dV.o.ai cV.o λk e=>by cases e;have:=aD.o;omega).aM (A4.C Aa w7).aa))
   rotate_left
  iterate 2
   focus
    obtain⟨cn,bC⟩:∃cn,P.D.n.B8=cn:=⟨_,rfl⟩;rw[bC]at bR;have dK:=A1 bC;refine bR.m ?_;rintro e w8⟨rfl,rfl⟩;go_wp2_with (fail)
    have eI:=A1 (Z6 w7.drew life aA O (some (A9 d 0)) (by
     by_cases h1:1<=life/\life<=4611686018427387904
     ·exact .inr λh2=>a7 ⟨h1,h2⟩
     ·exact .inl h1))
   rotate_left
  all_goals
   refine Bt (λw'=>A8 w' wb 4 (A6 d)/\A8 w' w.heap.size 0 (A0 life)/\A8 w' w.heap.size 1 (A0 aA)/\A8 w' wb 10 (A0 O)) 14
    (Bb [0,1,2,3,4,5,6,7,8,9,10,11,12,13] [9]) ⟨p4,p0,p1,bE⟩ ?_
   iterate 9 (refine B1 ?_;(try simp only[Ak]))
   refine Bd λK hK=>?_;go_simp;refine eI.m ?_
  iterate 2
   focus
    rintro e w8⟨A,ab,sb,L,rfl,hsb,hA,hR,bX,W,aH,hV,cS,dI⟩;have dY:=cV.o.Al;have hz7:=cF.o;have a6:∀k,I k->w1.heap.size<=k:=cH.o;(have bG:¬I wb:=λhx=>by have:=a6 wb hx;have:=aD.o;omega);(have b8:¬I w.heap.size:=λhx=>by have:=a6 _ hx;have:=aD.o;omega);(have dE:¬I w6.heap.size:=λhx=>by have:=eO.o _ hx;omega);refine hK _ _ ⟨Dg W p4 bG,Dg W p0 b8,Dg W p1 b8,Dg W bE bG⟩ (λhS=>?_);have k8:A4 I w7 w8:=(A4.C I w7).aa.tr W;have aP:=A1 (cY.o.An k8 bG);(have dQ:Hid (A4 (One wb) w1 w8):=cV.o.Au k8 λx hx aS=>by have:=a6 x hx;omega);have m8:=Dg k8 m0 dE;have eJ:Hid (∀k,aH k->w1.heap.size<=k):=λk z=>(dI k z).elim (a6 k) λh=>AQ dY h
    have cP:Hid (wb≠w6.heap.size):=λe=>by
     have:=aD.o;omega
    have s4:A8 w8 wb 4 (A6 d):=aP.o.c4;have s5:=aP.o.c5;have s9:=aP.o.c9;have s11:=aP.o.ds;have z5:=aP.o.fz 5;have z9:=aP.o.fz 9;have eD:=aP.o.fz 11;have mk:=cP.o;have eT:=A1 hV;have cA:=A1 cS;have eP:=A1 hA;have eV:=A1 hR;have cD:=A1 bX
    (try simp only[Ak])
    iterate 4 (refine B1 ?_;(try simp only[Ak]))
    refine B4 ?_;simp only[Bm,Bl];go_wp2_with (fail);have aW:=A1 (aP.o.s5 (.pointer none));have bK:=(A4.C (One wb) w8).aj (b:=wb) rfl 5 (.pointer none);(have eH:Hid (¬aH wb):=λhx=>by have:=eJ.o wb hx;have:=aD.o;omega);have eB:=A1 (KS.DR sb ab d life aA O false L A P _ _ _ _ eT.o cA.o bK λk z e=>eH.o (by cases e;exact z));(have bZ:Hid (∀k,aH k->k<(w8.setCell (A9 wb 5) (.pointer none)).heap.size):=λk z=>by simpa using cA.o k z);have cX:Hid (A4 (One wb) w1 (w8.setCell (A9 wb 5) (.pointer none))):=dQ.o.aj rfl 5 _;have g4:A8 (w8.setCell (A9 wb 5) (.pointer none)) wb 4 (A6 d):=aW.o.c4;have gm:A8 (w8.setCell (A9 wb 5) (.pointer none)) w6.heap.size 0 (A0 rf):=(Gy _ _ _ _ (by simp;try omega)).trans m8;generalize w8.setCell (A9 wb 5) (.pointer none)=w9 at aW eB cX bZ g4 gm ⊢;have eU:Hid (Ag 50 #[A6 d] w9.drew (Aj (A0 rf) λw'=>w9.drew=w')):=by
     obtain⟨Ft9,dP,-⟩:=SF.dk eB.o;have:=NJ (AU.aa dP)
     rwa [b5.o]at this
    refine Bt (λw'=>A8 w' wb 4 (A6 d)/\A8 w' w6.heap.size 0 (A0 rf)) 7
     (Bb [0,1,2,3,5,6,4] [4]) ⟨g4,gm⟩ ?_
    iterate 6 (refine B1 ?_;(try simp only[Ak]))
    refine Bd λK hK=>?_;go_simp;refine eU.m ?_;rintro e w10⟨rfl,rfl⟩;refine hK _ _ ⟨g4,gm⟩ (λhS=>?_)
    (try simp only[Ak])
    refine B4 ?_;simp only[Bm,Bl];have s5:=aW.o.c5;have s9:=aW.o.c9;have s11:=aW.o.ds;have z5:=aW.o.fz 5;have z9:=aW.o.fz 9;have eD:=aW.o.fz 11;go_wp2_with (fail);have dW:=((aW.o.s5 (A6 sb)).s9 false).eO aA;have aY:A4 (One wb) w9 (((w9.setCell (A9 wb 5) (A6 sb)).setCell (A9 wb 9) (.bool false)).setCell (A9 wb 11) (A0 aA)).drew:=((((A4.C (One wb) w9).aj rfl 5 _).aj rfl 9 _).aj rfl 11 _).aa;have dC:=KS.DR sb ab d life aA O false L A P _ _ _ _ eB.o bZ.o aY λk z e=>eH.o (by cases e;exact z);have bQ:∀k,aH k->k<(((w9.setCell (A9 wb 5) (A6 sb)).setCell (A9 wb 9) (.bool false)).setCell (A9 wb 11) (A0 aA)).drew.heap.size:=λk z=>Bi (bZ.o k z) aY.Al;have cC:Hid (A4 (One wb) w (((w9.setCell (A9 wb 5) (A6 sb)).setCell (A9 wb 9) (.bool false)).setCell (A9 wb 11) (A0 aA)).drew):=(b4.o.tr cX.o).tr aY;have eS:=A1 (dS.o _ d sb ab A L aH eP.o eV.o cD.o cC.o dW dC bQ λk z=>by have:=eJ.o k z;have:=aD.o;omega);refine eS.m ?_;rintro e cI⟨rfl,h1,m,pv,h2,h3,h4,h5,h6⟩
    have dO:Hid (A4 (Up H) w cI/\LW cI H wb {n with CA:=O,dv:=(A6 d),sv:=(A6 sb),CG:=false,win:=aA,fell:=false,pv:=pv} d life (KS sb ab d life aA O false L A P) aH (puts.take m) ls/\
     Ad<=m/\m<=puts.length/\St t A P (puts.take m) Ad (AT O life) false/\Rel L (puts.take m) life O):=
     ⟨(cC.o.ad (S':=Up H) λx _ e=>by cases e;exact aD.o.2.2).tr h1,h2,h3,h4,h5,h6⟩
    go_wp2;go_ret;obtain⟨f1,f2,f3,f4,f5,f6⟩:=dO.o;obtain⟨l1,l2,l3,l4,l5,l6⟩:=cE.o;exact⟨rfl,l1.tr f1,{n with CA:=O,dv:=(A6 d),sv:=(A6 sb),CG:=false,win:=aA,fell:=false,pv:=pv},puts.take m,ls,eL.o,l2,l3.ai f1,l4,d,Ad,P,aH,l5,l6,.inl ⟨sb,ab,false,L,A,rfl,rfl,rfl,hl,hw,f2,f5,f6,cD.o⟩⟩
  iterate 2
   focus
    rintro e w8⟨rfl,W⟩;refine hK _ _ ⟨W.ag p4,W.ag p0,W.ag p1,W.ag bE⟩ (λhS=>?_);have k8:A4 Aa w7 w8:=⟨W.os,W.DC,W.DE,W.Al,W.Am⟩;have aP:=A1 (cY.o.al k8);have dQ:Hid (A4 (One wb) w1 w8):=cV.o.Au k8 λ_ h _=>h.elim;have eR:=A1 (dL.o.au dX.o k8);have eM:Hid (¬I wb):=cJ;have cA:Hid (∀k,I k->k<w8.heap.size):=λk z=>Bi (dX.o k z) k8.Al;have s4:A8 w8 wb 4 (A6 d):=aP.o.c4;have s5:=aP.o.c5;have z5:=aP.o.fz 5
    (try simp only[Ak])
    iterate 4 (refine B1 ?_;(try simp only[Ak]))
    refine B4 ?_;simp only[Bm,Bl];have bK:=(A4.C (One wb) w8).aj (b:=wb) rfl 5 (.pointer none);have aW:=A1 (aP.o.s5 (.pointer none));have eF:Hid (AU (w8.setCell (A9 wb 5) (.pointer none)) d P.D P.F I):=eR.o.aI λk z=>bK.Am k (cA.o k z) (λe=>eM.o (by cases e;exact z));(have bZ:Hid (∀k,I k->k<(w8.setCell (A9 wb 5) (.pointer none)).heap.size):=λk z=>by simpa using cA.o k z);have cX:Hid (A4 (One wb) w1 (w8.setCell (A9 wb 5) (.pointer none))):=dQ.o.aj rfl 5 _;have bR:=A1 (P5 eF.o);rw[dK.o]at bR;go_wp2_with (go_at_call 49;refine bR.m ?_;rintro e w8⟨rfl,rfl⟩);go_ret;have z:A4 (One wb) w (w8.setCell (A9 wb 5) (.pointer none)):=b4.o.tr cX.o;obtain⟨l1,l2,l3,l4,l5,l6⟩:=cE.o;(have f1:A4 (Up H) w (w8.setCell (A9 wb 5) (.pointer none)):=z.ad λx _ e=>by cases e;exact aD.o.2.2);exact⟨rfl,l1.tr f1,{n with CA:=O,dv:=(A6 d),sv:=.pointer none},puts,ls,eL.o,l2,l3.ai f1,l4,d,Ad,P,I,l5,l6,.inr ⟨rfl,dU.o _ d I z aW.o eF.o bZ.o (λk z=>by have:=cH.o k z;have:=aD.o;omega),eC.o⟩⟩
end
section
variable {w:World} {H wb t N B:Nat} {life:Int} {n:WN} {puts:List Pu} {ls:List (Value×Int)}
def NZ(aB:GY N)(hN:N<=200000)(w:World)(aA d:Int)(h:Dp t H wb life w n puts ls)(ht:t+3<=200000)(htN:t+2<=N)(hE:Env B w)(aD:B<=H)(W:Ax d):
 Ag 17 #[A6 wb,A0 aA,A0 d] w (Aj (.bool true) λw'=>A4 (Up H) w w'/\LI w' H wb life t):=by
 have hh:=h;obtain⟨h1,L,h3,h4,-⟩:=h;obtain⟨b,Ad,P,FT,s1,s2,s3,s4⟩:=hh.eL;have aE:=s4;obtain⟨k1,k2,k3,k4,k5,-⟩:=s4;have z:=h3;obtain⟨ts,⟨Y,X,et,-⟩,-⟩:=h3;have c4:=s3.Af.c4;rw[s3.D8]at c4;have c13:=s3.Af.dJ;rw[et]at c13;have E:A4 Aa w w.drew:=(A4.C Aa w).aa;have CR:P.D.n.Bh=true->Ag 43 #[A6 wb,A0 n.dirs,.slice Y ts.length X] w.drew (Aj (.tuple #[]) λw'=>L3 t H wb b Ad life n.CA puts ls w w'):=λ_=>by
  refine(TA (s3.al E) k1 k2 k3 k4 k5 (by omega) n.dirs (.slice Y ts.length X) L (by rw[<-et];exact z.ai (E.ad λ_ _ h=>h.elim))).mono ?_;rintro e w'⟨rfl,q1,O,P',q2,q3,q4,q5⟩;have I:A4 (Up H) w w':=(E.ad (S':=Up H) λ_ _ h=>h.elim).tr q1;exact⟨rfl,{n with sv:=.pointer none,fell:=true},P',O,q2,rfl,L,z.ai I,s1,q5.trans s2,q4,q3,I⟩
 have aF:P.D.n.Bh=false->L3 t H wb b Ad life n.CA puts ls w w:=λhd=>⟨n,P,FT,s3,rfl,L,z,s1,s2,hd,aE,A4.C _ _⟩
 exact Z5 aB hN w d n.dirs P.D.n.Bh Y ts.length X c4 s3.Af.dc c13 (Ts s3.Eg) CR aF h4 ht (by omega) hE aD h1 W
end
end
end Go.Proofs.YtodcnkbblippnaaGreatDoor
