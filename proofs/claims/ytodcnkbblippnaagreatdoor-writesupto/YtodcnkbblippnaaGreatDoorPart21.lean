/- Part 21 of a proof: walks of the program. -/
import Derived.Test.YtodcnkbblippnaaGreatDoorPart20
namespace Go.Proofs.YtodcnkbblippnaaGreatDoor
set_option maxRecDepth 100000
set_option maxHeartbeats 32000000
set_option linter.defProp false
open Go.Proofs.Tryz
section
open Go.RowKit
attribute [local go_sem ↓] Go.wp_at_zero Go.wp_at_succ
def PB.dV{P:PD}{t:Nat}(h:PB P t)(ht:t<=200000):V0 P.D P.F:=
 ⟨400000*(t+1),by omega,h.Ap,by have:=h.CU.A5;omega,by have:=h.CU.AF;omega,λl z=>by have:=h.CU.FE l z;omega,by have:=h.CU.An;omega,λf d=>by have:=h.CU.Bo f d;omega⟩
def Dg{S:Nat->Prop}{w w':World}(E:A4 S w w'){x o:Nat}{u:Value}(h:A8 w x o u)(d:¬S x):A8 w' x o u:=by
 have z:=Gz w _ h;exact(Dy (E.Am x z d)).trans h
def As.bY{w w':World}{Ft:Nat->Prop}{R z:World->(Nat->Prop)->Prop}(h:As w Ft w' R)(L:∀d,R w' d->z w' d):As w Ft w' z:=by
 obtain⟨I,F,E,O⟩:=h;exact⟨I,F,L F E,O⟩
def Live(t M sb ab b:Nat)(life win A7:Int):Kind:=λw FT=>∃d L A P q Ad,SF w sb ab b 0 life win A7 d L A P FT/\(d=false->St t A P q Ad (AT A7 life) false/\(∀k,k<8->(L k).length<=t)/\q.length<=M)
section
variable {w:World} {t M N B sb ab b:Nat} {life win A7:Int} {FT:Nat->Prop}
def ZN(w:World)(p:Pu)(h:Live t M sb ab b life win A7 w FT)(d:∀k,FT k->k<w.heap.size)(Y:t+1<=200000)(O:Bq p)(hL:Lets B w)(W:∀k,FT k->B<=k)(hl:1<=life/\life<=4611686018427387904)(hc:Ax A7):
 Ag 23 #[A6 sb,A0 p.1,A0 p.2.1,A0 p.2.2] w λe w'=>(∃c,e=.returned (A0 c))/\As w FT w' (Live (t+1) (M+1) sb ab b life win A7):=by
 obtain⟨ro,L,A,P,q,Ad,h1,h2⟩:=h;cases ro with
 | true=>
  refine(Rt w p.1 p.2.1 p.2.2 h1 d O.1).mono ?_;rintro e w'⟨rfl,X⟩;exact⟨⟨_,rfl⟩,X.bY λF E=>⟨true,L,A,P,q,Ad,E,λe=>by cases e⟩⟩
 | false=>
  obtain⟨hS,hk,hq⟩:=h2 rfl;obtain⟨-,-,-,-,-,a6,-⟩:=hS.af Y p O;refine(Rr w p h1 d hS Y O hL W hk hl hc).mono ?_;rintro e w'⟨rfl,X⟩;refine⟨⟨_,rfl⟩,X.bY λF E=>⟨_,_,_,_,q++[p],Ad,E,λe=>?_⟩⟩;have z:(A.af P p).2.1=0:=by
   by_cases z:(A.af P p).2.1=0
   ·exact z
   ·rw[Ct z]at e;cases e
  obtain⟨b1,b2⟩:=a6 z;refine⟨b2,λk I=>?_,by simp;omega⟩;rw[Ai b1];have:=Oh L (AT A7 life) p.1.toNat p.2.1 p.2.2 k;have:=hk k I;omega
def ZO(O:GY N)(hN:N<=200000)(w:World)(h:Live t M sb ab b life win A7 w FT)(d:∀k,FT k->k<w.heap.size)(Y:t+1<=200000)(hM:M<=N)(hw:1<=win/\win<=4611686018427387904)(hL:Lets B w)(W:∀k,FT k->B<=k):
 Ag 24 #[A6 sb] w λe w'=>(∃c,e=.returned (A0 c))/\As w FT w' (Live (t+1) M sb ab b life win A7):=by
 obtain⟨ro,L,A,P,q,Ad,h1,h2⟩:=h;cases ro with
 | true=>
  refine(A08 w h1 d).mono ?_;rintro e w'⟨rfl,X⟩;exact⟨⟨_,rfl⟩,X.bY λF E=>⟨true,L,A,P,q,Ad,E,λe=>by cases e⟩⟩
 | false=>
  obtain⟨hS,hk,hq⟩:=h2 rfl;obtain⟨-,-,-,-,a5⟩:=hS.aO (GI win) Y;refine(A06 O hN w h1 d hS Y (by omega) hw hL W).mono ?_;rintro e w'⟨rfl,X⟩;refine⟨⟨_,rfl⟩,X.bY λF E=>⟨_,_,_,_,q,q.length,E,λe=>?_⟩⟩;have z:(A.aO P win).1=0:=by
   by_cases z:(A.aO P win).1=0
   ·exact z
   ·rw[Ct z]at e;cases e
  exact⟨a5 z,λk I=>by have:=hk k I;omega,hq⟩
end
def PD.bW(P:PD):PD:=⟨{P.D with n:=ED {P.D.n with CN:=if (0:Int)>0 then wrap64 (P.D.n.B8+0) else 0} 0 0},P.F⟩
section
variable {wb b t N B:Nat} {n:WN} {P:PD} {Ft:Nat->Prop} {life aA A7:Int} {q:List Pu} {Ad:Nat}
def VT(b9:GY N)(hN:N<=200000)(w:World)(h:AP w wb n)(b3:n.dv=(A6 b))(bH:n.CA=A7)(hd:Bu w b P Ft)(bI:∀k,Ft k->k<w.heap.size)(hp:PB P t)(X:DI (CC t) P q Ad (AT A7 life))(hr:Reads (CC t) P q (AT A7 life))(hq:∀p∈q,Bq p)(bW:q.length<=t)(bS:Ad<=q.length)(aG:P.D.n.Bh=false)(ht:t+3<=200000)(bT:q.length+2<=N)(hE:Env B w)(hl:1<=life/\life<=4611686018427387904)(hw:1<=aA/\aA<=4611686018427387904)(hc:Ax A7):
 Ag 46 #[A6 wb,.agg #[A0 life,A0 aA]] w (Aj (.tuple #[]) λw'=>A4 Aa w w'):=by
 have hA:=(A4.C Aa w).ah (.cells #[A0 life,A0 aA] 48);have aI:=Bf w (.cells #[A0 life,A0 aA] 48);have bK:(w.alloc (.cells #[A0 life,A0 aA] 48)).heap.size=w.heap.size+1:=by simp
 generalize hw0:(w.alloc (.cells #[A0 life,A0 aA] 48))=w0 at hA aI bK;have aN:Hid (w.heap.size<w0.heap.size/\wb<w0.heap.size):=⟨by omega,by have:=h.lt;omega⟩;have q0:A8 w0 w.heap.size 0 (A0 life):=CP aI;have q1:A8 w0 w.heap.size 1 (A0 aA):=CP aI;have c4:=(h.al hA).c4;rw[b3]at c4;have cH:=A1 (TE (AU.au hd bI hA) (hp.dV (by omega)));have H:=A1 h;have aY:=A1 hE;have aF:=A1 hA
 have bG:Hid (∀(E:World) (I:Nat) (z:Nat->Prop),Bu E I P.bW z->(∀k,z k->k<E.heap.size)->Env B E->Ag 22 #[A6 I,.agg #[A0 life,A0 aA],A0 A7] E λe w'=>
  ∃ab sb,e=.returned (.tuple #[A6 sb,A0 0])/\E.heap.size<=sb/\As E z w' (Live t q.length sb ab I life aA A7)):=λE I z g1 g2 g3=>by
  have b7:PB P.bW t:=hp.bM _ rfl ⟨by simp[ED],by simp[ED]⟩ rfl rfl;refine(RT (t:=t) (puts:=q) (Ad:=Ad) E z g1 g2 b7 ⟨X.DH,X.Ap,X.Cd,X.Cs⟩ (hr.au λ_=>rfl) hq bW bS aG (by omega) g3 hl hw hc).mono ?_;rintro e w'⟨A,ab,sb,L,rfl,k1,-,k2,k3,k4,k5⟩;exact⟨ab,sb,rfl,k1,k5.bY λF k6=>⟨false,L,A,_,q,Ad,k6,λ_=>⟨k2,k4,Ao _⟩⟩⟩
 have a7:Hid (∀(W:World) (sb ab I t' M:Nat) (FT:Nat->Prop) (p:Pu),Bq p->t'+1<=200000->Live t' M sb ab I life aA A7 W FT->(∀k,FT k->k<W.heap.size)->Lets B W->(∀k,FT k->B<=k)->
  Ag 23 #[A6 sb,A0 p.1,A0 p.2.1,A0 p.2.2] W λe w'=>(∃c,e=.returned (A0 c))/\As W FT w' (Live (t'+1) (M+1) sb ab I life aA A7)):=λW sb ab I t' M FT p g1 g2 g3 g4 g5 g6=>ZN W p g3 g4 g2 g1 g5 g6 hl hc
 have cB:Bq ((0:Int),A7,(4626322:Int)):=⟨⟨by simp,by simp⟩,hc,(show Ax 4626322 from ⟨by decide,by decide⟩)⟩;have a9:Bq ((7:Int),(0:Int),(4626322:Int)):=⟨⟨by simp,by simp⟩,(show Ax 0 from ⟨by decide,by decide⟩),(show Ax 4626322 from ⟨by decide,by decide⟩)⟩;have cC:=A1 cB;have bX:=A1 a9;have b6:=A1 ht;have cD:=A1 bT;have bL:=A1 hN;have bY:=A1 hw
 go_enter func46,ntmps46
 go_wp2_with (first
  | (go_at_call 47;refine cH.m ?_;rintro e w1⟨I,Ft2,rfl,bV,aT,bO⟩;have bA:=A1 bV;have aB:=A1 aT;have aW:=A1 bO)
  | (go_at_call 35;refine(Ty bA.o 0).mono ?_;rintro e w2⟨rfl,aZ,bB,aR,aX,aO⟩
     have bJ:=A1 aR;have a8:Hid (∀k,bB k->w0.heap.size<=k/\k<w2.heap.size):=λk d=>⟨(aO k d).elim (λh=>(aB.o k h).1) (λh=>AQ aW.o.Al h),aX k d⟩
     have aU:Hid (A4 Aa w0 w2):=aW.o.bQ aZ (λx hx=>(aB.o x hx).1)
     clear aZ aR aX aO)
  | (go_at_call 78;refine(Tl bJ.o 0 0).mono ?_;rintro e E⟨rfl,aV,z,a5,a2,a1⟩
     have bE:Hid (Bu E I P.bW z):=a5;have aJ:Hid (∀k,z k->w0.heap.size<=k/\k<E.heap.size):=λk d=>⟨(a1 k d).elim (λh=>(a8.o k h).1) (λh=>AQ aU.o.Al h),a2 k d⟩
     have O:Hid (A4 Aa w0 E):=aU.o.bQ aV (λx hx=>(a8.o x hx).1)
     clear aV a5 a2 a1))
 have d0:=O.o.ag q0;have d1:=O.o.ag q1;have d10:=(H.o.al (aF.o.tr O.o)).bk;rw[bH]at d10;have bF:Bu E.drew I P.bW z:=AU.au bE.o (λk d=>(aJ.o k d).2) (A4.C Aa E).aa;have cI:=A1 (bG.o E.drew I z bF (λk d=>(aJ.o k d).2) ((aY.o.aM aF.o).aM (O.o.Au (A4.C Aa E).aa λ_ h _=>h)));refine Bt (λw'=>A8 w' w.heap.size 0 (A0 life)/\A8 w' w.heap.size 1 (A0 aA)/\A8 w' wb 10 (A0 A7)) 11
  (Bb [0,1,2,3,4,5,6,7,8,9,10] [6]) ⟨d0,d1,d10⟩ ?_
 iterate 6 (refine B1 ?_;(try simp only[Ak]))
 refine Bd λK hK=>?_;go_simp;refine cI.m ?_;rintro e W⟨ab,sb,rfl,hsb,hI⟩;have aM:B<=w0.heap.size:=AQ aY.o.1.1 aF.o.Al;have aL:Hid (∀k,z k->w0.heap.size<=k):=λk d=>(aJ.o k d).1
 obtain⟨Y,a3,bM,a4,bN⟩:=hI;have aE:Hid (∀k,a3 k->w0.heap.size<=k):=λk d=>(bN k d).elim (aL.o k) λh=>AQ O.o.Al h
 have aK:Hid (A4 Aa w0 W):=(O.o.Au (A4.C Aa E).aa λ_ h _=>h).bQ Y aL.o;have ff:∀x,x<w0.heap.size->¬z x:=λx hx d=>by have:=aL.o x d;omega
 have x0:=Dg Y d0 (ff _ aN.o.1);have x1:=Dg Y d1 (ff _ aN.o.1);have bQ:=Dg Y d10 (ff _ aN.o.2);refine hK _ _ ⟨x0,x1,bQ⟩ (λhS=>?_);have bZ:Hid (Env B W):=(aY.o.aM aF.o).aM aK.o;have cF:=A1 (a7.o W sb ab I t q.length a3 _ cC.o (by have:=b6.o;omega) bM a4 bZ.o.1 λk d=>AQ aM (aE.o k d))
 (try simp only[Ak])
 iterate 4 (refine B1 ?_;(try simp only[Ak]))
 refine B4 ?_;simp only[Bm,Bl];go_wp2_with (fail);refine cF.m ?_;rintro e w5⟨⟨c1,rfl⟩,bR,a6,cA,a0,bC⟩;have aD:Hid (∀k,a6 k->w0.heap.size<=k):=λk d=>(bC k d).elim (aE.o k) λh=>AQ aK.o.Al h
 have aH:Hid (A4 Aa w0 w5):=aK.o.bQ bR aE.o;have b1:Hid (Env B w5):=(aY.o.aM aF.o).aM aH.o;have cG:=A1 (a7.o w5 sb ab I (t+1) (q.length+1) a6 _ bX.o (by have:=b6.o;omega) cA a0 b1.o.1 λk d=>AQ aM (aD.o k d));go_wp2_with (fail);refine cG.m ?_;rintro e w6⟨⟨c2,rfl⟩,bD,bU,b8,aS,b4⟩;have aP:Hid (∀k,bU k->w0.heap.size<=k):=λk d=>(b4 k d).elim (aD.o k) λh=>AQ aH.o.Al h
 have aQ:Hid (A4 Aa w0 w6):=aH.o.bQ bD aD.o;have b0:Hid (Env B w6):=(aY.o.aM aF.o).aM aQ.o;have cE:=A1 (ZO b9 bL.o w6 b8 aS (by have:=b6.o;omega) (by have:=cD.o;omega) bY.o b0.o.1 λk d=>AQ aM (aP.o k d));go_wp2_with (fail);refine cE.m ?_;rintro e w7⟨⟨c3,rfl⟩,bP,-⟩;have b5:Hid (A4 Aa w0 w7):=aQ.o.bQ bP aP.o;go_wp2;go_end0;exact⟨rfl,aF.o.tr b5.o⟩
end
def A2d{life d:Int}(hl:1<=life/\life<=4611686018427387904)(hw:1<=d/\d<=4611686018427387904):J8 life d=true:=by simp[J8];omega
def A2e{life d:Int}(h:¬((1<=life/\life<=4611686018427387904)/\(1<=d/\d<=4611686018427387904))):J8 life d=false:=by
 simp only[J8,A1G];omega
section
variable {w w':World} {wb:Nat} {n:WN} {b:Nat} {D:DS} {F:Nat->FC} {Ft:Nat->Prop}
def P5(h:AU w b D F Ft):Ag 49 #[A6 b] w (Aj (A0 D.n.B8) λw'=>w=w'):=by
 obtain⟨vd,vs,vc,h⟩:=h.Af;have h4:=h.c4
 go_enter func49,ntmps49
 go_wp2;go_ret;exact⟨rfl,rfl⟩
end
def Gw(A7 d:Int):Int:=if 0<=d then Dv A7 d else A7
def TM{A7 d:Int}(L:Ax A7)(I:Ax d):Ax (Gw A7 d)/\A7<=Gw A7 d:=by
 unfold Gw;obtain⟨E,z⟩:=L;split
 ·rename_i h;refine⟨Lx ⟨E,z⟩ h I.2,?_⟩;unfold Dv;split<;>omega
 ·exact⟨⟨E,z⟩,I1 _⟩
def A2E(w:World)(wb:Nat)(n:WN)(A7 d life z:Int)(h:AP w wb n)(I:n.CA=A7):∃E,A4 (One wb) w E/\E.heap.size=w.heap.size+1/\AP E wb {n with CA:=Gw A7 d}/\
 E.heap[w.heap.size]?=some (.cells #[A0 life,A0 z] 48 (0,0))/\(0<=d->(w.setCell (A9 wb 10) (A0 (Gw A7 d))).alloc (.cells #[A0 life,A0 z] 48)=E)/\(¬0<=d->w.alloc (.cells #[A0 life,A0 z] 48)=E):=by
 by_cases L:0<=d
 ·refine⟨(w.sC wb 10 (A0 (Gw A7 d))).aC #[A0 life,A0 z] 48,((A4.C (One wb) w).aj rfl 10 _).ah _,by simp,(h.cb _).al ((A4.C Aa _).ah _),?_,λ_=>rfl,λh=>absurd L h⟩;have:=Bf (w.sC wb 10 (A0 (Gw A7 d))) (.cells #[A0 life,A0 z] 48);simpa using this
 ·have e:Gw A7 d=A7:=by unfold Gw;rw[Ae L]
  have O:({n with CA:=A7}:WN)=n:=by subst I;rfl
  refine⟨w.aC #[A0 life,A0 z] 48,((A4.C (One wb) w)).ah _,by simp,?_,Bf _ _,λh=>absurd h L,λ_=>rfl⟩;rw[e,O];exact h.al ((A4.C Aa _).ah _)
def LW.ec{w w':World}{H wb b X:Nat}{n n':WN}{life:Int}{R R':Kind}{FT d:Nat->Prop}{puts:List Pu}{L:List (Value×Int)}(h:LW w H wb n b life R FT puts L)(hc:A4 (One wb) w w')(hb:AP w' wb n')(e1:n'.dv=(A6 X))(e2:n'.life=n.life)(Y:n'.pv=n.pv)(e4:n'.lv=n.lv)(hs:Iv R')(hd:R' w' d)(I:∀k,d k->k<w'.heap.size)(O:∀k,d k->w.heap.size<=k):LW w' H wb n' X life R' d puts L:=by
 have W:∀k,FG wb n' k->FG wb n k:=λk z=>by unfold FG at z ⊢;rwa [Y,e4]at z
 have hz:=h.Al;refine⟨hb,e1,e2.trans h.FU,hs,hd,I,?_,?_,λk z hx=>?_,λk z=>h.E2 k (W k z),λk z=>AQ hz (O k z)⟩
 ·rw[Y];exact Aw h.Dw λg E=>hc.Am g (Ay h.Dw E) λe=>h.ck (by cases e;exact E)
 ·rw[e4];exact Aw h.EA λg E=>hc.Am g (Ay h.EA E) λe=>h.b2 (by cases e;exact E)
 ·have:=h.cg (W k z);have:=O k hx;omega
def Z6(w:World)(life d A7:Int)(db:Option Addr)(h:¬(1<=life/\life<=4611686018427387904)\/¬(1<=d/\d<=4611686018427387904)):
 Ag 22 #[.pointer db,.agg #[A0 life,A0 d],A0 A7] w (Aj (.tuple #[.pointer none,A0 1]) λw'=>A4 Aa w w'):=by
 have X:=(A4.C Aa w).ah (.cells #[A0 life,A0 d] 48);have E:=Bf w (.cells #[A0 life,A0 d] 48);generalize hw0:(w.alloc (.cells #[A0 life,A0 d] 48))=w0 at X E;have q0:A8 w0 w.heap.size 0 (A0 life):=CP E;have q1:A8 w0 w.heap.size 1 (A0 d):=CP E;have W:=A1 X;by_cases O:1<=life/\life<=4611686018427387904
 ·have Y:¬(1<=d/\d<=4611686018427387904):=h.resolve_left (λh=>h O);have I:Hid (∀w',Ag 58 #[A0 life] w' λe z=>e=.returned (.bool true)/\w'=z):=λw'=>by
   have:=KF w' life
   rwa [Ct O]at this
  have L:Hid (∀w',Ag 58 #[A0 d] w' λe z=>e=.returned (.bool false)/\w'=z):=λw'=>by
   have:=KF w' d
   rwa [Cu Y]at this
  go_enter func22,ntmps22
  go_wp2_with (first
   | (go_at_call 58;refine(I.o _).mono ?_;rintro e w'⟨rfl,rfl⟩)
   | (go_at_call 58;refine(L.o _).mono ?_;rintro e w'⟨rfl,rfl⟩))
  go_ret2;exact⟨rfl,W.o⟩
 ·have I:Hid (∀w',Ag 58 #[A0 life] w' λe z=>e=.returned (.bool false)/\w'=z):=λw'=>by
   have:=KF w' life
   rwa [Cu O]at this
  go_enter func22,ntmps22
  go_wp2_with (go_at_call 58;refine(I.o _).mono ?_;rintro e w'⟨rfl,rfl⟩);go_ret2;exact⟨rfl,W.o⟩
end
section
variable {P:PD} {A:Ar} {J:Jn} {nm old:ByteArray}
def Xw(P:PD):P.aF.2.D.n.AA=P.D.n.AA:=by
 unfold PD.aF DW;dsimp only
 split<;>exact Jc _
def Xx(P:PD)(nm:ByteArray)(s:Nat)(l:Bs):(P.af nm s l).2.2.D.n.AA=P.D.n.AA:=QP P nm (AS s l)
def QO(J:Jn)(P:PD)(p:Pu):(J.ay P p).2.2.2.D.n.AA=P.D.n.AA:=by
 unfold Jn.ay;split
 ·rfl
 ·exact Xx P _ _ _
def Xz(J:Jn)(P:PD)(p:Pu):(J.af P p).2.2.2.D.n.AA=P.D.n.AA:=by
 unfold Jn.af;split
 ·split
  ·exact NC J P
  ·exact(QO _ _ p).trans (NC J P)
 ·exact QO J P p
def XB(A:Ar)(P:PD)(p:Pu):(A.af P p).2.2.2.D.n.AA=P.D.n.AA:=by
 unfold Ar.af;split
 ·exact Kk A P
 ·exact(Xz _ _ p).trans (Kk A P)
def Xy(J:Jn)(P:PD):(J.ae P).2.D.n.AA=P.D.n.AA:=by
 unfold Jn.ae;split
 ·rfl
 ·exact Nz P _
def XA(A:Ar)(P:PD):(A.ae P).2.2.D.n.AA=P.D.n.AA:=by
 unfold Ar.ae;split
 ·exact Kk A P
 ·have h:=(Xy (A.I P).2.1.j (A.I P).2.2).trans (Kk A P);split
  ·exact h
  ·exact(Xw _).trans h
end
section
open Go.RowKit
attribute [local go_sem ↓] Go.wp_at_zero Go.wp_at_succ
section
variable {w w':World} {H wb sb ab b t:Nat} {n:WN} {life win A7:Int} {ro:Bool} {L:Nat->List Pt} {A:Ar} {P:PD} {FT:Nat->Prop} {puts:List Pu} {ls:List (Value×Int)}
def LW.B8(h:LW w H wb n b life (KS sb ab b life win A7 ro L A P) FT puts ls):Ag 49 #[A6 b] w (Aj (A0 P.D.n.B8) λw'=>w=w'):=by
 obtain⟨Ft,d,-⟩:=SF.dk h.Eg;exact P5 d
def LW.Bj(h:LW w H wb n b life (KS sb ab b life win A7 ro L A P) FT puts ls):Ag 50 #[A6 b] w (Aj (A0 P.D.n.Bj) λw'=>w=w'):=by
 obtain⟨Ft,d,-⟩:=SF.dk h.Eg;exact NJ d
def LW.fulls(h:LW w H wb n b life (KS sb ab b life win A7 ro L A P) FT puts ls):Ag 88 #[A6 b] w (Aj (A0 P.D.n.fulls) λw'=>w=w'):=by
 obtain⟨Ft,d,-⟩:=SF.dk h.Eg;exact Ti d
def LW.Bh(h:LW w H wb n b life (KS sb ab b life win A7 ro L A P) FT puts ls):Ag 36 #[A6 b] w (Aj (.bool P.D.n.Bh) λw'=>w=w'):=by
 obtain⟨Ft,d,-⟩:=SF.dk h.Eg;exact Ts d
def PB.bB(h:PB P t)(ht:t<=200000):AX P.F P.D.A5<=4611686018427387904:=AQ h.CU.bB (KB (a:=600020) (b:=8001000) (by omega) (by omega) (by decide))
def LW.bB(h:LW w H wb n b life (KS sb ab b life win A7 ro L A P) FT puts ls)(hu:AX P.F P.D.A5<=4611686018427387904):Ag 90 #[A6 b] w (Aj (A0 (AX P.F P.D.A5)) λw'=>A4 Aa w w'):=by
 obtain⟨Ft,d,-⟩:=SF.dk h.Eg;exact VM d hu
def LW.dH(h:LW w H wb n b life (KS sb ab b life win A7 ro L A P) FT puts ls):Ag 48 #[A6 wb] w (Aj (.agg #[A0 P.D.n.Bj,A0 P.D.n.fulls]) λw'=>A4 Aa w w'):=by
 obtain⟨Ft,d,z,-⟩:=SF.dk h.Eg;exact Su w h.Af h.D8 d z
def OC(h:PB P t)(d:t<=200000):IntKind.i64.wrap (P.D.n.AA-(AX P.F P.D.A5:Int))=P.D.n.AA-(AX P.F P.D.A5:Int):=by
 have h1:=h.CU.AA;have h2:=h.bB d;simp[IntKind.wrap,IntKind.bits,IntKind.signed];omega
def TZ(w:World)(E z c d:Int)(Y:c=5/\d=0\/c=6/\d=1)(h:LW w H wb n b life (KS sb ab b life win A7 ro L A P) FT puts ls)(h1:P.D.n.Bj=E+1)(h2:P.D.n.fulls=z+d)(_hr:0<=E/\E<=200000)(_hf:0<=z/\z<=200000):
 Ag 51 #[A6 wb,A0 c,.agg #[A0 E,A0 z]] w (Aj (.bool true) λw'=>A4 Aa w w'):=by
 have X:=(A4.C Aa w).ah (.cells #[A0 E,A0 z] 85);have I:=Bf w (.cells #[A0 E,A0 z] 85);generalize hw0:w.alloc (.cells #[A0 E,A0 z] 85)=w0 at X I;have m0:A8 w0 w.heap.size 0 (A0 E):=CP I;have m1:A8 w0 w.heap.size 1 (A0 z):=CP I;have O:=h.al X;have c4:=O.Af.c4;rw[O.D8]at c4;have aA:=A1 ((O.al (A4.C Aa w0).aa).Bj);have aB:=A1 ((O.al (A4.C Aa w0).aa.aa).fulls);rw[h1]at aA;rw[h2]at aB;have aD:=A1 X;have s1:IntKind.i64.wrap (E+1-E)=1:=by simp[IntKind.wrap,IntKind.bits,IntKind.signed];omega
 have s2:IntKind.i64.wrap (z+d-z)=d:=by simp[IntKind.wrap,IntKind.bits,IntKind.signed];omega
 clear h1 h2 _hr _hf;rcases Y with⟨rfl,rfl⟩|⟨rfl,rfl⟩
 all_goals
  go_enter func51,ntmps51
  go_wp2_with (fail);refine Bt (λw'=>A8 w' wb 4 (A6 b)/\A8 w' w.heap.size 0 (A0 E)) 7
   (Bb [0,1,2,3,5,6,4] [4]) ⟨c4,m0⟩ ?_
  iterate 6 (refine B1 ?_;(try simp only[Ak]))
  refine Bd λK W=>?_;go_simp;refine aA.m ?_;rintro e w9⟨rfl,rfl⟩;refine W _ _ ⟨c4,m0⟩ (λhS=>?_)
  (try simp only[Ak])
  skip
  refine B4 ?_;simp only[Bm,Bl];go_wp2_with (fail);refine Bt (λw'=>A8 w' wb 4 (A6 b)/\A8 w' w.heap.size 1 (A0 z)) 7
   (Bb [0,1,2,3,5,6,4] [4]) ⟨c4,m1⟩ ?_
  iterate 6 (refine B1 ?_;(try simp only[Ak]))
  refine Bd λK W=>?_;go_simp;refine aB.m ?_;rintro e w9⟨rfl,rfl⟩;refine W _ _ ⟨c4,m1⟩ (λhS=>?_)
  (try simp only[Ak])
  skip
  refine B4 ?_;simp only[Bm,Bl];go_wp2;go_ret;exact⟨rfl,aD.o.aa.aa⟩
def U0(w:World)(z d:Int)(h:LW w H wb n b life (KS sb ab b life win A7 ro L A P) FT puts ls)(I:P.D.n.Bj=z+1)(E:P.D.n.fulls=d)(_hr:0<=z/\z<=200000)(_hf:0<=d/\d<=200000):
 Ag 51 #[A6 wb,A0 5,.agg #[A0 z,A0 d]] w (Aj (.bool true) λw'=>A4 Aa w w'):=
 TZ w z d 5 0 (.inl ⟨rfl,rfl⟩) h I (by rw[E,Int.add_zero]) _hr _hf
def TY(w:World)(z d:Int)(h:LW w H wb n b life (KS sb ab b life win A7 ro L A P) FT puts ls)(I:P.D.n.Bj=z+1)(E:P.D.n.fulls=d+1)(_hr:0<=z/\z<=200000)(_hf:0<=d/\d<=200000):
 Ag 51 #[A6 wb,A0 6,.agg #[A0 z,A0 d]] w (Aj (.bool true) λw'=>A4 Aa w w'):=
 TZ w z d 6 1 (.inr ⟨rfl,rfl⟩) h I E _hr _hf
end
def BF(d a b c:Int)(tv:Value):Obj:=.cells #[.int .i64 d,.int .i64 a,.int .i64 b,.int .i64 c,tv] 34
def Uu(w:World)(x:Nat)(d a b c:Int):Prop:=A8 w x 0 (A0 d)/\A8 w x 1 (A0 a)/\A8 w x 2 (A0 b)/\A8 w x 3 (A0 c)
def Gk(w:World)(h a b c:Int)(tv:Value):Uu (w.alloc (BF h a b c tv)) w.heap.size h a b c:=by
 have d:=Bf w (.cells #[A0 h,A0 a,A0 b,A0 c,tv] 34);unfold Uu BF;refine⟨?_,?_,?_,?_⟩<;>(simp only[A8,World.cell?,d];rfl)
def Tryz.e8:(Tryz.prog.info? 141).map (λi=>(i.zero,i.size,i.bytes))=some (some (.agg #[A0 0,A0 0,A0 0]),3,24):=by kernel_rfl
section
variable {w w':World} {H wb sb ab b t B:Nat} {n:WN} {life win A7:Int} {ro:Bool} {L:Nat->List Pt} {A:Ar} {P:PD} {FT:Nat->Prop} {puts:List Pu} {ls:List (Value×Int)}
def NA(w:World){r:Int}(h:r=DU n.AA):Ag 42 #[A0 n.AA] w (Aj (A0 r) λw'=>w=w'):=by rw[h];exact QQ w n.AA
def PN(w:World)(kd k X v cd:Int)(tv:Value)(h:LW w H wb n b life (KS sb ab b life win A7 ro L A P) FT puts ls)(aH:n.sv=(A6 sb))(hp:PB P t)(ht:t<=200000)(aI:P.D.n.AA=DU n.AA)(hq:(cd=2/\Fm k=false)\/(cd=4/\Fm k=true/\n.CG=true))(aM:∀d aD,KS sb ab b life win A7 ro L A P d aD->(∀k,aD k->k<d.heap.size)->Ag 23 #[A6 sb,A0 k,A0 X,A0 v] d λe w'=>e=.returned (A0 cd)/\As d aD w' (KS sb ab b life win A7 ro L A P)):
 Ag 54 #[A6 wb,.agg #[A0 kd,A0 k,A0 X,A0 v,tv]] w λe w'=>e=.returned (.bool true)/\A4 (Up H) w w'/\
  ∃aE,LW w' H wb n b life (KS sb ab b life win A7 ro L A P) aE puts ls:=by
 have a7:=A1 hq;have aL:=A1 aM;clear hq aM;have hA:=(A4.C Aa w).ah (BF kd k X v tv);obtain⟨-,o1,o2,o3⟩:=Gk w kd k X v tv;have h1:=h.al hA;have aY:=h.lt;have aA:w.heap.size<(w.alloc (BF kd k X v tv)).heap.size:=by simp
 generalize aS:w.alloc (BF kd k X v tv)=w1 at hA o1 o2 o3 h1 aA;unfold BF at aS;obtain⟨W,aW⟩:∃W,P.D.n.Bj=W:=⟨_,rfl⟩;obtain⟨O,aU⟩:∃O,P.D.n.fulls=O:=⟨_,rfl⟩;obtain⟨cn,aP⟩:∃cn,P.D.n.B8=cn:=⟨_,rfl⟩;obtain⟨rm,aB⟩:∃rm,P.D.n.AA=rm:=⟨_,rfl⟩;obtain⟨us,I⟩:∃us,AX P.F P.D.A5=us:=⟨_,rfl⟩;have a0:=OC hp ht;have a4:=A1 h1.dH;rw[aW,aU]at a4;rw[aB,I]at a0;rw[aB]at aI;have aJ:=A1 aP;have aG:Hid (AX P.F P.D.A5=us/\us<=4611686018427387904):=⟨I,by rw[<-I];exact hp.bB ht⟩;have a9:=A1 hA;have aR:=A1 h1;have aV:=A1 aY
 go_enter func54,ntmps54
 go_wp2_with (fail);refine a4.o.mono ?_;rintro e E⟨rfl,k2⟩;have v4:A8 (E.alloc (.cells #[A0 W,A0 O] 85)) wb 4 (A6 b):=((aR.o.al (k2.ah _)).Af.c4).trans (by rw[aR.o.D8]);go_wp2_with (fail);have k3:A4 Aa w1 (E.alloc (.cells #[A0 W,A0 O] 85)):=k2.ah _;have aK:=Bf E (.cells #[A0 W,A0 O] 85);have m0:A8 (E.alloc (.cells #[A0 W,A0 O] 85)) E.heap.size 0 (A0 W):=by simp only[A8,World.cell?,aK];rfl
 have m1:A8 (E.alloc (.cells #[A0 W,A0 O] 85)) E.heap.size 1 (A0 O):=by simp only[A8,World.cell?,aK];rfl
 have a6:Hid (w1.heap.size<=E.heap.size/\w.heap.size<w1.heap.size):=⟨k2.Al,aA⟩;generalize E.alloc (.cells #[A0 W,A0 O] 85)=w3 at k3 m0 m1 v4 ⊢;have aO:=A1 (aR.o.al k3);have a8:Hid (A4 Aa w w3):=a9.o.Au k3 λ_ h _=>h;have p1:=k3.ag o1;have p2:=k3.ag o2;have p3:=k3.ag o3;have a5:=A1 aO.o.B8;rw[aJ.o]at a5;refine a5.o.mono ?_;rintro e d⟨rfl,rfl⟩;have c2:=aO.o.Af.c2;have bB:=A1 (NA w3.drew aI);have bC:Hid (Ag 90 #[A6 b] w3.drew λe w'=>e=.returned (A0 us)/\A4 Aa w3.drew w'):=by
  have:=(aO.o.al (A4.C Aa w3).aa).bB (by rw[aG.o.1];exact aG.o.2);rw[aG.o.1]at this;exact this
 go_wp2;refine Bt (λw'=>A8 w' wb 2 (A0 n.AA)/\A8 w' wb 4 (A6 b)) 12
  (Bb [0,1,2,3,4,6,7,8,9,5,10,11] [5,10]) ⟨c2,v4⟩ ?_
 iterate 9 (refine B1 ?_;(try simp only[Ak]))
 refine Bd λK hK=>?_;go_simp;refine bB.o.mono ?_;rintro e d⟨rfl,rfl⟩;refine hK _ _ ⟨c2,v4⟩ (λY=>?_)
 (try simp only[Ak])
 refine Bd λK hK=>?_;go_simp;refine bC.o.mono ?_;rintro e d⟨rfl,k4⟩;have z:A4 Aa w3 d:=⟨k4.os,k4.DC,k4.DE,k4.Al,k4.Am⟩;refine hK _ _ ⟨z.ag c2,z.ag v4⟩ (λY=>?_);have a2:=A1 (aO.o.al (z.Au (A4.C Aa d).aa λ_ h _=>h));have bA:Hid (A4 Aa w d.drew):=a8.o.Au (z.Au (A4.C Aa d).aa λ_ h _=>h) λ_ h _=>h;have q1:=z.ag p1;have q2:=z.ag p2;have q3:=z.ag p3;have n0:=z.ag m0;have n1:=z.ag m1
 (try simp only[Ak])
 (refine B1 ?_;(try simp only[Ak]))
 refine B4 ?_;simp only[Bm,Bl];go_wp2
 have bD:Hid (Ag 23 #[A6 sb,A0 k,A0 X,A0 v] d.drew λe w'=>e=.returned (A0 cd)/\A4 (Up H) d w'/\A8 w' wb 5 (A6 sb)/\A8 w' w.heap.size 1 (A0 k)/\A8 w' w.heap.size 2 (A0 X)/\A8 w' w.heap.size 3 (A0 v)/\
  w'.cell? (A9 E.heap.size 0)=some (A0 W)/\A8 w' E.heap.size 1 (A0 O)/\∃aE,LW w' H wb n b life (KS sb ab b life win A7 ro L A P) aE puts ls):=by
  have aF:=a2.o;refine(aL.o d.drew FT aF.Eg aF.lt).mono ?_;rintro e w'⟨rfl,Y⟩;obtain⟨r1,aZ,r2⟩:=aF.cG (KS.DR sb ab b life win A7 ro L A P) Y;have nb:∀x,w.heap.size<=x->¬FT x:=λx hx hy=>by have:=aV.o x hy;omega
  have hm:w.heap.size<=E.heap.size:=by have:=a6.o;omega
  exact⟨rfl,⟨r1.os,r1.DC,r1.DE,r1.Al,r1.Am⟩,r2.Af.c5.trans (by rw[aH]),Dg (w:=d.drew) Y.1 q1 (nb _ (Ao _)),Dg (w:=d.drew) Y.1 q2 (nb _ (Ao _)),Dg (w:=d.drew) Y.1 q3 (nb _ (Ao _)),Dg (w:=d.drew) Y.1 n0 (nb _ hm),Dg (w:=d.drew) Y.1 n1 (nb _ hm),aZ,r2⟩
 have c5:=a2.o.Af.c5;rw[aH]at c5;have aQ:Hid (A4 Aa w d.drew):=bA.o;refine Bt (λw'=>A8 w' wb 5 (A6 sb)/\A8 w' w.heap.size 1 (A0 k)/\A8 w' w.heap.size 2 (A0 X)/\A8 w' w.heap.size 3 (A0 v)) 11
  (Bb [0,1,2,3,4,5,6,7,8,9,10] [10]) ⟨c5,q1,q2,q3⟩ ?_
 iterate 10 (refine B1 ?_;(try simp only[Ak]))
 refine Bd λK hK=>?_;go_simp;refine bD.o.mono ?_;rintro e w5⟨rfl,k5,d5,r1,r2,r3,m5,m6,aX,hR⟩;refine hK _ _ ⟨d5,r1,r2,r3⟩ (λY=>?_);have bE:Hid (A4 (Up H) w w5):=(aQ.o.ad (S':=Up H) λ_ _ h=>h.elim).Au (⟨k5.os,k5.DC,k5.DE,k5.Al,k5.Am⟩:A4 (Up H) d.drew w5) λ_ h _=>h;have a1:=A1 hR;have d9:=hR.Af.c9;have d4:=hR.Af.c4;rw[hR.D8]at d4
 (try simp only[Ak])
 refine B4 ?_;simp only[Bm,Bl];have a3:Hid (∀w',Ag 91 #[A0 k] w' λe E=>e=.returned (.bool (Fm k))/\w'=E):=λw'=>LM k w';have aN:=A1 a1.o.B8;rw[aJ.o]at aN;rcases a7.o with⟨rfl,hs⟩|⟨rfl,hs,aT⟩;rotate_left;rw[aT]at d9
 all_goals
  rw[hs]at a3;clear hs
  go_wp2_with (first
   | (go_at_call 91;refine(a3.o _).mono ?_;rintro e w6⟨rfl,rfl⟩)
   | (go_at_call 49;refine aN.o.mono ?_;rintro e w6⟨rfl,rfl⟩))
  go_ret;exact⟨rfl,bE.o,aX,a1.o⟩
def Vk(w:World)(O k E v:Int)(tv:Value)(h:LW w H wb n b life (KS sb ab b life win A7 ro L A P) FT puts ls)(z:n.sv=(A6 sb))(_hbr:n.CG=ro)(hp:PB P t)(X:t<=200000)(I:P.D.n.AA=DU n.AA)(Y:¬(0<=k/\k<8)):
 Ag 54 #[A6 wb,.agg #[A0 O,A0 k,A0 E,A0 v,tv]] w (Aj (.bool true) λw'=>A4 (Up H) w w'/\
  ∃d,LW w' H wb n b life (KS sb ab b life win A7 ro L A P) d puts ls):=
 PN w O k E v 2 tv h z hp X I (.inl ⟨rfl,by unfold Fm;simp;omega⟩) λW _ q1 q2=>Yu W k E v q1 q2 Y
def V8(w:World)(W k I v:Int)(tv:Value)(h:LW w H wb n b life (KS sb ab b life win A7 true L A P) FT puts ls)(z:n.sv=(A6 sb))(E:n.CG=true)(hp:PB P t)(Y:t<=200000)(O:P.D.n.AA=DU n.AA)(hk:0<=k/\k<8):
 Ag 54 #[A6 wb,.agg #[A0 W,A0 k,A0 I,A0 v,tv]] w (Aj (.bool true) λw'=>A4 (Up H) w w'/\
  ∃d,LW w' H wb n b life (KS sb ab b life win A7 true L A P) d puts ls):=
 PN w W k I v 4 tv h z hp Y O (.inr ⟨rfl,by unfold Fm;simp;omega,E⟩) λX _ q1 q2=>Rt X k I v q1 q2 hk
end
end
section
open Go.RowKit
def Y9{L:Nat->List Pt}{puts q:List Pu}{life A7:Int}(h:Rel L puts life A7)(z:∀p∈puts,Ax p.2.1)(E:F7 L q life A7):Rel L q life A7:=λk d=>(h k d).trans ((h.dt z d _ _).symm.trans (E k d))
def Eo(H:Nat)(w:World)(v:Value):Prop:=∃d,Lm w v d/\(∀t∈d,Ax t)/\∀h n c x,n≠0->v=.slice h n c->h=some x->x.block<H
def Eo.bN(H:Nat)(w:World)(h:Lm w (.slice none 0 0) []):Eo H w (.slice none 0 0):=⟨[],h,by simp,λad n c x _ e h=>by cases e;cases h⟩
def Dp(t H wb:Nat)(life:Int)(w:World)(n:WN)(puts:List Pu)(h:List (Value×Int)):Prop:=
 Ax n.CA/\Ax n.dirs/\Eo H w n.tv/\h.length<=4*t/\∃(b Ad:Nat) (P:PD) (FT:Nat->Prop),n.AF=(Ad:Int)/\P.D.n.AA=DU n.AA/\
  ((∃(z ab:Nat) (d:Bool) (L:Nat->List Pt) (A:Ar),n.sv=.pointer (some ⟨z,0,none⟩)/\n.CG=d/\n.fell=false/\(1<=life/\life<=4611686018427387904)/\(1<=n.win/\n.win<=4611686018427387904)/\
   LW w H wb n b life (KS z ab b life n.win n.CA d L A P) FT puts h/\St t A P puts Ad (AT n.CA life) d/\Rel L puts life n.CA/\∀k,k<8->(L k).length<=t)\/
   (n.sv=.pointer none/\LW w H wb n b life (KD b P) FT puts h/\Ex t P puts Ad (AT n.CA life) n.fell))
section
variable {H wb t:Nat} {life A7:Int} {L:Nat->List Pt} {A:Ar} {P:PD} {puts:List Pu} {Ad:Nat}
def Ys(X:St t A P puts Ad (AT A7 life) false)(ht:t+1<=200000)(p:Pu)(hp:Bq p)(hR:Rel L puts life A7)(hs:∀k,k<8->Dz (L k)){bo:Bool}{cd:Int}{aH:Ar}{W:PD}{I:Nat->List Pt}(aE:A.af P p=(bo,cd,aH,W))(h:I=if bo=true then Es L (AT A7 life) p.1.toNat p.2.1 p.2.2 else L):
 PB W (t+1)/\HU P cd W/\(cd=6->P.D.n.AA-AX P.F P.D.A5<200)/\DI (CC (t+1)) W (puts++[p]) Ad (AT A7 life)/\
  (cd=0->Rel I (puts++[p]) life A7/\St (t+1) aH W (puts++[p]) Ad (AT A7 life) false)/\
  (W.D.n.Bh=false->∀q,q=puts++[p]\/(q=puts/\¬F7 I (puts++[p]) life A7)->F7 I q life A7->Rel I q life A7/\St (t+1) aH W q Ad (AT A7 life) true)/\
  (¬F7 I (puts++[p]) life A7->F7 I puts life A7)/\W.D.n.AA=P.D.n.AA/\(∀k,k<8->(L k).length<=t->(I k).length<=t+1):=by
 obtain⟨a1,a2,a3,a4,a5,a6,a7⟩:=X.af ht p hp;have d:=XB A P p;rw[aE]at a1 a2 a3 a4 a5 a6 a7 d;have hq:∀x∈puts++[p],Bq x:=λx E=>by
  rcases AY.1 E with E|E
  ·exact X.pu x E
  ·simp at E;subst E;exact hp
 have O:(puts++[p]).length<=t+1:=by have:=X.Bo;simp;omega
 have aG:Ad<=(puts++[p]).length:=by have:=X.le;simp;omega
 have aB:∀k,k<8->(L k).length<=t->(I k).length<=t+1:=λk _ hk=>by
  rw[h];have:=Oh L (AT A7 life) p.1.toNat p.2.1 p.2.2 k;split<;>omega
 cases bo with
 | true=>
  rw[Ai rfl]at h;have z:Rel I (puts++[p]) life A7:=by
   rw[h];obtain⟨k,tt,v⟩:=p;obtain⟨⟨k0,k8⟩,aF,_⟩:=hp;dsimp only at k0 k8 aF ⊢;obtain⟨k',rfl⟩:∃k':Nat,k=k':=⟨k.toNat,by omega⟩;exact hR.ay hs (by omega) aF
  have aD:=z.cB λx E=>(hq x E).2.1
  refine⟨a1,a2,a7,a3,λh0=>⟨z,(a6 h0).2⟩,λhd q Y _=>?_,λhn=>absurd aD hn,d,aB⟩;rcases Y with rfl|⟨-,hn⟩
  ·exact⟨z,St.cN a1 a3 (a4 rfl) hq O aG hd⟩
  ·exact absurd aD hn
 | false=>
  rw[Ae (by simp)]at h;subst h;obtain⟨b1,b2⟩:=a5 rfl;have aA:∀x∈puts,Ax x.2.1:=λx E=>(X.pu x E).2.1
  refine⟨a1,a2,a7,a3,λh0=>absurd (a6 h0).1 (by simp),λhd q Y hT=>?_,λ_=>hR.cB aA,d,aB⟩;rcases Y with rfl|⟨rfl,-⟩
  ·have z:=Y9 hR aA hT;refine⟨z,St.cN a1 a3 (b2.to ?_) hq O aG hd⟩;(have e0:(puts++[p]).take puts.length=puts:=by rw[Je]);have e1:(puts++[p]).take (puts.length+1)=puts++[p]:=Ec (by simp);have:=QK (puts:=puts++[p]) hq (n0:=puts.length) (n:=puts.length+1) (by omega) (life:=life) (A7:=A7) λk hk=>by
    rw[e0,e1];exact(hR.cB aA k hk).symm.trans (hT k hk)
   rwa [e0,e1]at this
  ·exact⟨hR,St.cN a1 b1 b2 X.pu (by have:=X.Bo;omega) X.le hd⟩
end
end
section
open Go.RowKit
attribute [local go_sem ↓] Go.wp_at_zero Go.wp_at_succ
section
variable {w w':World} {H wb sb ab b t B:Nat} {n:WN} {life win A7:Int} {ro:Bool} {L:Nat->List Pt} {A:Ar} {P:PD} {FT:Nat->Prop} {puts:List Pu} {ls:List (Value×Int)} {Ad:Nat}
def LW.bI(h:LW w H wb n b life (KS sb ab b life win A7 ro L A P) FT puts ls):∃Ft,LW w H wb n b life (KD b P) Ft puts ls:=by
 obtain⟨Ft,I,E,z⟩:=SF.dk h.Eg;exact⟨Ft,h.Af,h.D8,h.FU,KD.DR b P,I,E,h.Dw,h.EA,λk d O=>h.nw k d (z k O),h.E2,λk d=>h.Fy k (z k d)⟩
def L4(t H wb sb ab b Ad:Nat)(life win A7:Int)(w':World)(n:WN)(ls:List (Value×Int)):Prop:=
 ∃h d I z E q,z.D.n.AA=DU n.AA/\((∃ro,LW w' H wb {n with pv:=d,CG:=ro} b life (KS sb ab b life win A7 ro E I z) h q ls/\St (t+1) I z q Ad (AT A7 life) ro/\Rel E q life A7/\∀k,k<8->(E k).length<=t+1)\/
  (LW w' H wb {n with pv:=d,CG:=true,sv:=.pointer none} b life (KD b z) h q ls/\Ex (t+1) z q Ad (AT A7 life) n.fell))
def Vi(w:World)(kd k z v:Int)(tv:Value)(h:LW w H wb n b life (KS sb ab b life win A7 false L A P) FT puts ls)(aY:n.sv=(A6 sb))(b3:n.CG=false)(bZ:n.CA=A7)(hS:St t A P puts Ad (AT A7 life) false)(hR:Rel L puts life A7)(b9:t+1<=200000)(aE:P.D.n.AA=DU n.AA)(aX:Bq (k,z,v))(bX:∀k,k<8->(L k).length<=t)(hl:1<=life/\life<=4611686018427387904)(hc:Ax A7)(hL:Lets B w)(dC:B<=H):
 Ag 54 #[A6 wb,.agg #[A0 kd,A0 k,A0 z,A0 v,tv]] w (Aj (.bool true) λw'=>A4 (Up H) w w'/\
  L4 t H wb sb ab b Ad life win A7 w' n ls):=by
 have ht:t<=200000:=by omega
 have hp:=hS.pb;obtain⟨⟨bo,cd,aQ,aF⟩,bE⟩:∃x,A.af P (k,z,v)=x:=⟨_,rfl⟩;obtain⟨aA,b5⟩:∃aA,aA=if bo=true then Es L (AT A7 life) k.toNat z v else L:=⟨_,rfl⟩
 have aV:∀k,k<8->Dz (L k):=by obtain⟨lv,F0,q,-⟩:=h.Eg;exact q.DT.FP
 obtain⟨z1,z2,z3,z4,z5,z6,z7,z8,z9⟩:=Ys hS b9 (k,z,v) aX hR aV bE b5;have cE:∀X aR,KS sb ab b life win A7 false L A P X aR->(∀k,aR k->k<X.heap.size)->Lets B X->(∀k,aR k->H<=k)->Ag 23 #[A6 sb,A0 k,A0 z,A0 v] X (Aj (A0 cd) λw'=>As X aR w' (KS sb ab b life win A7 (decide (cd≠0)) aA aQ aF)):=λX aR g1 g2 g3 g4=>by
  have:=Rr X (k,z,v) g1 g2 hS b9 aX g3 (λk hk=>AQ dC (g4 k hk)) bX hl hc;rw[bE]at this;rw[b5];exact this
 have bV:puts.length<=200000:=by have:=hS.Bo;omega
 have dF:∀p∈puts++[(k,z,v)],Ax p.2.1:=λp hp=>by
  rcases AY.1 hp with hp|hp
  ·exact(hS.pu p hp).2.1
  ·simp at hp;subst hp;exact aX.2.1
 have bW:∀p∈puts++[(k,z,v)],Bq p:=λp hp=>by
  rcases AY.1 hp with hp|hp
  ·exact hS.pu p hp
  ·simp at hp;subst hp;exact aX
 have bU:∀k,k<8->(aA k).length<=t+1:=λk hk=>z9 k hk (bX k hk);have hk:=aX.1;have dH:Hid (aF.D.n.Bh=true->Ex (t+1) aF (puts++[(k,z,v)]) Ad (AT A7 life) n.fell):=λhd=>⟨z1,z4,bW,by have:=hS.Bo;simp;omega,by have:=hS.le;simp;omega,.inl hd⟩
 have cA:=A1 z2;have cC:=A1 z3;have cU:=A1 z5;have dI:=A1 z6;have cL:=A1 z7;have aO:=A1 z8;have aP:=A1 bU;have b8:=A1 dF;have b6:=A1 cE;have cN:=A1 hL;have bN:=A1 bV;have bO:Hid (0<=P.D.n.Bj/\P.D.n.Bj<=200000):=by have:=hp.refQ;exact⟨by omega,by omega⟩
 have bG:Hid (0<=P.D.n.fulls/\P.D.n.fulls<=200000):=by have:=hp.J4;exact⟨by omega,by omega⟩
 have hA:=(A4.C Aa w).ah (BF kd k z v tv);obtain⟨-,o1,o2,o3⟩:=Gk w kd k z v tv;have h1:=h.al hA;have hwl:=h.Af.lt;have dN:=h.lt;have bC:w.heap.size<(w.alloc (BF kd k z v tv)).heap.size:=by simp
 generalize cS:w.alloc (BF kd k z v tv)=w1 at hA o1 o2 o3 h1 bC;unfold BF at cS;obtain⟨rf,bM⟩:∃rf,P.D.n.Bj=rf:=⟨_,rfl⟩;obtain⟨fu,bJ⟩:∃fu,P.D.n.fulls=fu:=⟨_,rfl⟩;obtain⟨cn,cM⟩:∃cn,P.D.n.B8=cn:=⟨_,rfl⟩;obtain⟨rm,aH⟩:∃rm,P.D.n.AA=rm:=⟨_,rfl⟩;obtain⟨us,aN⟩:∃us,AX P.F P.D.A5=us:=⟨_,rfl⟩;have cB:=OC hp ht;have eA:=A1 h1.dH;rw[bM,bJ]at eA;rw[aH,aN]at cB;have hrmk:=aH;rw[aH]at aE;have aU:=A1 bM;have cF:=A1 bJ;have cZ:=A1 cM;have bL:Hid (AX P.F P.D.A5=us/\us<=4611686018427387904):=⟨aN,by rw[<-aN];exact hp.bB ht⟩;have eG:=A1 hA;have cP:=A1 h1;have dK:=A1 dN;have b4:Hid (∀g,n.pv.oB g->g<w.heap.size):=λg hg=>Ay h.Dw hg;rw[bM]at bO;rw[bJ]at bG;rw[aH,aN]at cC;rw[aH]at aO
 go_enter func54,ntmps54
 go_wp2_with (fail);refine eA.m ?_;rintro e w2⟨rfl,k2⟩;have v4:(w2.alloc (.cells #[A0 rf,A0 fu] 85)).cell? (A9 wb 4)=some (A6 b):=((cP.o.al (k2.ah _)).Af.c4).trans (by rw[cP.o.D8]);go_wp2_with (fail);have k3:A4 Aa w1 (w2.alloc (.cells #[A0 rf,A0 fu] 85)):=k2.ah _;have b1:=Bf w2 (.cells #[A0 rf,A0 fu] 85);have m0:(w2.alloc (.cells #[A0 rf,A0 fu] 85)).cell? (A9 w2.heap.size 0)=some (A0 rf):=CP b1;have m1:(w2.alloc (.cells #[A0 rf,A0 fu] 85)).cell? (A9 w2.heap.size 1)=some (A0 fu):=CP b1;have cG:Hid (w1.heap.size<=w2.heap.size/\w.heap.size<w1.heap.size):=⟨k2.Al,bC⟩;generalize w2.alloc (.cells #[A0 rf,A0 fu] 85)=w3 at k3 m0 m1 v4 ⊢;have cH:=A1 (cP.o.al k3);have eF:=A1 <| eG.o.tr k3;have p1:=k3.ag o1;have p2:=k3.ag o2;have p3:=k3.ag o3;have dZ:=A1 cH.o.B8;rw[cZ.o]at dZ;refine dZ.m ?_;rintro e X⟨rfl,rfl⟩;have c2:=cH.o.Af.c2;have eI:=A1 (NA w3.drew aE);have eJ:Hid (Ag 90 #[A6 b] w3.drew (Aj (A0 us) λw'=>A4 Aa w3.drew w')):=by
  have:=(cH.o.al (A4.C Aa w3).aa).bB (by rw[bL.o.1];exact bL.o.2);rw[bL.o.1]at this;exact this
 go_wp2;refine Bt (λw'=>w'.cell? (A9 wb 2)=some (A0 n.AA)/\w'.cell? (A9 wb 4)=some (A6 b)) 12
  (Bb [0,1,2,3,4,6,7,8,9,5,10,11] [5,10]) ⟨c2,v4⟩ ?_
 iterate 9 (refine B1 ?_;(try simp only[Ak]))
 refine Bd λK hK=>?_;go_simp;refine eI.m ?_;rintro e X⟨rfl,rfl⟩;refine hK _ _ ⟨c2,v4⟩ (λhS=>?_)
 (try simp only[Ak])
 refine Bd λK hK=>?_;go_simp;refine eJ.m ?_;rintro e X⟨rfl,k4⟩;have aD:A4 Aa w3 X:=⟨k4.os,k4.DC,k4.DE,k4.Al,k4.Am⟩;refine hK _ _ ⟨aD.ag c2,aD.ag v4⟩ (λhS=>?_);have dT:=A1 (cH.o.al (aD.Au (A4.C Aa X).aa λ_ h _=>h));have dU:=A1 <| eF.o.tr (aD.Au (A4.C Aa X).aa λ_ h _=>h);have q1:=aD.ag p1;have q2:=aD.ag p2;have q3:=aD.ag p3;have n0:=aD.ag m0;have n1:=aD.ag m1
 (try simp only[Ak])
 (refine B1 ?_;(try simp only[Ak]))
 refine B4 ?_;simp only[Bm,Bl];go_wp2
 have eK:Hid (Ag 23 #[A6 sb,A0 k,A0 z,A0 v] X.drew (Aj (A0 cd) λw'=>A4 (Up H) X w'/\w'.cell? (A9 wb 5)=some (A6 sb)/\w'.cell? (A9 w.heap.size 1)=some (A0 k)/\w'.cell? (A9 w.heap.size 2)=some (A0 z)/\w'.cell? (A9 w.heap.size 3)=some (A0 v)/\
  w'.cell? (A9 w2.heap.size 0)=some (A0 rf)/\w'.cell? (A9 w2.heap.size 1)=some (A0 fu)/\∃cV,LW w' H wb n b life (KS sb ab b life win A7 (decide (cd≠0)) aA aQ aF) cV puts ls)):=by
  have a7:=dT.o;have h4:=dU.o;refine(b6.o X.drew FT a7.Eg a7.lt (cN.o.aM h4) a7.Fy).mono ?_;rintro e w'⟨rfl,hS⟩;obtain⟨r1,dO,r2⟩:=a7.cG (KS.DR sb ab b life win A7 (decide (cd≠0)) aA aQ aF) hS;have nb:∀x,w.heap.size<=x->¬FT x:=λx hx hy=>by have:=dK.o x hy;omega
  have hm:w.heap.size<=w2.heap.size:=by have:=cG.o;omega
  exact⟨rfl,⟨r1.os,r1.DC,r1.DE,r1.Al,r1.Am⟩,r2.Af.c5.trans (by rw[aY]),Dg (w:=X.drew) hS.1 q1 (nb _ (Ao _)),Dg (w:=X.drew) hS.1 q2 (nb _ (Ao _)),Dg (w:=X.drew) hS.1 q3 (nb _ (Ao _)),Dg (w:=X.drew) hS.1 n0 (nb _ hm),Dg (w:=X.drew) hS.1 n1 (nb _ hm),dO,r2⟩
 have c5:=dT.o.Af.c5;rw[aY]at c5;have cO:=A1 <| dU.o;refine Bt (λw'=>w'.cell? (A9 wb 5)=some (A6 sb)/\w'.cell? (A9 w.heap.size 1)=some (A0 k)/\w'.cell? (A9 w.heap.size 2)=some (A0 z)/\w'.cell? (A9 w.heap.size 3)=some (A0 v)) 11
  (Bb [0,1,2,3,4,5,6,7,8,9,10] [10]) ⟨c5,q1,q2,q3⟩ ?_
 iterate 10 (refine B1 ?_;(try simp only[Ak]))
 refine Bd λK hK=>?_;go_simp;refine eK.m ?_;rintro e w5⟨rfl,k5,d5,r1,r2,r3,m5,m6,aK,hR⟩;refine hK _ _ ⟨d5,r1,r2,r3⟩ (λhS=>?_);have eN:=A1 <| (cO.o.ad (S':=Up H) λ_ _ h=>h.elim).tr (⟨k5.os,k5.DC,k5.DE,k5.Al,k5.Am⟩:A4 (Up H) X.drew w5);have eD:=A1 hR;have d9:=hR.Af.c9;rw[b3]at d9;have d6:=hR.Af.c6;have d4:=hR.Af.c4;rw[hR.D8]at d4
 (try simp only[Ak])
 refine B4 ?_;simp only[Bm,Bl];have eH:Hid (∀w',Ag 91 #[A0 k] w' (Aj (.bool true) λw2=>w'=w2)):=λw'=>by
  have:=LM k w';have e:Fm (k:Int)=true:=by unfold Fm;simp;omega
  rwa [e]at this
 obtain⟨ap,cp,a6,hp1,hp2,-⟩:=hR.Dw.BP;rw[a6]at d6;go_wp2_with (go_at_call 91;refine(eH.o _).mono ?_;rintro e w6⟨rfl,rfl⟩);obtain⟨i0,hi,cX,dQ,dM⟩:=DG Tryz.e8;have k6:A4 Aa w5 (w5.alloc (.cells #[A0 k,A0 z,A0 v] 141)).drew:=((A4.C Aa w5).ah _).aa;have dS:=A1 (eD.o.al k6);have dG:GL (w5.alloc (.cells #[A0 k,A0 z,A0 v] 141)).drew (.slice ap puts.length cp) puts:=by
  have:=dS.o.Dw;rwa [a6]at this
 have dA:=A1 dG;have eL:Hid (Src Tryz.prog 3 37 (AB w5.heap.size 1 1) 1 (AZ [(k,z,v)]) (w5.alloc (.cells #[A0 k,A0 z,A0 v] 141)).drew):=
  Src.b5 (w:=(w5.alloc (.cells #[A0 k,A0 z,A0 v] 141)).drew) (cs:=#[A0 k,A0 z,A0 v]) underlying37 (Bf w5 _) 1 1 rfl (Hp [(k,z,v)])
 have dB:Hid (∀g,n.pv.oB g->g<w.heap.size):=b4.o
 have dE:Hid (∀w7 v',App (w5.alloc (.cells #[A0 k,A0 z,A0 v] 141)).drew w7 141 3 (.slice ap puts.length cp) v' (puts.length+1) (AZ puts++AZ [(k,z,v)])->
  w7.cell? (A9 wb 6)=some (.slice ap puts.length cp)/\w7.frozen? (A9 wb 6)=false/\A4 (Up H) w5 (w7.setCell (A9 wb 6) v')/\LW (w7.setCell (A9 wb 6) v') H wb {n with pv:=v'} b life (KS sb ab b life win A7 (decide (cd≠0)) aA aQ aF) aK (puts++[(k,z,v)]) ls/\
  (∀x,w.heap.size<=x->∀o u,w5.cell? (A9 x o)=some u->w7.cell? (A9 x o)=some u/\(w7.setCell (A9 wb 6) v').cell? (A9 x o)=some u)):=λw7 v' hA=>by
  rw[<-a6]at hA;obtain⟨a1,a2,a3,a4⟩:=dS.o.eR hA;rw[a6]at a1;refine⟨a1,a2,(k6.ad (S':=Up H) λ_ _ h=>h.elim).tr a3,a4,λx hx o u hu=>?_⟩;have q:=Dg hA.cm (k6.ag hu) (λe=>by have:=dB.o x e;omega);exact⟨q,(Gy _ _ _ _ (by simp;try omega)).trans q⟩
 refine Bt (λw'=>w'.cell? (A9 wb 6)=some (.slice ap puts.length cp)/\w'.cell? (A9 w.heap.size 1)=some (A0 k)/\w'.cell? (A9 w.heap.size 2)=some (A0 z)/\w'.cell? (A9 w.heap.size 3)=some (A0 v)) 14
  (Bb [0,1,2,3,4,5,6,7,8,9,10,11,12,13] [12,13]) ⟨d6,r1,r2,r3⟩ ?_
 iterate 12 (refine B1 ?_;(try simp only[Ak]))
 refine Bd λK hK=>?_;go_simp;have a9:A4 Aa w5 (w5.alloc (.cells #[A0 k,A0 z,A0 v] 141)).drew:=((A4.C Aa w5).ah _).aa;refine hK _ _ ⟨a9.ag d6,a9.ag r1,a9.ag r2,a9.ag r3⟩ (λhS=>?_)
 (try simp only[Ak])
 refine Di rfl (by rfl) (λK hK=>?_);refine Hm (.tmp 83) (.tmp 91) 37 37 rfl 141 i0 _ 3 24 underlying37 hi cX dQ dM rfl (by decide) (.slice ap puts.length cp) puts.length (AZ puts) (by rfl) dA.o _ 1 _ (by rfl) eL.o (by have:=bN.o;omega) ?_;intro Y d w7 hA;obtain⟨y6,z6,k8,h8,aG⟩:=dE.o w7 _ hA;refine hK _ _ ⟨y6,(aG _ (Ao _) 1 _ r1).1,(aG _ (Ao _) 2 _ r2).1,(aG _ (Ao _) 3 _ r3).1⟩ (λhS=>?_);have m8:=(aG w2.heap.size (by have:=cG.o;omega) 0 _ m5).2;have m9:=(aG w2.heap.size (by have:=cG.o;omega) 1 _ m6).2;have bH:=A1 h8;have dL:Hid (A4 (Up H) w (w7.setCell (A9 wb 6) (.slice Y (puts.length+1) d))):=eN.o.tr k8;have e4:(w7.setCell (A9 wb 6) (.slice Y (puts.length+1) d)).cell? (A9 wb 4)=some (A6 b):=by
  rw[h8.Af.c4];exact Eu some h8.D8
 (try simp only[Ak])
 refine B4 ?_;simp only[Bm,Bl];go_wp2;generalize (w7.setCell (A9 wb 6) (.slice Y (puts.length+1) d))=w8 at m8 m9 bH dL e4 ⊢;have eM:=A1 (bH.o.al (A4.C Aa w8).aa).Bj;refine Bt (λw'=>w'.cell? (A9 wb 4)=some (A6 b)/\w'.cell? (A9 w2.heap.size 0)=some (A0 rf)) 7
  (Bb [0,1,2,3,5,6,4] [4]) ⟨e4,m8⟩ ?_
 iterate 6 (refine B1 ?_;(try simp only[Ak]))
 refine Bd λK hK=>?_;go_simp;refine eM.m ?_;rintro e w9⟨rfl,rfl⟩;refine hK _ _ ⟨e4,m8⟩ (λhS=>?_)
 (try simp only[Ak])
 refine B4 ?_;simp only[Bm,Bl];have eC:Hid (∃aZ,aF.D.n.Bj=aZ):=⟨_,rfl⟩;obtain⟨aZ,aM⟩:=eC.o;rw[aM];have cQ:(cd=0/\aZ=rf)\/((cd=5\/cd=6)/\aZ=rf+1):=by
  rcases cA.o with⟨q1,q2,-⟩|⟨q1,q2,-⟩|⟨q1,q2,-⟩
  ·exact .inl ⟨q1,by rw[<-aM,q2,aU.o]⟩
  ·exact .inr ⟨.inl q1,by rw[<-aM,q2,aU.o]⟩
  ·exact .inr ⟨.inr q1,by rw[<-aM,q2,aU.o]⟩
 rcases cQ with⟨rfl,rfl⟩|⟨a0,rfl⟩
 ·have cD:=A1 (cU.o rfl);go_wp2;go_ret;refine⟨rfl,dL.o.aa,aK,.slice Y (puts.length+1) d,aQ,aF,aA,puts++[(k,z,v)],aO.o.trans aE,.inl ⟨false,?_,cD.o.2,cD.o.1,aP.o⟩⟩;have:=bH.o.al (A4.C Aa w8).aa;have en:({n with pv:=.slice Y (puts.length+1) d,CG:=false}:WN) = {n with pv:=.slice Y (puts.length+1) d}:=by rw[<-b3]
  rw[en];exact this
 ·have HNE:Hid (¬(rf+1=rf)):=by intro h;omega
  have z9:=bH.o.Af.fz 9;have s9:=bH.o.Af.c9;have eE:Hid (∀w',LW w' H wb {n with pv:=.slice Y (puts.length+1) d,CG:=true} b life (KS sb ab b life win A7 (decide (cd≠0)) aA aQ aF) aK (puts++[(k,z,v)]) ls->Ag 51 #[A6 wb,A0 cd,.agg #[A0 rf,A0 fu]] w' λe bB=>e=.returned (.bool true)/\A4 Aa w' bB):=λw' hw=>by
   rcases cA.o with⟨q1,-⟩|⟨q1,q2,q3⟩|⟨q1,q2,q3,-⟩
   ·rcases a0 with h|h<;>omega
   ·subst q1;exact U0 w' rf fu hw (by rw[q2,aU.o]) (by rw[q3,cF.o]) bO.o bG.o
   ·subst q1;exact TY w' rf fu hw (by rw[q2,aU.o]) (by rw[q3,cF.o]) bO.o bG.o
  go_wp2_with (fail);have cT:=bH.o.CT (n':={n with pv:=.slice Y (puts.length+1) d,CG:=true}) 9 (.bool true) (bH.o.Af.s9 true) rfl rfl rfl rfl;obtain⟨k9,h9⟩:=cT;have mb8:w2.heap.size≠wb:=by have:=cG.o;omega
  have n8:(w8.setCell (A9 wb 9) (.bool true)).cell? (A9 w2.heap.size 0)=some (A0 rf):=(Gy _ _ _ _ (by simp;try omega)).trans m8;have n9:(w8.setCell (A9 wb 9) (.bool true)).cell? (A9 w2.heap.size 1)=some (A0 fu):=(Gy _ _ _ _ (by simp;try omega)).trans m9;have dV:=A1 h9;have dY:Hid (A4 (Up H) w (w8.setCell (A9 wb 9) (.bool true))):=dL.o.tr k9;have dX:=A1 (eE.o _ (h9.al (A4.C Aa _).aa));generalize (w8.setCell (A9 wb 9) (.bool true))=w9 at dV dY dX n8 n9 ⊢;refine dX.m ?_;rintro e aB⟨rfl,bA⟩;have bA:A4 Aa w9 aB:=(A4.C Aa w9).aa.tr bA;have O:=A1 (dV.o.al bA);have bK:Hid (A4 (Up H) w aB):=dY.o.Au bA λ_ h _=>h.elim;have e4:=O.o.Af.c4;have bS:=A1 O.o.Bh;rw[O.o.D8]at e4;have bD:cd=6->¬(200<=IntKind.i64.wrap (DU n.AA-(us:Int))):=λe=>by have:=cC.o e;rw[<-aE,cB];omega
  have z5:=O.o.Af.fz 5;have s5:=O.o.Af.c5;have s6:=O.o.Af.c6;have z6:=O.o.Af.fz 6;have a5:(puts++[(k,z,v)]).length=puts.length+1:=by simp
  obtain⟨a8,c8,aT,bI,bR,-⟩:=O.o.Dw.BP;rw[a5]at bI aT;simp only[Value.slice.injEq,true_and]at aT;obtain⟨-,aT⟩:=aT;subst aT;unfold maxLen at bR;have hcap0:puts.length<=d:=by omega
  have hnum:IntKind.i64.wrap ((puts.length:Int)+1)=((puts.length+1:Nat):Int):=by
   have:=bN.o;simp[IntKind.wrap,IntKind.bits,IntKind.signed];omega
  have cJ:(puts++[(k,z,v)]).take (puts.length+1)=puts++[(k,z,v)]:=Ec (by simp);have hpl:puts.length<1099511627775:=by have:=bN.o;omega
  have cY:decide (cd≠0)=true:=by rcases a0 with h|h<;>(subst h;rfl)
  rw[cY]at O;have dW:=A1 (λw' (aJ:A4 Aa aB w')=>No w' (puts.length+1) (O.o.al aJ) aY rfl bZ (by rw[a5];omega) (by rw[a5];omega) b8.o (λk hk=>by have:=aP.o k hk;omega) hl hc);rw[cJ]at dW;cases hdd:aF.D.n.Bh with
  | true=>
   rw[hdd]at bS;have E:Hid (A4 (Up H) w (aB.setCell (A9 wb 5) (.pointer none))/\L4 t H wb sb ab b Ad life win A7 (aB.setCell (A9 wb 5) (.pointer none)) n ls):=by
    obtain⟨W,dR⟩:=O.o.CT (n':={n with pv:=.slice Y (puts.length+1) d,CG:=true,sv:=.pointer none}) 5 (.pointer none) (O.o.Af.s5 _) rfl rfl rfl rfl;obtain⟨Ft,dJ⟩:=dR.bI;exact⟨bK.o.tr W,Ft,.slice Y (puts.length+1) d,aQ,aF,aA,puts++[(k,z,v)],aO.o.trans aE,.inr ⟨dJ,dH.o hdd⟩⟩
   rcases a0 with rfl|rfl
   ·go_wp2_with (go_at_call 36;refine bS.m ?_;rintro e I⟨rfl,rfl⟩);go_ret;exact⟨rfl,E.o⟩
   ·have h2:=bD rfl;have h3:decide (200<=IntKind.i64.wrap (DU n.AA-(us:Int)))=false:=Cu h2;go_wp2_with (go_at_call 36;refine bS.m ?_;rintro e I⟨rfl,rfl⟩);go_ret;exact⟨rfl,E.o⟩
  | false=>
   rw[hdd]at bS;have eB:=A1 (dI.o hdd);have bF:Hid (∀w',A4 Aa aB w'->F7 aA (puts++[(k,z,v)]) life A7->A4 (Up H) w w'/\L4 t H wb sb ab b Ad life win A7 w' n ls):=λw' aJ hT=>by
    obtain⟨g1,g2⟩:=eB.o _ (.inl rfl) hT;exact⟨bK.o.Au aJ λ_ h _=>h.elim,aK,.slice Y (puts.length+1) d,aQ,aF,aA,puts++[(k,z,v)],aO.o.trans aE,.inl ⟨true,O.o.al aJ,g2,g1,aP.o⟩⟩
   have b0:Hid (∀w',A4 Aa aB w'->¬F7 aA (puts++[(k,z,v)]) life A7->A4 (Up H) w (w'.setCell (A9 wb 6) (.slice Y puts.length d))/\
    LW (w'.setCell (A9 wb 6) (.slice Y puts.length d)) H wb {n with pv:=.slice Y puts.length d,CG:=true} b life (KS sb ab b life win A7 true aA aQ aF) aK puts ls/\F7 aA puts life A7/\(Rel aA puts life A7/\St (t+1) aQ aF puts Ad (AT A7 life) true)):=λw' aJ hT=>by
    have bY:=cL.o hT;have hw:=O.o.al aJ;have dD:GL w' (.slice Y puts.length d) puts:=by
     have h1:=hw.Dw;unfold GL at h1 ⊢;rw[a5]at h1;have h2:=NV h1 (m:=puts.length) (by omega);rw[Ib,List.take_left' (Yy puts)]at h2;exact h2
    obtain⟨g1,g2⟩:=hw.ef dD λg hg=>⟨hw.E2 g (.inr (.inl (by
     simp only[Value.ownBlock]at hg ⊢;cases Y with
     | none=>simp at hg
     | some a=>simpa using hg))),hw.nw g (.inr (.inl (by
     simp only[Value.ownBlock]at hg ⊢;cases Y with
     | none=>simp at hg
     | some a=>simpa using hg)))⟩
    exact⟨(bK.o.Au aJ λ_ h _=>h.elim).tr g1,g2,bY,eB.o _ (.inr ⟨rfl,hT⟩) bY⟩
   have bT:Hid (∀w' b2,LW w' H wb {n with pv:=.slice Y puts.length d,CG:=true} b life (KS sb ab b life win A7 true aA aQ aF) b2 puts ls->F7 aA puts life A7->Ag 89 #[A6 wb,A0 puts.length] w' λe bB=>e=.returned (.bool true)/\A4 Aa w' bB):=λw' b2 hw hT=>by
    have:=No w' puts.length hw aY rfl bZ (Ao _) (by omega) (λp hp=>b8.o p (FJ _ hp)) (λk hk=>by have:=aP.o k hk;omega) hl hc;rw[Cc]at this;refine this.mono ?_;rintro e bB⟨t0,rfl,h1,h2⟩;exact⟨by rw[h1.2 hT],h2⟩
   (have e1:((puts.length+1:Nat):Int)=(puts.length:Int)+1:=by omega);have aW:=A1 (dW.o aB (A4.C _ _));rw[e1]at aW;have cI:=A1 (λw' (k:A4 Aa aB w')=>(O.o.al k).Af);rcases a0 with rfl|rfl
   ·go_wp2_with (go_at_call 36;refine bS.m ?_;rintro e I⟨rfl,rfl⟩);refine aW.m ?_;rintro e I⟨t0,rfl,aL,W⟩;cases t0 with
    | true=>
     have E:=A1 (bF.o I W (aL.1 rfl));go_wp2;go_ret;exact⟨rfl,E.o⟩
    | false=>
     (have aS:¬F7 aA (puts++[(k,z,v)]) life A7:=λh=>by have:=aL.2 h;cases this);obtain⟨g1,g2,g3,g4,g5⟩:=b0.o I W aS;have s6:=(cI.o I W).c6;have z6:=(cI.o I W).fz 6;have dP:=A1 (bT.o _ _ g2 g3);have E:Hid (∀w',A4 Aa (I.setCell (A9 wb 6) (.slice Y puts.length d)) w'->A4 (Up H) w w'/\L4 t H wb sb ab b Ad life win A7 w' n ls):=λw' k=>⟨g1.Au k λ_ h _=>h.elim,aK,.slice Y puts.length d,aQ,aF,aA,puts,aO.o.trans aE,.inl ⟨true,g2.al k,g5,g4,aP.o⟩⟩
     clear aL aW g1 g2 g3 g4 g5 aS;go_wp2_with (fail);refine dP.m ?_;rintro e bQ⟨rfl,bP⟩;have aI:=A1 (E.o bQ bP);go_wp2;go_ret;exact⟨rfl,aI.o⟩
   ·have h2:=bD rfl;have h3:decide (200<=IntKind.i64.wrap (DU n.AA-(us:Int)))=false:=Cu h2;go_wp2_with (go_at_call 36;refine bS.m ?_;rintro e I⟨rfl,rfl⟩);refine aW.m ?_;rintro e I⟨t0,rfl,aL,W⟩;cases t0 with
    | true=>
     have E:=A1 (bF.o I W (aL.1 rfl));go_wp2;go_ret;exact⟨rfl,E.o⟩
    | false=>
     (have aS:¬F7 aA (puts++[(k,z,v)]) life A7:=λh=>by have:=aL.2 h;cases this);obtain⟨g1,g2,g3,g4,g5⟩:=b0.o I W aS;have s6:=(cI.o I W).c6;have z6:=(cI.o I W).fz 6;have dP:=A1 (bT.o _ _ g2 g3);have E:Hid (∀w',A4 Aa (I.setCell (A9 wb 6) (.slice Y puts.length d)) w'->A4 (Up H) w w'/\L4 t H wb sb ab b Ad life win A7 w' n ls):=λw' k=>⟨g1.Au k λ_ h _=>h.elim,aK,.slice Y puts.length d,aQ,aF,aA,puts,aO.o.trans aE,.inl ⟨true,g2.al k,g5,g4,aP.o⟩⟩
     clear aL aW g1 g2 g3 g4 g5 aS;go_wp2_with (fail);refine dP.m ?_;rintro e bQ⟨rfl,bP⟩;have aI:=A1 (E.o bQ bP);go_wp2;go_ret;exact⟨rfl,aI.o⟩
end
def Tryz.eX:(Tryz.prog.info? 91).map (λi=>(i.zero,i.size,i.bytes))=some (some (.agg #[.slice none 0 0,A0 0]),2,32):=by kernel_rfl
section
variable {H wb b:Nat} {life:Int} {R:Kind} {FT:Nat->Prop} {puts:List Pu}
def JT(n0 n:WN):Prop:=n = {n0 with lv:=n.lv,FD:=n.FD}
structure MR (w:World) (H wb:Nat) (n:WN) (FT:Nat->Prop) (v:Value) (l:List Pt):Prop where
 Bp:Cb w v l
 CK:l.length<1099511627776
 Ha:∀g,v.ownBlock=some g->H<=g/\¬FG wb n g/\¬FT g
structure Gb (w0 w:World) (H wb:Nat) (n0 n:WN) (b:Nat) (life:Int) (R:Kind) (FT:Nat->Prop) (puts:List Pu) (ls:List (Value×Int)) (xb:Nat) (a c:Int) (v:Value) (l:List Pt):Prop where
 Gn:LW w H wb n b life R FT puts ls
 EL:MR w H wb n FT v l
 x0:w.cell? ⟨xb,0,none⟩=some (.int .i64 a)
 x1:w.cell? ⟨xb,1,none⟩=some (.int .i64 c)
 xn:∀g,v.ownBlock=some g->g≠xb
 xw:¬FG wb n xb
 HP:n.FD=c
 Mx:JT n0 n
 An:A4 (Up H) w0 w
def Gb.Al{d w:World}{n0 n:WN}{z:List (Value×Int)}{xb:Nat}{a c:Int}{v:Value}{l:List Pt}(h:Gb d w H wb n0 n b life R FT puts z xb a c v l):xb<w.heap.size:=Gz w _ h.x0
def Gb.al{z w w':World}{n0 n:WN}{E:List (Value×Int)}{xb:Nat}{a c:Int}{v:Value}{l:List Pt}(h:Gb z w H wb n0 n b life R FT puts E xb a c v l)(d:A4 Aa w w'):Gb z w' H wb n0 n b life R FT puts E xb a c v l:=
 ⟨h.Gn.al d,⟨Aw h.EL.Bp λg I=>d.Am g (Ay h.EL.Bp I) (λh=>h),h.EL.CK,h.EL.Ha⟩,d.ag h.x0,d.ag h.x1,h.xn,h.xw,h.HP,h.Mx,h.An.Au d λ_ h _=>h.elim⟩
def Gb.dh{W w w':World}{n0 n:WN}{I:List (Value×Int)}{xb:Nat}{a c:Int}{v z:Value}{l:List Pt}{p:Value×Int}(h:Gb W w H wb n0 n b life R FT puts I xb a c v l)(hA:App w w' 91 2 n.lv z (I.length+1) (GR I++GR [p])):
 w'.cell? (A9 wb 14)=some n.lv/\w'.frozen? (A9 wb 14)=false/\Gb W (w'.setCell (A9 wb 14) z) H wb n0 {n with lv:=z} b life R FT puts (I++[p]) xb a c v l:=by
 obtain⟨a1,a2,L,a4,O⟩:=h.Gn.dh hA;have X:=h.Al;have d:∀k,(k=wb\/n.lv.oB k)->FG wb n k:=λk Y=>Y.elim .inl (λe=>.inr (.inr e));refine⟨a1,a2,a4,⟨?_,h.EL.CK,λg E=>?_⟩,?_,?_,h.xn,?_,h.HP,(show JT n0 {n with lv:=z} from (Eu (λm:WN=>({m with lv:=z}:WN)) (show n = {n0 with lv:=n.lv,FD:=n.FD} from h.Mx):({n with lv:=z}:WN) = {n0 with lv:=z,FD:=n.FD})),?_⟩
 ·exact Aw h.EL.Bp λg E=>L.Am g (Ay h.EL.Bp E) λe=>(h.EL.Ha g E).2.1 (d g e)
 ·obtain⟨f1,f2,f3⟩:=h.EL.Ha g E;refine⟨f1,?_,f3⟩;rintro (e|e|e)
  ·exact f2 (.inl e)
  ·exact f2 (.inr (.inl e))
  ·rcases O with q|q
   ·simp only at e;rw[q]at e;exact f2 (.inr (.inr e))
   ·simp only at e;rw[q]at e;cases e;have:=Ay h.EL.Bp E;omega
 ·exact Dg L h.x0 λe=>h.xw (d xb e)
 ·exact Dg L h.x1 λe=>h.xw (d xb e)
 ·rintro (e|e|e)
  ·exact h.xw (.inl e)
  ·exact h.xw (.inr (.inl e))
  ·rcases O with q|q
   ·simp only at e;rw[q]at e;exact h.xw (.inr (.inr e))
   ·simp only at e;rw[q]at e;cases e;omega
 ·exact h.An.Au L λx X _=>h.Gn.E2 x (d x X)
def Gb.fr{X w w':World}{n0 n:WN}{W:List (Value×Int)}{xb:Nat}{a c:Int}{v O:Value}{l:List Pt}{p:Pt}(h:Gb X w H wb n0 n b life R FT puts W xb a c v l)(E:App w w' 70 2 v O (l.length+1) (B3 l++B3 [p]))(hs:l.length+1<1099511627776):
 Gb X w' H wb n0 n b life R FT puts W xb a c O (l++[p]):=by
 have I:=E.cm;have z:=h.Al;have Y:=h.Gn.Al;refine⟨h.Gn.br I (λk L e=>(h.EL.Ha k e).2.1 L) (λk L e=>(h.EL.Ha k e).2.2 L),⟨?_,by simpa using hs,λg d=>?_⟩,Dg I h.x0 λe=>h.xn xb e rfl,Dg I h.x1 λe=>h.xn xb e rfl,λg d=>?_,h.xw,h.HP,h.Mx,h.An.Au I λx z _=>(h.EL.Ha x z).1⟩
 ·unfold Cb;have:=E.AE;rw[<-Kq]at this;simpa using this
 ·rcases E.BS with e|e
  ·rw[e]at d;exact h.EL.Ha g d
  ·rw[e]at d;cases d;exact⟨Y,λz=>by have:=h.Gn.cg z;omega,λz=>by have:=h.Gn.lt _ z;omega⟩
 ·rcases E.BS with e|e
  ·rw[e]at d;exact h.xn g d
  ·rw[e]at d;cases d;omega
def Qd{n:WN}{ls:List (Value×Int)}(w:World)(v:Value)(l:List Pt)(h:LW w H wb n b life R FT puts ls)(hm:MR w H wb n FT v l)(hll:l.length<1099511627000)(hls:ls.length<1099511627000):
 Ag 94 #[A6 wb,v] w (Aj (.tuple #[]) λw'=>A4 (Up H) w w'/\∃n' E,LW w' H wb n' b life R FT puts E/\E.length=ls.length+4/\JT n n'):=by
 obtain⟨ad,cap,rfl,l1,l2,l3,-,-⟩:=Bk hm.Bp;have c15:=h.Af.cL;have z15:=h.Af.fz 15;have aU:=hm.CK;obtain⟨z,hcn⟩:∃z,IntKind.i64.wrap (n.FD+1)=z:=⟨_,rfl⟩;have hq:=h.CT (n':={n with FD:=z}) 15 (A0 z) (h.Af.e6 z) rfl rfl rfl rfl;obtain⟨k1,h1⟩:=hq;have aH:=A1 h1;have bG:=A1 k1;have bF:=A1 hm;have aP:=A1 l3;have aQ:Hid (∀g,(Value.slice ad l.length cap).oB g->g<w.heap.size/\g≠wb):=λg hg=>⟨Ay hm.Bp hg,λe=>(hm.Ha g hg).2.1 (.inl e)⟩
 have aE:(w.setCell (A9 wb 15) (A0 z)).cell? (A9 wb 15)=some (A0 z):=h1.Af.cL
 go_enter func94,ntmps94
 go_wp2;generalize aI:(w.setCell (A9 wb 15) (A0 z))=w1 at aH bG aE ⊢;have a6:w1.heap.size=w.heap.size:=by rw[<-aI];simp
 refine Bt (λw'=>w'.cell? (A9 wb 15)=some (A0 z)) 11
  (Bb [0,1,2,3,4,5,6,7,8,9,10] [10]) aE ?_
 iterate 10 (refine B1 ?_;(try simp only[Ak]))
 refine Bd λK hK=>?_;go_simp;have k2:A4 Aa w1 (w1.alloc (.cells #[A0 0,A0 0] 70)).drew:=((A4.C _ w1).ah _).aa;have aB:(w1.alloc (.cells #[A0 0,A0 0] 70)).drew.heap[w.heap.size]?=some (.cells #[A0 0,A0 0] 70 (0,0)):=by rw[<-a6];exact Bf w1 _
 refine hK _ _ (k2.ag aE) (λhS=>?_);generalize (w1.alloc (.cells #[A0 0,A0 0] 70)).drew=w2 at k2 aB ⊢;obtain⟨a,ha⟩:∃a,IntKind.i64.wrap (-z)=a:=⟨_,rfl⟩;have x0:w2.cell? (A9 w.heap.size 0)=some (A0 0):=CP aB;have x1:w2.cell? (A9 w.heap.size 1)=some (A0 0):=CP aB;have f0:w2.frozen? (A9 w.heap.size 0)=false:=by simp[World.frozen?,aB]
 have f1:w2.frozen? (A9 w.heap.size 1)=false:=by simp[World.frozen?,aB]
 have aT:Hid (Gb w ((w2.setCell (A9 w.heap.size 0) (A0 a)).setCell (A9 w.heap.size 1) (A0 z)) H wb n {n with FD:=z} b life R FT puts ls w.heap.size a z (.slice ad l.length cap) l):=by
  have aL:((w2.setCell (A9 w.heap.size 0) (A0 a)).setCell (A9 w.heap.size 1) (A0 z)).heap[w.heap.size]?=some (.cells #[A0 a,A0 z] 70 (0,0)):=BL (BL aB);have aG:=((A4.C (One w.heap.size) w2).aj (b:=w.heap.size) rfl 0 (A0 a)).aj (b:=w.heap.size) rfl 1 (A0 z);have h2:=aH.o.al k2;have hf:∀k,FG wb n k->k≠w.heap.size:=λk I e=>by
   have:=aH.o.cg (k:=k) I;omega
  have a2:∀k,FT k->k≠w.heap.size:=λk I e=>by
   have:=aH.o.lt _ I;omega
  refine⟨h2.br aG (λk I e=>hf k I e) (λk I e=>a2 k I e),⟨?_,aU,bF.o.Ha⟩,by simp only[World.cell?,aL];rfl,by simp only[World.cell?,aL];rfl,λg hg=>by have:=(aQ.o g hg).1;omega,λhx=>hf _ hx rfl,rfl,rfl,?_⟩
  ·have I:A4 (λx=>x=wb\/x=w.heap.size) w ((w2.setCell (A9 w.heap.size 0) (A0 a)).setCell (A9 w.heap.size 1) (A0 z)):=by
    (have q1:A4 (One wb) w w1:=by rw[<-aI];exact(A4.C (One wb) w).aj rfl 15 _);exact((q1.ad (S':=λx=>x=wb\/x=w.heap.size) λ_ _ e=>.inl e).Au k2 λ_ h _=>h.elim).Au aG λx hx _=>.inr hx
   exact Aw bF.o.Bp λg hg=>I.Am g (aQ.o g hg).1 λe=>by
    have:=aQ.o g hg;rcases e with e|e<;>omega
  ·have hz:=aH.o.Al;(exact(bG.o.Au k2 λ_ h _=>h.elim).Au aG λx hx _=>by cases hx;unfold Up;omega)
 rw[ha]
 (try simp only[Ak])
 refine B4 ?_;simp only[Bm,Bl];go_wp2;generalize ((w2.setCell (A9 w.heap.size 0) (A0 a)).setCell (A9 w.heap.size 1) (A0 z))=w3 at aT ⊢;go_loopw [5] (λiv wr=>∃k:Nat,k<=l.length/\iv=A0 k/\Hid (∃l',l'.length=l.length/\Gb w wr H wb n {n with FD:=z} b life R FT puts ls w.heap.size a z (.slice ad l.length cap) l')) (λiv _=>l.length-(intOf iv).toNat)
 case atStart=>exact⟨0,Ce _,rfl,l,rfl,aT.o⟩
 case round=>
  obtain⟨k,I,rfl,hT⟩:=hrel;obtain⟨w0,a8⟩:∃w0,w0=wr:=⟨_,rfl⟩;subst a8;have k0:=BR k;by_cases aV:k<l.length
  ·(have i1:(k:Int)<(l.length:Int):=by omega);obtain⟨l',W,d⟩:=hT.o;obtain⟨g,rfl⟩:=aP.o (by omega);(have X:k<l'.length:=by omega);have Y:Cb w0 (AB g l.length cap) l':=d.EL.Bp;obtain⟨o0,o1⟩:=Y.bn k X;have z0:=Ez Y (g:=g) rfl (k*2);have z1:=Ez Y (g:=g) rfl (k*2+1);have x0:=d.x0;have x1:=d.x1;have a7:Hid (∃l2,l2.length=l.length/\Gb w ((w0.setCell (A9 g (k*2)) (A0 a)).setCell (A9 g (k*2+1)) (A0 z)) H wb n {n with FD:=z} b life R FT puts ls w.heap.size a z (AB g l.length cap) l2):=by
    have O:=Y;unfold Cb at O;rw[W]at O;have s1:=(O.stored (k*2) (A0 a)).1;have s2:=(s1.stored (k*2+1) (A0 z)).1;have e:=Ko l' k (a,z) X;simp only at e;rw[e]at s2;obtain⟨f1,f2,f3⟩:=d.EL.Ha g rfl;have hc:=((A4.C (One g) w0).aj (b:=g) rfl (k*2) (A0 a)).aj (b:=g) rfl (k*2+1) (A0 z);have aW:=d.xn g rfl;have hx:∀o u,w0.cell? (A9 w.heap.size o)=some u->((w0.setCell (A9 g (k*2)) (A0 a)).setCell (A9 g (k*2+1)) (A0 z)).cell? (A9 w.heap.size o)=some u:=λo u hu=>Dg hc hu λe=>aW e.symm;refine⟨l'.set k (a,z),by rw[Hi];exact W,d.Gn.br hc (λk I e=>f2 (by cases e;exact I)) (λk I e=>f3 (by cases e;exact I)),⟨?_,by rw[Hi];exact d.EL.CK,d.EL.Ha⟩,hx _ _ x0,hx _ _ x1,d.xn,d.xw,rfl,rfl,d.An.Au hc λx hx _=>by cases hx;exact f1⟩;unfold Cb;rw[Hi,W];exact s2
   obtain⟨u0,a1⟩:∃u0,(l'[k]'X).1=u0:=⟨_,rfl⟩;obtain⟨u1,bB⟩:∃u1,(l'[k]'X).2=u1:=⟨_,rfl⟩;rw[a1]at o0;rw[bB]at o1;go_wp2;go_roundw
   case rel=>exact⟨k+1,by omega,by go_num,a7.o⟩
   case measure=>simp[intOf];omega
  ·(obtain rfl:k=l.length:=by omega);clear aT;go_wp2;clear aP aQ;obtain⟨l0,hl0,aJ⟩:=hT.o;have aK:=A1 aJ;obtain⟨i0,hi,aX,bD,a5⟩:=DG Tryz.eX;obtain⟨j0,hj,a9,aR,aY⟩:=DG Tryz.cf;clear hT aJ;go_loopw [1,6] (λvv iv wr=>∃k:Nat,k<=4/\iv=A0 k/\Hid (∃l' n' E,l'.length<=l.length+k/\E.length=ls.length+k/\Gb w wr H wb n n' b life R FT puts E w.heap.size a z vv l')) (λ_ iv _=>4-(intOf iv).toNat)
   case atStart=>exact⟨0,by omega,rfl,l0,_,ls,by omega,rfl,aK.o⟩
   case round=>
    obtain⟨k,I,rfl,hT⟩:=hrel;obtain⟨w4,aS⟩:∃w4,w4=wr:=⟨_,rfl⟩;subst aS;have k0:=BR k;by_cases aV:k<4
    ·(have i1:(k:Int)<4:=by omega);obtain⟨l',n',E,W,aA,d⟩:=hT.o;have c14:=d.Gn.Af.ej;have c15:=d.Gn.Af.cL;rw[d.HP]at c15;have x0:=d.x0;have x1:=d.x1;obtain⟨aa,cc,rfl,-⟩:=Bk d.EL.Bp;have aO:=A1 d;have bC:=A1 W;have a3:=A1 aA;(have bl:l'.length+1<1099511627776:=by omega);(have bls:E.length+1<1099511627776:=by omega);clear hT d aK W aA;go_wp2;refine Bt (λw'=>w'.cell? (A9 wb 14)=some n'.lv/\w'.cell? (A9 wb 15)=some (A0 z)) 13
      (Bb [0,1,2,3,4,5,6,7,8,9,10,11,12] [11,12]) ⟨c14,c15⟩ ?_
     iterate 11 (refine B1 ?_;(try simp only[Ak]))
     refine Bd λK hK=>?_;go_simp;have k5:A4 Aa w4 (w4.alloc (.cells #[.slice aa l'.length cc,A0 z] 91)).drew:=((A4.C _ w4).ah _).aa;refine hK _ _ ⟨k5.ag c14,k5.ag c15⟩ (λhS=>?_);clear hK K hS;have L:=A1 (aO.o.al k5);have a4:Hid (Src Tryz.prog 2 38 (AB w4.heap.size 1 1) 1 (GR [(.slice aa l'.length cc,z)]) (w4.alloc (.cells #[.slice aa l'.length cc,A0 z] 91)).drew):=
      Src.b5 (w:=(w4.alloc (.cells #[.slice aa l'.length cc,A0 z] 91)).drew) (cs:=#[.slice aa l'.length cc,A0 z]) underlying38 (Bf w4 _) 1 1 rfl (by
       intro u hu;simp at hu;rcases hu with rfl|rfl<;>rfl)
     clear k5 aO;generalize (w4.alloc (.cells #[.slice aa l'.length cc,A0 z] 91)).drew=w5 at L a4 ⊢
     (try simp only[Ak])
     refine Di rfl (by rfl) (λK hK=>?_);refine Hm (.tmp 43) (.tmp 50) 38 38 rfl 91 i0 _ 2 32 underlying38 hi aX bD a5 rfl (by decide) n'.lv E.length (GR E) (by rfl) L.o.Gn.EA _ 1 _ (by rfl) a4.o (by omega) ?_;intro b6 aD w6 hA;obtain⟨a0,z14,aF⟩:=L.o.dh hA;have aM:w6.cell? (A9 wb 15)=some (A0 z):=Dg hA.cm (L.o.Gn.Af.cL.trans (by rw[L.o.HP])) L.o.Gn.b2;refine hK _ _ ⟨a0,aM⟩ (λhS=>?_);have x0':=aF.x0;have x1':=aF.x1;have bE:=A1 aF;clear hK K hS hA a4 L aF c14 c15 x0 x1 aM
     (try simp only[Ak])
     refine B4 ?_;simp only[Bm,Bl];have aN:=A1 (bE.o.al ((A4.C Aa (w6.setCell (A9 wb 14) (.slice b6 (E.length+1) aD))).ah (.cells #[A0 a,A0 z] 70)));have bA:Hid (Src Tryz.prog 2 66 (AB w6.heap.size 1 1) 1 (B3 [(a,z)]) ((w6.setCell (A9 wb 14) (.slice b6 (E.length+1) aD)).alloc (.cells #[A0 a,A0 z] 70))):=
      Src.a8 (B:=w6.heap.size) underlying66 (w6.setCell (A9 wb 14) (.slice b6 (E.length+1) aD)) #[A0 a,A0 z] 70 (by simp) 1 1 rfl (Kp [(a,z)])
     go_wp2_with (at_builtin;refine CZ rfl (.tmp 54) (.tmp 56) 66 66 rfl 70 j0 _ 2 16 underlying66 hj a9 aR aY rfl (by decide) (.slice aa l'.length cc) l'.length (B3 l') (by rfl) aN.o.EL.Bp _ 1 _ (by rfl) bA.o (by omega) ?_;intro b8 cap8 w8 hA;have aZ:=A1 (aN.o.fr hA (by omega));clear hA);go_roundw
     case rel=>exact⟨k+1,by omega,by go_num,l'++[(a,z)],_,_,by have:=bC.o;simp;omega,by have:=a3.o;simp;omega,aZ.o⟩
     case measure=>simp[intOf];omega
    ·(obtain rfl:k=4:=by omega);go_wp2;go_end0;obtain⟨l',n',E,W,aA,d⟩:=hT.o;exact⟨rfl,d.An,n',E,d.Gn,aA,d.Mx⟩
end
end
end Go.Proofs.YtodcnkbblippnaaGreatDoor
