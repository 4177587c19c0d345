/- Part 39 of a proof: walks of the program. -/
import Derived.Test.YtodcnkbblippnabGreatDoorPart37
namespace Go.Proofs.YtodcnkbblippnabGreatDoor
set_option maxRecDepth 100000
set_option maxHeartbeats 32000000
set_option linter.defProp false
open Go.Proofs.Tryz
section
open Go.RowKit
attribute [local go_sem ↓] Cz
def Tryz.e9:(Tryz.prog.info? 72).map (λi=>(i.zero,i.size,i.bytes))=some (some (.slice none 0 0),1,24):=by kernel_rfl
def RB:∃z,Tryz.prog.info? 72=some z/\z.zero=some (.slice none 0 0)/\z.size=1/\z.bytes=24:=by
 have h:=Tryz.e9;cases hx:Tryz.prog.info? 72 with
 | none=>rw[hx]at h;cases h
 | some i=>rw[hx]at h;simp at h;exact⟨i,rfl,h.1,h.2.1,h.2.2⟩
section
variable{N:Nat}
def Tx(hS:FN N)(hN:N<=134217728)(w:World)(v:Value)(len:Int)(l:List Pu)(hl:l.length<=N)(h:AZ w v l)(hT:∀p∈l,AY p.2.1)(bI:1<=len/\len<=4611686018427387904):
 Aj 59 #[v,A0 len] w λe w'=>∃v' vs,e=.returned v'/\DM w' w.heap.size v' vs (Dd len l)/\A5 Ab w w':=by
 obtain⟨i0,hi,fK,fC,fE⟩:=RB;obtain⟨j0,hj,fN,fG,e0⟩:=Eb Ig;have k0:A5 Ab w (w.alloc (.cells #[A0 len] 3)):=(A5.C _ w).aj _;have dT:(w.alloc (.cells #[A0 len] 3)).heap[w.heap.size]?=some (.cells #[A0 len] 3 (0,0)):=BN w _;have fR:=A4 (A1O _ v l (AA h λg hg=>k0.Ao g (AG h hg) (λh=>h)) (by omega));have fY:=A4 k0;have fL:=A4 dT;have dO:Hid ((w.alloc (.cells #[A0 len] 3)).heap.size=w.heap.size+1):=by unfold Hid;simp
 have cI:Hid (∀wx vx,AZ wx vx l->Aa wx w.heap.size 0 (A0 len)->(∀g,vx.ownBlock=some g->w.heap.size≠g)->_):=λwx vx h1 h2 h3=>hS wx vx w.heap.size len l hl h1 hT bI h2 h3;have cB:Hid (Dd len l=Ej len (E8 (AE len) l) true (0,0,0) []):=rfl;have cA:∀p∈E8 (AE len) l,AY p.2.1:=λp hp=>hT p (((FY len).cv l).bA.DP (FY len) hp);have cU:(E8 (AE len) l).length=l.length:=QB l;obtain⟨R,hR⟩:∃R,Dd len l=R:=⟨_,rfl⟩;rw[hR]at cB ⊢;obtain⟨Y,dU⟩:∃Y,E8 (AE len) l=Y:=⟨_,rfl⟩;rw[dU]at cB cA cU cI;have eK:=A4 cA;have b9:=A4 bI;have hsn:Y.length<=134217728:=by omega
 have fO:=A4 cU;clear hR dU h hT k0 dT cA hS hl bI cU
 go_enter func59,ntmps59
 go_wp2_with (fail);refine fR.m ?_;rintro e w1⟨v1,rfl,eM,cN,cH⟩;have c1:Aa w1 w.heap.size 0 (A0 len):=cH.an (by simp only[World.cell?,fL.o];rfl);have dV:=A4 (cI.o w1 v1 eM c1 (λg hg=>by have:=cN g hg;have:=dO.o;omega));have fZ:Hid (A5 Ab w w1):=fY.o.tr cH;have dF:Hid (∀g,v1.ownBlock=some g->w.heap.size<g):=λg hg=>by have:=cN g hg;have:=dO.o;omega
 have fQ:=A4 c1;clear eM cN cH c1 fR cI;go_wp2_with (fail);refine dV.k ?_;rintro w2⟨cC,cV⟩;have e2:Y.length=l.length:=fO.o;obtain⟨sa,scap,rfl,s1,s2,s3,-⟩:=Bb cC;unfold maxLen at s2;have c2:Aa w2 w.heap.size 0 (A0 len):=cV.bB fQ.o (λh=>Gj _ (dF.o _ h));have gB:Hid (A5 Ab w w2):=fZ.o.AJ cV λx W bC=>by have:=dF.o x W;omega
 have cD:=A4 cC;have fV:=A4 c2;have fU:Hid (w.heap.size<w2.heap.size):=H7 w2 _ c2;have e3:=A4 s3;clear cC cV dV fQ c2 e2 s3;have eD:Hid (∀wx,A5 Ab w2 wx->∀i (hi:i<Y.length),∃g,sa=some (Ad g 0)/\Aa wx g (i*3) (A0 (Y[i]'hi).1)/\Aa wx g (i*3+1) (A0 (Y[i]'hi).2.1)/\Aa wx g (i*3+2) (A0 (Y[i]'hi).2.2)):=λwx W i hi=>by
  obtain⟨g,rfl⟩:=e3.o (by omega);obtain⟨q1,q2,q3⟩:=He Y i hi;exact⟨g,rfl,W.an (BB cD.o rfl q1),W.an (BB cD.o rfl q2),W.an (BB cD.o rfl q3)⟩
 go_wp2;go_loopw [6,18] (λv6 iv wr=>∃(i:Nat) (ws:List (List Pu)) (vs:List Value),iv=A0 i/\i<=Y.length/\Hid (DM wr w2.heap.size v6 vs ws/\A5 Ab w2 wr/\ws.length<=i/\(∀x∈ws,x.length<=i)/\(0<i->∃a0 l0,ws=a0++[l0]/\l0≠[])/\R=Ej len (Y.drop i) (decide (i=0)) (if i=0 then (0,0,0) else Y.getD (i-1) (0,0,0)) ws)) (λ_ iv _=>Y.length-(intOf iv).toNat)
 ·exact⟨0,[],[],rfl,by omega,DM.b4 _ _,A5.C _ _,Aq _,λx W=>by simp at W,λh=>absurd h (Gj 0),by simpa using cB.o⟩
 ·obtain⟨i,ws,vs,rfl,hii,hI⟩:=hrel;by_cases aT:i<Y.length
  case neg=>
   (obtain rfl:i=Y.length:=by omega);obtain⟨i1,i2,i3,i4,i5,i6⟩:=hI.o;rw[Gm]at i6;have fP:R=ws:=i6;subst fP;have aP:=A4 i1;have dC:=A4 i2;(have eV:¬((Y.length:Int)<(Y.length:Int)):=by omega);clear i1 i2 i3 i4 i5 i6 hI;obtain⟨ap,cp,rfl,hcap1,hcap2,-⟩:=Bb aP.o.Bx;go_wp2;go_ret;exact⟨_,rfl,⟨vs,aP.o.Bx,aP.o.ls,λg hg=>ES (Bm fU.o (aP.o.lo g hg)),λx W g hg=>ES (Bm fU.o (aP.o.li x W g hg)),aP.o.J0⟩,gB.o.tr dC.o⟩
  case pos=>
   obtain⟨i1,i2,i3,i4,i5,i6⟩:=hI.o;obtain⟨g,rfl,p1,p2,p3⟩:=eD.o wr i2 i aT;rw[Vx len Y i aT]at i6;have cP:=eK.o _ (BS aT);obtain⟨p,hp⟩:∃p,(Y[i]'aT)=p:=⟨_,rfl⟩;rw[hp]at p1 p2 p3 i6 cP;obtain⟨O,I,pc⟩:=p;dsimp only at p1 p2 p3 cP;have cS:C5 (wr.alloc (.cells #[A0 O,A0 I,A0 pc] 90)) wr.heap.size O I pc:=BN wr _;have kp:A5 Ab wr (wr.alloc (.cells #[A0 O,A0 I,A0 pc] 90)):=(A5.C _ wr).aj _;(have eV:(i:Int)<(Y.length:Int):=by omega);have hk0:=Cd i;have aP:=A4 i1;have dC:=A4 i2;have eF:=A4 i3;have dJ:=A4 i4;have fT:=A4 i5;have fM:Hid (w2.heap.size<=wr.heap.size):=i2.Am;have a4:=A4 cS;have aZ:=A4 kp;(have eS:Hid (∀k:Nat,k<=i->(k+1)*24<=140737488355328):=λk hk=>by omega);have aX:Hid (∀cG,EC len ws (decide (i=0)) (if i=0 then (0,0,0) else Y.getD (i-1) (0,0,0)) (O,I,pc)=cG->R=Ej len (Y.drop (i+1)) (decide (i+1=0)) (if i+1=0 then (0,0,0) else Y.getD (i+1-1) (0,0,0)) cG):=λcG h=>by
    (have eT:Y.getD i (0,0,0)=(O,I,pc):=by rw[HR,Ef aT,hp];rfl);rw[Ae (Nat.succ_ne_zero i),A2O,eT,i6,h];simp
   obtain⟨a7,a2,e6,bZ,eN,dL,-⟩:=Bb i1.Bx;have dY:=A4 dL;clear dL;unfold maxLen at eN;obtain⟨pk,aY⟩:∃pk,wr.heap.size=pk:=⟨_,rfl⟩;rw[aY]at a4 fM;have aM:=A4 aY;by_cases aJ:i=0
   focus
    subst e6;(have hz:((i:Int)==0)=true:=by simp[aJ]);have aL:Hid (EC len ws (decide (i=0)) (if i=0 then (0,0,0) else Y.getD (i-1) (0,0,0)) (O,I,pc)=GJ ws [] (O,I,pc)):=PX len ws _ _ _ (.inl (by simp[aJ]));clear hI i1 i2 i3 i4 i5 i6 cS kp hp aY aJ;go_wp2;rw[aM.o];go_quiet (fail);have aG:=A4 (aP.o.aP (aZ.o.bb nq));have aA:=A4 (a4.o.ak ((A5.C Ab _).bb nq) (λh=>h));have dB:=A4 (dC.o.tr (aZ.o.bb nq));generalize ((wr.alloc (.cells #[A0 O,A0 I,A0 pc] 90)).drewN nq)=wY at aG aA dB ⊢
   rotate_left
   focus
    obtain⟨P,cQ⟩:∃P,P=i-1:=⟨_,rfl⟩;(have bD:P<Y.length:=by omega);obtain⟨gq,fH,q1,q2,q3⟩:=eD.o wr i2 P bD;cases fH;have bR:=eK.o _ (BS bD);(have bK:Y.getD P (0,0,0)=Y[P]'bD:=by rw[HR,Ef bD];rfl);obtain⟨q,hq⟩:∃q,(Y[P]'bD)=q:=⟨_,rfl⟩;rw[hq]at q2 bR bK;obtain⟨qa,qb,qc⟩:=q;dsimp only at q2 bR;have bG:=A4 (λwx=>N7 wx I len cP b9.o);have bE:=A4 (λwx=>N7 wx qb len bR b9.o);have aN:Hid (BH I len≠BH qb len->EC len ws (decide (i=0)) (if i=0 then (0,0,0) else Y.getD (i-1) (0,0,0)) (O,I,pc)=GJ ws [] (O,I,pc)):=λh=>by
     rw[Ae aJ,<-cQ,bK];exact PX len ws _ _ _ (.inr h)
    have aH:Hid (∀a0 l0,ws=a0++[l0]->BH I len=BH qb len->EC len ws (decide (i=0)) (if i=0 then (0,0,0) else Y.getD (i-1) (0,0,0)) (O,I,pc)=GJ a0 l0 (O,I,pc)):=λa0 l0 e h=>by
     rw[Ae aJ,<-cQ,bK,Dw aJ,e];exact Vz len a0 l0 _ _ h
    (have hz:((i:Int)==0)=false:=by simpa using aJ);obtain⟨dD,eH⟩:∃dD,BH I len=dD:=⟨_,rfl⟩;obtain⟨eQ,dS⟩:∃eQ,BH qb len=eQ:=⟨_,rfl⟩;rw[eH]at bG aN aH;rw[dS]at bE aN aH;(have eP0:IntKind.i64.wrap ((i:Int)-1)=(P:Int):=by simp[IntKind.wrap,IntKind.bits,IntKind.signed];omega);(have eP1:wrap64 ((i:Int)-1)=(P:Int):=by unfold wrap64;omega);have hP0:=Cd P;(have hPn:(P:Int)<(Y.length:Int):=by omega);have eR:=A4 (aZ.o.an q2);(have dR:Hid (0<i):=by unfold Hid;omega);have bU:=A4 (aZ.o.an (i2.an fV.o));clear hI i1 i2 i3 i4 i5 i6 cS kp hp aY aJ cQ bR bK hq q1 q2 q3 eH dS;by_cases bL:dD=eQ
   rotate_left
   focus
    subst e6;(have eW:(dD !=eQ)=true:=by simpa using bL);have aL:=A4 (aN.o bL);clear bL aN aH;go_wp2;rw[aM.o];generalize wr.alloc (.cells #[A0 O,A0 I,A0 pc] 90)=wA at a4 aZ eR bU ⊢;have aG:=A4 (aP.o.aP aZ.o.ad);have aA:=A4 a4.o.ad;have dB:=A4 (dC.o.tr aZ.o.ad);have z1:=aA.o.c1;have z2:Aa wA.drew g (P*3+1) (A0 qb):=eR.o;have z3:Aa wA.drew w.heap.size 0 (A0 len):=bU.o;refine Ce (λw'=>Aa w' pk 1 (A0 I)/\Aa w' g (P*3+1) (A0 qb)/\Aa w' w.heap.size 0 (A0 len)) 18
     (BD [0,1,2,3,4,5,6,8,9,10,11,12,13,14,15,7,16,17] [7,16]) ⟨z1,z2,z3⟩ ?_
    iterate 15 refine Bq ?_
    refine By λK hK=>?_;go_simp;refine(bG.o _).k ?_;rintro w3 rfl;refine hK _ _ ⟨z1,z2,z3⟩ (λhS=>?_);clear hK K hS;refine By λK hK=>?_;go_simp;refine(bE.o _).k ?_;rintro w3 rfl;refine hK _ _ ⟨z1,z2,z3⟩ (λhS=>?_);clear hK K hS bG bE;refine Bq ?_;refine Cc ?_;generalize wA.drew=wY at aG aA dB z1 z2 z3 ⊢;clear z1 z2 z3
   rotate_left 2
   focus
    subst bL;(have eW:(dD !=dD)=false:=by simp);obtain⟨ws,z,rfl,aK⟩:=fT.o dR.o;have aL:=A4 (aH.o ws z rfl rfl);(have bO:(ws++[z]).length=ws.length+1:=by simp);have cE:=aP.o.Bi;obtain⟨vs,lv,rfl⟩:∃fJ lv,vs=fJ++[lv]:=by
     (have dZ:vs≠[]:=by intro h;subst h;simp at cE);exact⟨vs.dropLast,vs.getLast dZ,(Ln dZ).symm⟩
    (have aS:vs.length=ws.length:=by simpa using cE);have aU:AZ wr lv z:=by
     have h1:=aP.o.ls vs.length (by simp) (by simp;omega);(have e1:(vs++[lv])[vs.length]'(by simp)=lv:=by simp);(have e2:(ws++[z])[vs.length]'(by simp;omega)=z:=by rw[Gl (by omega)];simp[aS]);rw[e1,e2]at h1;exact h1
    obtain⟨la,H,rfl,l1,l2,l3,-⟩:=Bb aU;obtain⟨gl,rfl⟩:=l3 (Ja.2 aK);unfold maxLen at l2;obtain⟨l0,q0,aV⟩:∃l0 q0,z=l0++[q0]:=⟨z.dropLast,z.getLast aK,(Ln aK).symm⟩;obtain⟨X,bM⟩:∃X,X=l0.length:=⟨_,rfl⟩;(have cX:z.length=X+1:=by rw[aV,bM];simp);rw[bO]at e6 bZ;subst e6;obtain⟨g0,rfl⟩:=dY.o (by rw[bO];omega);obtain⟨c1,c2,c3⟩:=He z X (by omega);(have eO:z[X]'(by omega)=q0:=by subst aV;rw[Gl (by omega)];simp[bM]);rw[eO]at c1 c2 c3;have b0:Hid (z.length<=i):=dJ.o z (by simp);(have bH:Hid (ws.length+1<=i+1):=by have:=eF.o;rw[bO]at this;unfold Hid;omega);have fS:Hid (∀wx,A5 Ab wr wx->Aa wx g0 ws.length (AN gl (X+1) H)/\Aa wx gl (X*3) (A0 q0.1)/\Aa wx gl (X*3+1) (A0 q0.2.1)/\Aa wx gl (X*3+2) (A0 q0.2.2)):=λwx W=>
     ⟨W.an (by rw[<-aS,<-cX];exact BB aP.o.Bx rfl (by rw[Ht (Aq _)];simp)),W.an (BB aU rfl c1),W.an (BB aU rfl c2),W.an (BB aU rfl c3)⟩
    have fI:Hid (gl≠pk):=by
     have h1:=AG aU (g:=gl) rfl;have h2:=aM.o;unfold Hid;omega
    have dW:=A4 (λwx=>NF wx (O,I,pc) q0);have bQ:Hid (¬Cq (O,I,pc) q0=0->GJ ws z (O,I,pc)=ws++[z++[(O,I,pc)]]):=λh=>by
     unfold GJ;rw[Ae];rintro⟨-,h2⟩;rw[aV]at h2;simp at h2;exact h h2
    have bS:Hid (Cq (O,I,pc) q0=0->GJ ws z (O,I,pc)=ws++[l0++[(O,I,pc)]]):=λh=>by
     unfold GJ;rw[Ah ⟨aK,by rw[aV];simpa using h⟩,aV];simp
    obtain⟨cc,cF⟩:∃cc,Cq (O,I,pc) q0=cc:=⟨_,rfl⟩;rw[cF]at bQ bS;have eY:=A4 aV;have e9:=A4 bM;have e5:=A4 cX;have b8:=A4 aU;(have fD:X+1<=i:=by have:=dJ.o z (by simp);omega);(have hgt:(0:Int)<(X:Int)+1:=by omega);(have em:IntKind.i64.wrap (X:Int)=(X:Int):=by simp[IntKind.wrap,IntKind.bits,IntKind.signed];omega);(have em0:IntKind.i64.wrap ((X:Int)+1-1)=(X:Int):=by rw[Jg];exact em);(have em1:wrap64 ((X:Int)+1-1)=(X:Int):=by unfold wrap64;omega);have hm00:=Cd X;(have hm01:(X:Int)<(X:Int)+1:=by omega);(have bP:IntKind.i64.wrap (ws.length:Int)=(ws.length:Int):=by have:=bH.o;simp[IntKind.wrap,IntKind.bits,IntKind.signed];omega);(have dG:IntKind.i64.wrap ((ws.length:Int)+1-1)=(ws.length:Int):=by rw[Jg];exact bP);(have dN:wrap64 ((ws.length:Int)+1-1)=(ws.length:Int):=by have:=bH.o;unfold wrap64;omega);have eP:(0:Int)<=(ws.length:Int):=Gn _;(have dP:(ws.length:Int)<(ws.length:Int)+1:=by omega);obtain⟨eJ,dH,dI⟩:=q0;unfold DB at dW;dsimp only at fS dW;rw[cF]at dW;clear aN aH aK cE aS aU l1 l3 aV bM cX c1 c2 c3 eO bO cF bZ dY fT fD;go_wp2;rw[aM.o];generalize wr.alloc (.cells #[A0 O,A0 I,A0 pc] 90)=wA at a4 aZ eR bU ⊢;have aG:=A4 (aP.o.aP aZ.o.ad);have aA:=A4 a4.o.ad;have dB:=A4 (dC.o.tr aZ.o.ad);have z1:=aA.o.c1;have z2:Aa wA.drew g (P*3+1) (A0 qb):=eR.o;have z3:Aa wA.drew w.heap.size 0 (A0 len):=bU.o;refine Ce (λw'=>Aa w' pk 1 (A0 I)/\Aa w' g (P*3+1) (A0 qb)/\Aa w' w.heap.size 0 (A0 len)) 18
     (BD [0,1,2,3,4,5,6,8,9,10,11,12,13,14,15,7,16,17] [7,16]) ⟨z1,z2,z3⟩ ?_
    iterate 15 refine Bq ?_
    refine By λK hK=>?_;go_simp;refine(bG.o _).k ?_;rintro w3 rfl;refine hK _ _ ⟨z1,z2,z3⟩ (λhS=>?_);clear hK K hS;refine By λK hK=>?_;go_simp;refine(bE.o _).k ?_;rintro w3 rfl;refine hK _ _ ⟨z1,z2,z3⟩ (λhS=>?_);clear hK K hS bG bE;refine Bq ?_;refine Cc ?_;have aO:=A4 (λwx (W:A5 Ab wA wx)=>fS.o wx (aZ.o.tr W));have oc:=(aO.o wA.drew (A5.C _ wA).ad).1;go_wp2;have gA:=(aO.o wA.drew.drew (A5.C _ wA).ad.ad);have f0:=aA.o.ad.c0;have f1:=aA.o.ad.c1;have f2:=aA.o.ad.c2;obtain⟨d0,d1,d2,d3⟩:=gA;refine Ce (λw'=>Aa w' g0 ws.length (AN gl (X+1) H)/\Aa w' gl (X*3) (A0 eJ)/\Aa w' gl (X*3+1) (A0 dH)/\Aa w' gl (X*3+2) (A0 dI)/\Aa w' pk 0 (A0 O)/\Aa w' pk 1 (A0 I)/\Aa w' pk 2 (A0 pc)) 13
     (BD [0,1,2,3,4,5,6,7,8,9,10,11,12] [11]) ⟨d0,d1,d2,d3,f0,f1,f2⟩ ?_
    iterate 11 refine Bq ?_
    refine By λK hK=>?_;go_simp;refine(dW.o _).k ?_;rintro wX cZ;have k6:A5 Ab wA wX:=((A5.C Ab wA).ad.ad).tr cZ;have bA:=aA.o.ak ((A5.C Ab wA.drew).ad.tr cZ) (λh=>h);refine hK _ _ ⟨(aO.o wX k6).1,(aO.o wX k6).2.1,(aO.o wX k6).2.2.1,(aO.o wX k6).2.2.2,bA.c0,bA.c1,bA.c2⟩ (λhS=>?_);have bT:=A4 (aP.o.aP (aZ.o.tr k6));have eA:=A4 (dC.o.tr (aZ.o.tr k6));have aF:=A4 bA;have cL:=A4 k6;have a6:Hid (AZ wX (AN gl z.length H) z):=AA b8.o λg hg=>(aZ.o.tr k6).Ao g (AG b8.o hg) (λh=>h)
    clear hK K hS cZ k6 bA f0 f1 f2 d0 d1 d2 d3 oc z1 z2 z3 dW aG aA dB;by_cases a3:cc=0
    ·(have fB:(cc==0)=true:=by simpa using a3);have aB:=A4 (aL.o.trans (bS.o a3));have a9:=A4 (aX.o _ aB.o);clear a3 bS bQ aL aX aB;refine Bq ?_;refine Cc ?_;go_wp2;obtain⟨d0,d1,d2,d3⟩:=aO.o wX.drew cL.o.ad;have f0:=aF.o.ad.c0;have f1:=aF.o.ad.c1;have f2:=aF.o.ad.c2;refine Ce (λw'=>Aa w' g0 ws.length (AN gl (X+1) H)/\Aa w' gl (X*3) (A0 eJ)/\Aa w' gl (X*3+1) (A0 dH)/\Aa w' gl (X*3+2) (A0 dI)/\Aa w' pk 0 (A0 O)/\Aa w' pk 1 (A0 I)/\Aa w' pk 2 (A0 pc)) 6
      (BD [0,1,2,3,4,5] []) ⟨d0,d1,d2,d3,f0,f1,f2⟩ ?_
     iterate 6 refine Bq ?_
     refine Cc ?_;have fz:∀o,wX.drew.frozen? (Ad gl o)=false:=λo=>Ga (a6.o:wX.drew.ownsRow 0 90 3 (AN gl z.length H) z.length (Ba z)) rfl o;obtain⟨-,b1,b2,b3⟩:=aO.o wX cL.o;have fy:∀o,wX.frozen? (Ad gl o)=false:=λo=>Ga a6.o rfl o;(have eI:X<z.length:=by rw[e5.o];exact UZ _);have eZ:=AZ.bp (w:=wX) (g:=gl) (n:=z.length) (cap:=H) (l:=z) a6.o X eI (O,I,pc);have a5:z.set X (O,I,pc)=l0++[(O,I,pc)]:=by
      rw[eY.o,e9.o,K7 _ _ (Aq _)];simp
     (have cJ:(l0++[(O,I,pc)]).length=z.length:=by rw[<-a5,J9]);rw[a5]at eZ;(have kc:A5 (λk=>(AN gl z.length H).ownBlock=some k) wX (((wX.sC gl (X*3) (A0 O)).sC gl (X*3+1) (A0 I)).sC gl (X*3+2) (A0 pc)).drew:=(((((A5.C (One gl) wX).ao (b:=gl) rfl _ _).ao (b:=gl) rfl _ _).ao (b:=gl) rfl _ _).ad).ae (S':=λk=>(AN gl z.length H).ownBlock=some k) λk _ h=>by cases h;rfl);have aE:=A4 (bT.o.e8 kc (l':=l0++[(O,I,pc)]) (by unfold AZ;rw[cJ];exact AA eZ λ_ _=>rfl));have fW:=A4 (eA.o.AJ (S':=λk=>(AN gl z.length H).ownBlock=some k) kc λy hy bC=>absurd bC (Pc.2 (bT.o.li (AN gl z.length H) (by simp) y hy)));(have e7:Hid ((l0++[(O,I,pc)]).length<=i+1):=by rw[cJ];exact Pf b0.o);clear eZ a5 cJ kc eI a6 cL f0 f1 f2;go_wp2;go_roundw
     ·exact⟨i+1,ws++[l0++[(O,I,pc)]],vs++[AN gl z.length H],by go_num,aT,aE.o,fW.o,(by rw[AX];exact bH.o),(λx W=>(AU.1 W).elim (λW=>Pf (dJ.o x (AU.2 (.inl W)))) (λW=>by rw[Hr.1 W];exact e7.o)),λ_=>⟨ws,_,rfl,by simp⟩,a9.o⟩
     ·simp[intOf];omega
    (have fB:(cc==0)=false:=by simpa using a3);have aB:=A4 (aL.o.trans (bQ.o a3));clear a3 bS bQ aL;obtain⟨la,aR⟩:∃la:Option Addr,la=some (Ad gl 0):=⟨_,rfl⟩;(have cY:Hid (DM wX w2.heap.size (AN g0 (ws.length+1) a2) (vs++[.slice la z.length H]) (ws++[z])):=by subst aR;exact bT.o);have eG:Hid (∀x∈ws++[z],x.length<=i):=dJ.o;have cO:Hid (z.length<=i):=b0.o;have bV:Hid (¬(Value.slice la z.length H).ownBlock=some pk):=λh=>by
     rw[aR]at h;cases h;exact fI.o rfl
    clear aR a6 bT;refine Bq ?_;refine Cc ?_
   rotate_left
   iterate 2
    focus
     have bB:Hid ((wY.alloc (.cells #[.slice none 0 0] 72)).ownsRow 0 72 1 (.slice a7 ws.length a2) ws.length vs):=AA aG.o.Bx λg hg=>((A5.C Ab wY).aj _).Ao g (AG aG.o.Bx hg) (λh=>h)
     have bW:=A4 (Src.ba (size:=1) (B:=wY.heap.size) underlying131 wY #[.slice none 0 0] 72 (by simp) 1 1 rfl (by simp[Value.oneCell']));have cM:=A4 (dB.o.aj (.cells #[.slice none 0 0] 72));have b4:=A4 (aG.o.aP ((A5.C Ab wY).aj (.cells #[.slice none 0 0] 72)));have bX:=A4 (aA.o.ak ((A5.C Ab wY).aj (.cells #[.slice none 0 0] 72)) (λh=>h));(have bY:Hid ((ws.length+1)*24<=140737488355328):=by have h1:=eF.o;unfold Hid;omega);have dM:Hid (∀g,(Value.slice a7 ws.length a2).ownBlock=some g->pk≠g):=λg hg e=>by
      subst e;have:=AG aP.o.Bx hg;have h2:=aM.o;omega
     (have bP:IntKind.i64.wrap (ws.length:Int)=(ws.length:Int):=by have:=eF.o;simp[IntKind.wrap,IntKind.bits,IntKind.signed];omega);(have dG:IntKind.i64.wrap ((ws.length:Int)+1-1)=(ws.length:Int):=by rw[Jg];exact bP);(have dN:wrap64 ((ws.length:Int)+1-1)=(ws.length:Int):=by have:=eF.o;unfold wrap64;omega);have eP:(0:Int)<=(ws.length:Int):=Gn _;(have dP:(ws.length:Int)<(ws.length:Int)+1:=by omega);go_wp2_with (at_builtin;refine De rfl (.tmp 42) (.tmp 43) 131 131 rfl 72 i0 _ 1 24 underlying131 hi fK fC fE rfl (by decide) (.slice a7 ws.length a2) ws.length vs (by rfl) bB.o _ 1 _ (by rfl) bW.o bY.o ?_;intro a8 aD w8 hA;have dQ:=A4 hA;clear hA;obtain⟨a8',c8',e8,r1,r2,r3,-⟩:=Bb dQ.o.AP;cases e8;obtain⟨g0,rfl⟩:=r3 (Nat.succ_pos _);clear r3;have e4:Aa w8 g0 ws.length (.slice none 0 0):=BB dQ.o.AP rfl (by rw[<-aG.o.Bi,Ht (Aq _)];simp));go_quiet (fail);have cT:=dQ.o.An (S:=λk=>(Value.slice a7 ws.length a2).ownBlock=some k) λ_ h=>h;have dA:=A4 ((b4.o.cj dQ.o cM.o.Am).aP ((A5.C Ab w8).bb nq));have aF:=A4 ((bX.o.ak cT (λh=>dM.o _ h rfl)).ak ((A5.C Ab w8).bb nq) (λh=>h));have eA:=A4 ((cM.o.AJ (S':=λk=>(Value.slice a7 ws.length a2).ownBlock=some k) cT λy hy bC=>absurd bC (Pc.2 (aP.o.lo y hy))).tr ((A5.C Ab w8).bb nq));generalize w8.drewN nq=wX at dA aF eA ⊢;obtain⟨z,aI⟩:∃z:List Pu,z=[]:=⟨_,rfl⟩;obtain⟨la,aR⟩:∃la:Option Addr,la=none:=⟨_,rfl⟩;obtain⟨H,bJ⟩:∃H:Nat,H=0:=⟨_,rfl⟩;(have cY:Hid (DM wX w2.heap.size (AN g0 (ws.length+1) aD) (vs++[.slice la z.length H]) (ws++[z])):=by subst aI aR bJ;exact dA.o);(have aB:Hid (EC len ws (decide (i=0)) (if i=0 then (0,0,0) else Y.getD (i-1) (0,0,0)) (O,I,pc)=ws++[z++[(O,I,pc)]]):=by unfold Hid;rw[aL.o];subst aI;simp[GJ]);have eG:Hid (∀x∈ws++[z],x.length<=i):=λx W=>by
      rcases AU.1 W with W|W
      ·exact dJ.o x W
      ·rw[Hr.1 W,aI];exact C8 _
     have bH:Hid (ws.length+1<=i+1):=Pa eF.o;(have cO:Hid (z.length<=i):=by rw[aI];exact C8 _);(have bV:Hid (¬(Value.slice la z.length H).ownBlock=some pk):=by rw[aR];simp[Hid,Value.ownBlock]);clear aI aR bJ e4 cT dA dQ b4 cM bX bB bW bY dM aL bP dG dN eP dP
    rotate_left
   all_goals
    have eC:Hid (Aa wX g0 ws.length (.slice la z.length H)):=by
     (have aS:vs.length=ws.length:=by have:=cY.o.Bi;simpa using this);rw[<-aS];exact BB cY.o.Bx rfl (by rw[Ht (Aq _)];simp)
    have oc:=eC.o;have eU:Hid (AZ wX (.slice la z.length H) z):=by
     (have aS:vs.length=ws.length:=by have:=cY.o.Bi;simpa using this);have h1:=cY.o.ls vs.length (by simp) (by simp;omega);(have e1:(vs++[Value.slice la z.length H])[vs.length]'(by simp)=.slice la z.length H:=by simp);(have e2:(ws++[z])[vs.length]'(by simp;omega)=z:=by rw[Gl (by omega)];simp[aS]);rw[e1,e2]at h1;exact h1
    obtain⟨la',lcap',fA,la1,eX,-⟩:=Bb eU.o;cases fA;unfold maxLen at eX;have f0:=aF.o.ad.c0;have f1:=aF.o.ad.c1;have f2:=aF.o.ad.c2;have dK:Aa wX.drew g0 ws.length (.slice la z.length H):=oc;go_wp2;refine Ce (λw'=>Aa w' g0 ws.length (.slice la z.length H)/\Aa w' pk 0 (A0 O)/\Aa w' pk 1 (A0 I)/\Aa w' pk 2 (A0 pc)) 7
     (BD [0,1,2,3,4,5,6] [5,6]) ⟨dK,f0,f1,f2⟩ ?_
    iterate 5 refine Bq ?_
    refine By λK hK=>?_;go_simp;have ka:A5 Ab wX (wX.alloc (.cells #[A0 O,A0 I,A0 pc] 90)).drew:=((A5.C _ _).aj _).ad;have bF:=aF.o.ak ka (λh=>h);have eL:Hid (AZ (wX.alloc (.cells #[A0 O,A0 I,A0 pc] 90)).drew (.slice la z.length H) z):=AA eU.o λg hg=>ka.Ao g (AG eU.o hg) (λh=>h);have aW:=A4 (cY.o.aP ka);have b7:Hid (Src Tryz.prog 3 72 (AN wX.heap.size 1 1) 1 #[A0 O,A0 I,A0 pc].toList (wX.alloc (.cells #[A0 O,A0 I,A0 pc] 90)).drew):=by
     have hb:(wX.alloc (.cells #[A0 O,A0 I,A0 pc] 90)).drew.heap[wX.heap.size]?=some (.cells #[A0 O,A0 I,A0 pc] 90 (0,0)):=BN wX _;exact Src.cw underlying72 hb 1 1 rfl (I6 [(O,I,pc)])
    refine hK _ _ ⟨ka.an oc,bF.c0,bF.c1,bF.c2⟩ (λhS=>?_);have eE:=A4 bF;have fF:=A4 ka;clear hK K hS bF ka oc f0 f1 f2 dK;refine Dt rfl (by rfl) (λK hK=>?_);refine Hx (.tmp 78) (.tmp 80) 72 72 rfl 90 j0 _ 3 24 underlying72 hj fN fG e0 rfl (by decide) (.slice la z.length H) z.length (Ba z) (by rfl) eL.o _ 1 _ (by rfl) b7.o (eS.o _ cO.o) ?_;intro a8 aD w8 hA;have a1:=hA.An (S:=λk=>(Value.slice la z.length H).ownBlock=some k) λ_ h=>h;have b6:AZ w8 (.slice a8 (z.length+1) aD) (z++[(O,I,pc)]):=by
     (have e:(z++[(O,I,pc)]).length=z.length+1:=by simp);unfold AZ;rw[IJ,e];exact hA.AP
    have dE:∀g,(Value.slice a8 (z.length+1) aD).ownBlock=some g->(Value.slice la z.length H).ownBlock=some g\/(wX.alloc (.cells #[A0 O,A0 I,A0 pc] 90)).drew.heap.size<=g:=λg hg=>by
     rcases hA.Cu with h|h
     ·rw[h]at hg;exact .inl hg
     ·rw[h]at hg;cases hg;exact .inr (Aq _)
    have dX:w2.heap.size<=(wX.alloc (.cells #[A0 O,A0 I,A0 pc] 90)).drew.heap.size:=AH eA.o.Am fF.o.Am;(have b5:vs.length=ws.length:=by have:=cY.o.Bi;simpa using this);have aE:=aW.o.eW a1 b6 dE dX;rw[b5]at aE;have aE:=A4 aE;(have aQ:Value.slice la z.length H∈vs++[Value.slice la z.length H]:=by simp);have bN:=eE.o.ak a1 bV.o;have eB:Aa w8 g0 ws.length (.slice la z.length H):=a1.bB (fF.o.an eC.o) (λh=>aW.o.ne aQ h rfl);have hofz8:w8.frozen? (Ad g0 ws.length)=false:=by
     have hb:=a1.Ao g0 (AG aW.o.Bx rfl) (λh=>aW.o.ne aQ h rfl);have:=Ga aW.o.Bx (g:=g0) rfl ws.length;unfold World.frozen? at this ⊢;rw[hb];exact this
    refine hK _ _ ⟨eB,bN.c0,bN.c1,bN.c2⟩ (λhS=>?_);have fX:Hid (A5 Ab w2 (w8.sC g0 ws.length (.slice a8 (z.length+1) aD))):=((eA.o.tr fF.o).AJ (S':=λk=>(Value.slice la z.length H).ownBlock=some k) a1 λy hy bC=>by have:=aW.o.li _ aQ _ hy;omega).bn (p:=(Ad g0 ws.length)) (λh=>by have:=aW.o.lo g0 rfl;have h':g0<w2.heap.size:=h;omega) _;have a9:=A4 (aX.o _ aB.o);clear hK K hS hA a1 b6 dE dX bN b7 eL b5 aX aB;refine Cc ?_;go_wp2;go_roundw
    ·exact⟨i+1,ws++[z++[(O,I,pc)]],vs++[.slice a8 (z.length+1) aD],by go_num,aT,aE.o,fX.o,(by rw[AX];exact bH.o),(λx W=>(AU.1 W).elim (λW=>Pf (eG.o x (AU.2 (.inl W)))) (λW=>by rw[Hr.1 W,AX];exact Pa cO.o)),λ_=>⟨ws,_,rfl,by simp⟩,a9.o⟩
    ·simp[intOf];omega
end
def Vy(len:Int)(ws:List (List Pu))(first:Bool)(O p:Pu):
 (EC len ws first O p).length<=ws.length+1/\Df (EC len ws first O p)<=Df ws+1/\∀x∈EC len ws first O p,∀y∈x,y=p\/∃z∈ws,y∈z:=by
 obtain⟨h,aA,h1,h2,h3⟩:∃h,(if first=true\/BH p.2.1 len≠BH O.2.1 len then ws++[[]] else ws)=h/\(h.length<=ws.length+1)/\Df h=Df ws/\(∀x∈h,∀y∈x,∃z∈ws,y∈z)/\True:=by
  refine⟨_,rfl,?_⟩;split
  ·refine⟨by simp,by simp[Df],λx I y H=>?_,trivial⟩;rcases AU.1 I with I|I
   ·exact⟨x,I,H⟩
   ·simp at I;subst I;simp at H
  ·exact⟨by omega,rfl,λx I y H=>⟨x,I,H⟩,trivial⟩
 have hl1:h=[]\/h.length<=ws.length+1:=.inr h1;have X:h.dropLast.length+1<=ws.length+1:=by
  rw[V9];have:h.length<=ws.length+1:=h1;omega
 have key:∀t:List Pu,t.length<=(h.getLastD []).length+1->Df (h.dropLast++[t])<=Df ws+1:=λt ht=>by
  rw[LC,<-h2];rcases Lk h with rfl|⟨a,b,W⟩
  ·simp[Df]at ht ⊢;omega
  ·rw[Vd]at W;subst W;(have e1:(a++[b]).getLastD []=b:=by rw[Ka];simp);rw[e1]at ht;rw[List.dropLast_concat,LC];simp[Df];omega
 have Y:∀y∈h.getLastD [],∃z∈ws,y∈z:=λy H=>by
  rcases Lk h with rfl|⟨a,b,W⟩
  ·simp at H
  ·rw[Vd]at W;subst W;(have e1:(a++[b]).getLastD []=b:=by rw[Ka];simp);rw[e1]at H;exact h3.1 b (by simp) y H
 unfold EC;dsimp only
 rw[aA];split
 ·refine⟨by simpa using X,key _ (by simp),λx I y H=>?_⟩;rcases AU.1 I with I|I
  ·exact .inr (h3.1 x (Vc _ I) y H)
  ·rw[Hr]at I;subst I;rcases AU.1 H with H|H
   ·exact .inr (Y y (Vc _ H))
   ·exact .inl (Hr.1 H)
 ·refine⟨by simpa using X,key _ (by simp),λx I y H=>?_⟩;rcases AU.1 I with I|I
  ·exact .inr (h3.1 x (Vc _ I) y H)
  ·rw[Hr]at I;subst I;rcases AU.1 H with H|H
   ·exact .inr (Y y H)
   ·exact .inl (Hr.1 H)
def PV(len:Int):∀(l:List Pu) (first:Bool) (H:Pu) (ws:List (List Pu)),
 (Ej len l first H ws).length<=ws.length+l.length/\Df (Ej len l first H ws)<=Df ws+l.length/\∀x∈Ej len l first H ws,∀y∈x,y∈l\/∃z∈ws,y∈z
 | [],_,_,ws=>⟨Aq _,Aq _,λx O y I=>.inr ⟨x,O,I⟩⟩
 | p::r,first,H,ws=>by
  have⟨s1,s2,s3⟩:=Vy len ws first H p
  have⟨h1,h2,h3⟩:=PV len r false p (EC len ws first H p);unfold Ej;refine⟨by simp;omega,by simp;omega,λx O y I=>?_⟩;rcases h3 x O y I with h|⟨z,W,h⟩
  ·exact .inl (Bn _ h)
  ·rcases s3 z W y h with rfl|h
   ·exact .inl Bp
   ·exact .inr h
def We{l:List (List Pu)}{x:List Pu}(h:x∈l):x.length<=Df l:=by
 induction l with
 | nil=>cases h
 | cons a r ih=>
  rw[Ni];rcases BF.1 h with rfl|h
  ·omega
  ·have:=ih h;omega
def On(len:Int)(l:List Pu):(Dd len l).length<=l.length/\Df (Dd len l)<=l.length/\∀x∈Dd len l,(∀p∈x,p∈l)/\x.length<=l.length:=by
 have⟨H,I,h3⟩:=PV len (E8 (AE len) l) true (0,0,0) [];rw[QB]at H I;have e:Ej len (E8 (AE len) l) true (0,0,0) []=Dd len l:=rfl;rw[e]at H I h3;have H:(Dd len l).length<=l.length:=by simpa using H
 have I:Df (Dd len l)<=l.length:=by
  have e0:Df []=0:=rfl;omega
 refine⟨H,I,λx O=>⟨λp W=>?_,?_⟩⟩
 ·rcases h3 x O p W with h|⟨z,X,-⟩
  ·exact((FY len).cv l).bA.DP (FY len) h
  ·cases X
 ·have:=We O;omega
section
variable{N ab b a c m B:Nat}{A:Ar}{P:PD}{FT:Nat->Prop}
def A2c(hS:FN N)(hN:N<=134217728)(w:World)(h:AD w ab b A P FT)(a2:∀k,FT k->k<w.heap.size)(Ay:Int)(hw:1<=Ay/\Ay<=4611686018427387904)(aE:(P.puts A.j.Al).1.length<=N)(aB:∀p∈(P.puts A.j.Al).1,B8 p)(aZ:0<=A.A8/\A.A8+N<=9223372036854775807)(aQ:AY (A.j.A8+1))(aP:∀x∈A.ix.segs,AY x)(hF:Fit P a c m)(hl:CN (a+N+2) (c+2*a+2*N+4) (m+29*N+12+8*A.ix.segs.length))(hm:A.j.Al.length*m<=70368744177664)(hkl:A.ix.segs.length+N<=134217728)(hn:∀n∈A.ix.segs,Cv n)(aO:∀n∈A.j.Al,Cv n)(a0:A.j.Al.length<=1073741824)(hL:Lets B w)(aR:∀k,FT k->B<=k):
 Aj 44 #[A7 ab,A0 Ay] w (Au (A0 (A.aQ P Ay).1) λw'=>Ax w FT w' (λw' O=>AD w' ab b (A.aQ P Ay).2.1 (A.aQ P Ay).2.2 O)):=by
 have⟨xb,jb,sv,ov,lv,jo,Ft,hv,hsub⟩:=id h;have c2:=hv.Ai.c2;have aW:=A4 (NB w hv.dk hv.lt hv.jn hF ⟨by have:=hl.a;omega,by have:=hl.c;omega,by have:=hl.m;omega⟩ hm aO hL);have aJ:Hid (A.aQ P Ay=if (P.puts A.j.Al).2≠0 then ((P.puts A.j.Al).2,A,P) else A.ay P A.ix.segs (Dd Ay (P.puts A.j.Al).1)):=rfl;have aD:=A4 (On Ay (P.puts A.j.Al).1);generalize hR:A.aQ P Ay=R at aJ ⊢;generalize hPS:P.puts A.j.Al=PS at aW aJ aD aE aB;obtain⟨ps,pe⟩:=PS;dsimp only at aW aJ aD aE aB;have H:=A4 h;have bB:=A4 hv;have X:=A4 a2;have aH:=A4 aB
 have a3:Hid (∀z kv fv,A5 Ab w z->DF z kv A.ix.segs->(∀g,kv.oB g->w.heap.size<=g)->P4 z fv (Dd Ay ps) FT->pe=0->
  Aj 66 #[A7 ab,kv,fv] z (Au (A0 R.1) λw'=>Ax w FT w' (λw' O=>AD w' ab b R.2.1 R.2.2 O))):=λz kv fv hc Y aF hf he=>by
  have⟨z1,z2,z3⟩:=aD.o;have aA:R=A.ay P A.ix.segs (Dd Ay ps):=by rw[aJ.o,Ae (by simp[he])]
  rw[aA]
  refine(R0 z (H.o.aJ hc) (λk Y=>Bm (X.o k Y) hc.Am) kv A.ix.segs Y (λg I=>⟨λhx=>by have:=aF g I;have:=X.o g hx;omega,AH hL.1 (aF g I)⟩) fv (Dd Ay ps) hf
   (λl hl=>⟨λp hp=>aH.o p ((z3 l hl).1 p hp),by have:=(z3 l hl).2;omega⟩) ⟨aZ.1,by omega⟩ aQ aP hF ⟨by have:=hl.a;omega,by have:=hl.c;omega,by have:=hl.m;omega⟩ (by omega) hn aO hn (by omega) a0 (hL.aP hc) aR).mono ?_
  rintro e w'⟨h1,h2⟩;exact⟨h1,Ax.a8 (hc.aZ) (λk Y=>Y.elim .inl λh=>.inr (aF k h)) h2⟩
 have aM:Hid (∀z,A5 Ab w z->pe≠0->R.1=pe/\Ax w FT z (λw' O=>AD w' ab b R.2.1 R.2.2 O)):=λz hc he=>by
  have aA:R=(pe,A,P):=by rw[aJ.o,Ah he]
  subst aA;exact⟨rfl,hc.aZ,FT,H.o.aJ hc,λk Y=>Bm (X.o k Y) hc.Am,λk Y=>.inl Y⟩
 have aS:Hid (∀z v,AZ z v ps->_):=λz v hx=>Tx hS hN z v Ay ps aE hx (λp hp=>(aH.o p hp).2.1) hw;have a1:Hid (A.ix.segs.length*8<=140737488355328):=by unfold Hid;omega
 go_enter func44,ntmps44
 go_wp2_with (fail);refine aW.m ?_;rintro e w1⟨v1,rfl,aT,ho1,aG⟩;by_cases hp:pe=0
 case neg=>
  have a5:=A4 (aM.o w1 aG hp);have hpb:(pe !=0)=true:=by simpa using hp
  go_wp2;go_ret;exact⟨by rw[a5.o.1];rfl,a5.o.2⟩
 case pos=>
  subst hp;have V1:=bB.o.aJ aG;have d1:=V1.Ai.c1;have d4:=V1.ix.c4;have a8:=A4 (A1P w1 sv A.ix.segs V1.segs a1.o);have a4:=A4 aG;have aN:=A4 aT;go_wp2_with (fail);refine a8.m ?_;rintro e w2⟨v2,rfl,aY,aV,aI⟩;have aL:=A4 aY;have aU:=A4 aV;have aX:Hid (A5 Ab w w2):=a4.o.tr aI;have bA:=A4 (aS.o w2 v1 (AA aN.o λg I=>aI.Ao g (AG aN.o I) (λh=>h)));go_wp2_with (fail);refine bA.m ?_;rintro e w3⟨v3,vs,rfl,W,aK⟩;have a6:A5 Ab w w3:=aX.o.tr aK
  have a7:=A4 (a3.o w3 v2 v3 a6 (AA aL.o λg I=>aK.Ao g (AG aL.o I) (λh=>h)) (λg I=>AH a4.o.Am (aU.o g I))
   ⟨vs,W.Bi,W.Bx,W.ls,λg I hx=>by have:=W.lo g I;have:=X.o g hx;have:=aX.o.Am;omega,λx hx g I hf=>by have:=W.li x hx g I;have:=X.o g hf;have:=aX.o.Am;omega⟩ (by simp))
  go_wp2_with (fail);refine a7.k ?_;rintro w4 hI;have a9:=A4 hI;go_wp2;go_ret;exact⟨rfl,a9.o⟩
end
end
end Go.Proofs.YtodcnkbblippnabGreatDoor
