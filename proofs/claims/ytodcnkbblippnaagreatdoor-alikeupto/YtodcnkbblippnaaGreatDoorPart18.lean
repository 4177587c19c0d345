/- Part 18 of a proof: walks of the program. -/
import Derived.Test.YtodcnkbblippnaaGreatDoorPart17
namespace Go.Proofs.YtodcnkbblippnaaGreatDoor
set_option maxRecDepth 100000
set_option maxHeartbeats 32000000
set_option linter.defProp false
open Go.Proofs.Tryz
section
open Go.RowKit
attribute [local go_sem ↓] CE
def Tryz.fm:(Tryz.prog.info? 97).map (λi=>(i.zero,i.size,i.bytes))=some (some (.slice none 0 0),1,24):=by kernel_rfl
def RM:∃d,Tryz.prog.info? 97=some d/\d.zero=some (.slice none 0 0)/\d.size=1/\d.bytes=24:=by
 have h:=Tryz.fm;cases hx:Tryz.prog.info? 97 with
 | none=>rw[hx]at h;cases h
 | some i=>rw[hx]at h;simp at h;exact⟨i,rfl,h.1,h.2.1,h.2.2⟩
section
variable {N:Nat}
def TA(hS:F5 N)(hN:N<=134217728)(w:World)(v:Value)(len:Int)(l:List Pu)(hl:l.length<=N)(h:AW w v l)(hT:∀p∈l,AN p.2.1)(bI:1<=len/\len<=4611686018427387904):
 Ag 109 #[v,A0 len] w λe w'=>∃v' Y,e=.returned v'/\DJ w' w.heap.size v' Y (Bz len l)/\A3 Ab w w':=by
 obtain⟨i0,hi,fK,fC,fE⟩:=RM;obtain⟨j0,hj,fN,fG,e0⟩:=E7 Ih;have k0:A3 Ab w (w.alloc (.cells #[A0 len] 3)):=(A3.I _ w).ak _;have dT:(w.alloc (.cells #[A0 len] 3)).heap[w.heap.size]?=some (.cells #[A0 len] 3 (0,0)):=BN w _;have fR:=A1 (A10 _ v l (Ay h λg hg=>k0.Ao g (AB h hg) (λh=>h)) (by omega));have fY:=A1 k0;have fL:=A1 dT;have dO:Hid ((w.alloc (.cells #[A0 len] 3)).heap.size=w.heap.size+1):=by unfold Hid;simp
 have cI:Hid (∀wx vx,AW wx vx l->A7 wx w.heap.size 0 (A0 len)->(∀g,vx.ownBlock=some g->w.heap.size≠g)->_):=λwx vx h1 h2 h3=>hS wx vx w.heap.size len l hl h1 hT bI h2 h3;have cB:Hid (Bz len l=Ec len (E4 (Az len) l) true (0,0,0) []):=rfl;have cA:∀p∈E4 (Az len) l,AN p.2.1:=λp hp=>hT p (((Fj len).cz l).bG.DB (Fj len) hp);have cU:(E4 (Az len) l).length=l.length:=QS l;obtain⟨R,hR⟩:∃R,Bz len l=R:=⟨_,rfl⟩;rw[hR]at cB ⊢;obtain⟨O,dU⟩:∃O,E4 (Az len) l=O:=⟨_,rfl⟩;rw[dU]at cB cA cU cI;have eK:=A1 cA;have b9:=A1 bI;have hsn:O.length<=134217728:=by omega
 have fO:=A1 cU;clear hR dU h hT k0 dT cA hS hl bI cU
 go_enter func109,ntmps109
 go_wp2_with (fail);refine fR.m ?_;rintro e w1⟨v1,rfl,eM,cN,cH⟩;have c1:A7 w1 w.heap.size 0 (A0 len):=cH.al (by simp only[World.cell?,fL.o];rfl);have dV:=A1 (cI.o w1 v1 eM c1 (λg hg=>by have:=cN g hg;have:=dO.o;omega));have fZ:Hid (A3 Ab w w1):=fY.o.tr cH;have dF:Hid (∀g,v1.ownBlock=some g->w.heap.size<g):=λg hg=>by have:=cN g hg;have:=dO.o;omega
 have fQ:=A1 c1;clear eM cN cH c1 fR cI;go_wp2_with (fail);refine dV.m ?_;rintro e w2⟨rfl,cC,cV⟩;have e2:O.length=l.length:=fO.o;obtain⟨sa,scap,rfl,s1,s2,s3,-⟩:=B8 cC;unfold maxLen at s2;have c2:A7 w2 w.heap.size 0 (A0 len):=cV.bH fQ.o (λh=>FZ _ (dF.o _ h));have gB:Hid (A3 Ab w w2):=fZ.o.Ap cV λx I bC=>by have:=dF.o x I;omega
 have cD:=A1 cC;have fV:=A1 c2;have fU:Hid (w.heap.size<w2.heap.size):=GN w2 _ c2;have e3:=A1 s3;clear cC cV dV fQ c2 e2 s3;have eD:Hid (∀wx,A3 Ab w2 wx->∀i (hi:i<O.length),∃g,sa=some (Aa g 0)/\A7 wx g (i*3) (A0 (O[i]'hi).1)/\A7 wx g (i*3+1) (A0 (O[i]'hi).2.1)/\A7 wx g (i*3+2) (A0 (O[i]'hi).2.2)):=λwx I i hi=>by
  obtain⟨g,rfl⟩:=e3.o (by omega);obtain⟨q1,q2,q3⟩:=He O i hi;exact⟨g,rfl,I.al (BC cD.o rfl q1),I.al (BC cD.o rfl q2),I.al (BC cD.o rfl q3)⟩
 go_wp2;go_loopw [6,18] (λv6 iv wr=>∃(i:Nat) (ws:List (List Pu)) (Y:List Value),iv=A0 i/\i<=O.length/\Hid (DJ wr w2.heap.size v6 Y ws/\A3 Ab w2 wr/\ws.length<=i/\(∀x∈ws,x.length<=i)/\(0<i->∃a0 l0,ws=a0++[l0]/\l0≠[])/\R=Ec len (O.drop i) (decide (i=0)) (if i=0 then (0,0,0) else O.getD (i-1) (0,0,0)) ws)) (λ_ iv _=>O.length-(intOf iv).toNat)
 case atStart=>exact⟨0,[],[],rfl,by omega,DJ.bT _ _,A3.I _ _,As _,λx I=>by simp at I,λh=>absurd h (FZ 0),by simpa using cB.o⟩
 case round=>
  obtain⟨i,ws,Y,rfl,hii,hI⟩:=hrel;by_cases aT:i<O.length
  case neg=>
   (obtain rfl:i=O.length:=by omega);obtain⟨i1,i2,i3,i4,i5,i6⟩:=hI.o;rw[Gn]at i6;have fP:R=ws:=i6;subst fP;have aP:=A1 i1;have dC:=A1 i2;(have eV:¬((O.length:Int)<(O.length:Int)):=by omega);clear i1 i2 i3 i4 i5 i6 hI;obtain⟨ap,cp,rfl,hcap1,hcap2,-⟩:=B8 aP.o.Bv;go_wp2;go_ret;exact⟨_,rfl,⟨Y,aP.o.Bv,aP.o.ls,λg hg=>ER (Bk fU.o (aP.o.lo g hg)),λx I g hg=>ER (Bk fU.o (aP.o.li x I g hg)),aP.o.J9⟩,gB.o.tr dC.o⟩
  case pos=>
   obtain⟨i1,i2,i3,i4,i5,i6⟩:=hI.o;obtain⟨g,rfl,p1,p2,p3⟩:=eD.o wr i2 i aT;rw[VR len O i aT]at i6;have cP:=eK.o _ (BV aT);obtain⟨p,hp⟩:∃p,(O[i]'aT)=p:=⟨_,rfl⟩;rw[hp]at p1 p2 p3 i6 cP;obtain⟨H,E,pc⟩:=p;dsimp only at p1 p2 p3 cP;have cS:C5 (wr.alloc (.cells #[A0 H,A0 E,A0 pc] 113)) wr.heap.size H E pc:=BN wr _;have kp:A3 Ab wr (wr.alloc (.cells #[A0 H,A0 E,A0 pc] 113)):=(A3.I _ wr).ak _;(have eV:(i:Int)<(O.length:Int):=by omega);have hk0:=C3 i;have aP:=A1 i1;have dC:=A1 i2;have eF:=A1 i3;have dJ:=A1 i4;have fT:=A1 i5;have fM:Hid (w2.heap.size<=wr.heap.size):=i2.Ak;have a4:=A1 cS;have aZ:=A1 kp;(have eS:Hid (∀k:Nat,k<=i->(k+1)*24<=140737488355328):=λk hk=>by omega);have aX:Hid (∀cG,Ew len ws (decide (i=0)) (if i=0 then (0,0,0) else O.getD (i-1) (0,0,0)) (H,E,pc)=cG->R=Ec len (O.drop (i+1)) (decide (i+1=0)) (if i+1=0 then (0,0,0) else O.getD (i+1-1) (0,0,0)) cG):=λcG h=>by
    (have eT:O.getD i (0,0,0)=(H,E,pc):=by rw[HP,E2 aT,hp];rfl);rw[Ad (Nat.succ_ne_zero i),A3w,eT,i6,h];simp
   obtain⟨a7,a2,e6,bZ,eN,dL,-⟩:=B8 i1.Bv;have dY:=A1 dL;clear dL;unfold maxLen at eN;obtain⟨pk,aY⟩:∃pk,wr.heap.size=pk:=⟨_,rfl⟩;rw[aY]at a4 fM;have aM:=A1 aY;by_cases aJ:i=0
   focus
    subst e6;(have hz:((i:Int)==0)=true:=by simp[aJ]);have aL:Hid (Ew len ws (decide (i=0)) (if i=0 then (0,0,0) else O.getD (i-1) (0,0,0)) (H,E,pc)=GG ws [] (H,E,pc)):=Qg len ws _ _ _ (.inl (by simp[aJ]));clear hI i1 i2 i3 i4 i5 i6 cS kp hp aY aJ;go_wp2;rw[aM.o];go_quiet (fail);have aG:=A1 (aP.o.aS (aZ.o.ba nq));have aA:=A1 (a4.o.aj ((A3.I Ab _).ba nq) (λh=>h));have dB:=A1 (dC.o.tr (aZ.o.ba nq));generalize ((wr.alloc (.cells #[A0 H,A0 E,A0 pc] 113)).drewN nq)=wY at aG aA dB ⊢
   rotate_left
   focus
    obtain⟨P,cQ⟩:∃P,P=i-1:=⟨_,rfl⟩;(have bD:P<O.length:=by omega);obtain⟨gq,fH,q1,q2,q3⟩:=eD.o wr i2 P bD;cases fH;have bR:=eK.o _ (BV bD);(have bK:O.getD P (0,0,0)=O[P]'bD:=by rw[HP,E2 bD];rfl);obtain⟨q,hq⟩:∃q,(O[P]'bD)=q:=⟨_,rfl⟩;rw[hq]at q2 bR bK;obtain⟨qa,qb,qc⟩:=q;dsimp only at q2 bR;have bG:=A1 (λwx=>Np wx E len cP b9.o);have bE:=A1 (λwx=>Np wx qb len bR b9.o);have aN:Hid (BB E len≠BB qb len->Ew len ws (decide (i=0)) (if i=0 then (0,0,0) else O.getD (i-1) (0,0,0)) (H,E,pc)=GG ws [] (H,E,pc)):=λh=>by
     rw[Ad aJ,<-cQ,bK];exact Qg len ws _ _ _ (.inr h)
    have aH:Hid (∀a0 l0,ws=a0++[l0]->BB E len=BB qb len->Ew len ws (decide (i=0)) (if i=0 then (0,0,0) else O.getD (i-1) (0,0,0)) (H,E,pc)=GG a0 l0 (H,E,pc)):=λa0 l0 e h=>by
     rw[Ad aJ,<-cQ,bK,CZ aJ,e];exact VT len a0 l0 _ _ h
    (have hz:((i:Int)==0)=false:=by simpa using aJ);obtain⟨dD,eH⟩:∃dD,BB E len=dD:=⟨_,rfl⟩;obtain⟨eQ,dS⟩:∃eQ,BB qb len=eQ:=⟨_,rfl⟩;rw[eH]at bG aN aH;rw[dS]at bE aN aH;(have eP0:IntKind.i64.wrap ((i:Int)-1)=(P:Int):=by simp[IntKind.wrap,IntKind.bits,IntKind.signed];omega);(have eP1:wrap64 ((i:Int)-1)=(P:Int):=by unfold wrap64;omega);have hP0:=C3 P;(have hPn:(P:Int)<(O.length:Int):=by omega);have eR:=A1 (aZ.o.al q2);(have dR:Hid (0<i):=by unfold Hid;omega);have bU:=A1 (aZ.o.al (i2.al fV.o));clear hI i1 i2 i3 i4 i5 i6 cS kp hp aY aJ cQ bR bK hq q1 q2 q3 eH dS;by_cases bL:dD=eQ
   rotate_left
   focus
    subst e6;(have eW:(dD !=eQ)=true:=by simpa using bL);have aL:=A1 (aN.o bL);clear bL aN aH;go_wp2;rw[aM.o];generalize wr.alloc (.cells #[A0 H,A0 E,A0 pc] 113)=wA at a4 aZ eR bU ⊢;have aG:=A1 (aP.o.aS aZ.o.af);have aA:=A1 a4.o.af;have dB:=A1 (dC.o.tr aZ.o.af);have z1:=aA.o.c1;have z2:A7 wA.drew g (P*3+1) (A0 qb):=eR.o;have z3:A7 wA.drew w.heap.size 0 (A0 len):=bU.o;refine BP (λw'=>A7 w' pk 1 (A0 E)/\A7 w' g (P*3+1) (A0 qb)/\A7 w' w.heap.size 0 (A0 len)) 18
     (Bq [0,1,2,3,4,5,6,8,9,10,11,12,13,14,15,7,16,17] [7,16]) ⟨z1,z2,z3⟩ ?_
    iterate 15 (refine Bg ?_;(try simp only[An]))
    refine Bw λK hK=>?_;go_simp;refine(bG.o _).mono ?_;rintro e w3⟨rfl,rfl⟩;refine hK _ _ ⟨z1,z2,z3⟩ (λhS=>?_);clear hK K hS
    (try simp only[An])
    refine Bw λK hK=>?_;go_simp;refine(bE.o _).mono ?_;rintro e w3⟨rfl,rfl⟩;refine hK _ _ ⟨z1,z2,z3⟩ (λhS=>?_);clear hK K hS bG bE
    (try simp only[An])
    (refine Bg ?_;(try simp only[An]))
    refine Bl ?_;simp only[BI,BH];generalize wA.drew=wY at aG aA dB z1 z2 z3 ⊢;clear z1 z2 z3
   rotate_left 2
   focus
    subst bL;(have eW:(dD !=dD)=false:=by simp);obtain⟨ws,d,rfl,aK⟩:=fT.o dR.o;have aL:=A1 (aH.o ws d rfl rfl);(have bO:(ws++[d]).length=ws.length+1:=by simp);have cE:=aP.o.B5;obtain⟨Y,lv,rfl⟩:∃fJ lv,Y=fJ++[lv]:=by
     (have dZ:Y≠[]:=by intro h;subst h;simp at cE);exact⟨Y.dropLast,Y.getLast dZ,(N8 dZ).symm⟩
    (have aS:Y.length=ws.length:=by simpa using cE);have aU:AW wr lv d:=by
     have h1:=aP.o.ls Y.length (by simp) (by simp;omega);(have e1:(Y++[lv])[Y.length]'(by simp)=lv:=by simp);(have e2:(ws++[d])[Y.length]'(by simp;omega)=d:=by rw[Gm (by omega)];simp[aS]);rw[e1,e2]at h1;exact h1
    obtain⟨la,z,rfl,l1,l2,l3,-⟩:=B8 aU;obtain⟨W,rfl⟩:=l3 (Ji.2 aK);unfold maxLen at l2;obtain⟨l0,q0,aV⟩:∃l0 q0,d=l0++[q0]:=⟨d.dropLast,d.getLast aK,(N8 aK).symm⟩;obtain⟨L,bM⟩:∃L,L=l0.length:=⟨_,rfl⟩;(have cX:d.length=L+1:=by rw[aV,bM];simp);rw[bO]at e6 bZ;subst e6;obtain⟨g0,rfl⟩:=dY.o (by rw[bO];omega);obtain⟨c1,c2,c3⟩:=He d L (by omega);(have eO:d[L]'(by omega)=q0:=by subst aV;rw[Gm (by omega)];simp[bM]);rw[eO]at c1 c2 c3;have b0:Hid (d.length<=i):=dJ.o d (by simp);(have bH:Hid (ws.length+1<=i+1):=by have:=eF.o;rw[bO]at this;unfold Hid;omega);have fS:Hid (∀wx,A3 Ab wr wx->A7 wx g0 ws.length (AJ W (L+1) z)/\A7 wx W (L*3) (A0 q0.1)/\A7 wx W (L*3+1) (A0 q0.2.1)/\A7 wx W (L*3+2) (A0 q0.2.2)):=λwx I=>
     ⟨I.al (by rw[<-aS,<-cX];exact BC aP.o.Bv rfl (by rw[Hs (As _)];simp)),I.al (BC aU rfl c1),I.al (BC aU rfl c2),I.al (BC aU rfl c3)⟩
    have fI:Hid (W≠pk):=by
     have h1:=AB aU (g:=W) rfl;have h2:=aM.o;unfold Hid;omega
    have dW:=A1 (λwx=>O3 wx (H,E,pc) q0);have bQ:Hid (¬Cn (H,E,pc) q0=0->GG ws d (H,E,pc)=ws++[d++[(H,E,pc)]]):=λh=>by
     unfold GG;rw[Ad];rintro⟨-,h2⟩;rw[aV]at h2;simp at h2;exact h h2
    have bS:Hid (Cn (H,E,pc) q0=0->GG ws d (H,E,pc)=ws++[l0++[(H,E,pc)]]):=λh=>by
     unfold GG;rw[Ah ⟨aK,by rw[aV];simpa using h⟩,aV];simp
    obtain⟨cc,cF⟩:∃cc,Cn (H,E,pc) q0=cc:=⟨_,rfl⟩;rw[cF]at bQ bS;have eY:=A1 aV;have e9:=A1 bM;have e5:=A1 cX;have b8:=A1 aU;(have fD:L+1<=i:=by have:=dJ.o d (by simp);omega);(have hgt:(0:Int)<(L:Int)+1:=by omega);(have em:IntKind.i64.wrap (L:Int)=(L:Int):=by simp[IntKind.wrap,IntKind.bits,IntKind.signed];omega);(have em0:IntKind.i64.wrap ((L:Int)+1-1)=(L:Int):=by rw[Js];exact em);(have em1:wrap64 ((L:Int)+1-1)=(L:Int):=by unfold wrap64;omega);have hm00:=C3 L;(have hm01:(L:Int)<(L:Int)+1:=by omega);(have bP:IntKind.i64.wrap (ws.length:Int)=(ws.length:Int):=by have:=bH.o;simp[IntKind.wrap,IntKind.bits,IntKind.signed];omega);(have dG:IntKind.i64.wrap ((ws.length:Int)+1-1)=(ws.length:Int):=by rw[Js];exact bP);(have dN:wrap64 ((ws.length:Int)+1-1)=(ws.length:Int):=by have:=bH.o;unfold wrap64;omega);have eP:(0:Int)<=(ws.length:Int):=Gp _;(have dP:(ws.length:Int)<(ws.length:Int)+1:=by omega);obtain⟨eJ,dH,dI⟩:=q0;unfold Dt at dW;dsimp only at fS dW;rw[cF]at dW;clear aN aH aK cE aS aU l1 l3 aV bM cX c1 c2 c3 eO bO cF bZ dY fT fD;go_wp2;rw[aM.o];generalize wr.alloc (.cells #[A0 H,A0 E,A0 pc] 113)=wA at a4 aZ eR bU ⊢;have aG:=A1 (aP.o.aS aZ.o.af);have aA:=A1 a4.o.af;have dB:=A1 (dC.o.tr aZ.o.af);have z1:=aA.o.c1;have z2:A7 wA.drew g (P*3+1) (A0 qb):=eR.o;have z3:A7 wA.drew w.heap.size 0 (A0 len):=bU.o;refine BP (λw'=>A7 w' pk 1 (A0 E)/\A7 w' g (P*3+1) (A0 qb)/\A7 w' w.heap.size 0 (A0 len)) 18
     (Bq [0,1,2,3,4,5,6,8,9,10,11,12,13,14,15,7,16,17] [7,16]) ⟨z1,z2,z3⟩ ?_
    iterate 15 (refine Bg ?_;(try simp only[An]))
    refine Bw λK hK=>?_;go_simp;refine(bG.o _).mono ?_;rintro e w3⟨rfl,rfl⟩;refine hK _ _ ⟨z1,z2,z3⟩ (λhS=>?_);clear hK K hS
    (try simp only[An])
    refine Bw λK hK=>?_;go_simp;refine(bE.o _).mono ?_;rintro e w3⟨rfl,rfl⟩;refine hK _ _ ⟨z1,z2,z3⟩ (λhS=>?_);clear hK K hS bG bE
    (try simp only[An])
    (refine Bg ?_;(try simp only[An]))
    refine Bl ?_;simp only[BI,BH];have aO:=A1 (λwx (I:A3 Ab wA wx)=>fS.o wx (aZ.o.tr I));have oc:=(aO.o wA.drew (A3.I _ wA).af).1;go_wp2;have gA:=(aO.o wA.drew.drew (A3.I _ wA).af.af);have f0:=aA.o.af.c0;have f1:=aA.o.af.c1;have f2:=aA.o.af.c2;obtain⟨d0,d1,d2,d3⟩:=gA;refine BP (λw'=>A7 w' g0 ws.length (AJ W (L+1) z)/\A7 w' W (L*3) (A0 eJ)/\A7 w' W (L*3+1) (A0 dH)/\A7 w' W (L*3+2) (A0 dI)/\A7 w' pk 0 (A0 H)/\A7 w' pk 1 (A0 E)/\A7 w' pk 2 (A0 pc)) 13
     (Bq [0,1,2,3,4,5,6,7,8,9,10,11,12] [11]) ⟨d0,d1,d2,d3,f0,f1,f2⟩ ?_
    iterate 11 (refine Bg ?_;(try simp only[An]))
    refine Bw λK hK=>?_;go_simp;refine(dW.o _).mono ?_;rintro e X⟨rfl,cZ⟩;have k6:A3 Ab wA X:=((A3.I Ab wA).af.af).tr cZ;have bA:=aA.o.aj ((A3.I Ab wA.drew).af.tr cZ) (λh=>h);refine hK _ _ ⟨(aO.o X k6).1,(aO.o X k6).2.1,(aO.o X k6).2.2.1,(aO.o X k6).2.2.2,bA.c0,bA.c1,bA.c2⟩ (λhS=>?_);have bT:=A1 (aP.o.aS (aZ.o.tr k6));have eA:=A1 (dC.o.tr (aZ.o.Ap k6 λ_ h _=>h));have aF:=A1 bA;have cL:=A1 k6;have a6:Hid (AW X (AJ W d.length z) d):=Ay b8.o λg hg=>(aZ.o.tr k6).Ao g (AB b8.o hg) (λh=>h)
    clear hK K hS cZ k6 bA f0 f1 f2 d0 d1 d2 d3 oc z1 z2 z3 dW aG aA dB
    (try simp only[An])
    by_cases a3:cc=0
    ·(have fB:(cc==0)=true:=by simpa using a3);have aB:=A1 (aL.o.trans (bS.o a3));have a9:=A1 (aX.o _ aB.o);clear a3 bS bQ aL aX aB
     (refine Bg ?_;(try simp only[An]))
     refine Bl ?_;simp only[BI,BH];go_wp2;obtain⟨d0,d1,d2,d3⟩:=aO.o X.drew cL.o.af;have f0:=aF.o.af.c0;have f1:=aF.o.af.c1;have f2:=aF.o.af.c2;refine BP (λw'=>A7 w' g0 ws.length (AJ W (L+1) z)/\A7 w' W (L*3) (A0 eJ)/\A7 w' W (L*3+1) (A0 dH)/\A7 w' W (L*3+2) (A0 dI)/\A7 w' pk 0 (A0 H)/\A7 w' pk 1 (A0 E)/\A7 w' pk 2 (A0 pc)) 6
      (Bq [0,1,2,3,4,5] []) ⟨d0,d1,d2,d3,f0,f1,f2⟩ ?_
     iterate 6 (refine Bg ?_;(try simp only[An]))
     refine Bl ?_;simp only[BI,BH];have fz:∀o,X.drew.frozen? (Aa W o)=false:=λo=>G6 (a6.o:X.drew.ownsRow 0 113 3 (AJ W d.length z) d.length (B9 d)) rfl o;obtain⟨-,b1,b2,b3⟩:=aO.o X cL.o;have fy:∀o,X.frozen? (Aa W o)=false:=λo=>G6 a6.o rfl o;(have eI:L<d.length:=by rw[e5.o];exact V9 _);have eZ:=AW.bh (w:=X) (g:=W) (n:=d.length) (cap:=z) (l:=d) a6.o L eI (H,E,pc);have a5:d.set L (H,E,pc)=l0++[(H,E,pc)]:=by
      rw[eY.o,e9.o,Kf _ _ (As _)];simp
     (have cJ:(l0++[(H,E,pc)]).length=d.length:=by rw[<-a5,Jh]);rw[a5]at eZ;(have kc:A3 (λk=>(AJ W d.length z).ownBlock=some k) X (((X.sC W (L*3) (A0 H)).sC W (L*3+1) (A0 E)).sC W (L*3+2) (A0 pc)).drew:=(((((A3.I (One W) X).ao (b:=W) rfl _ _).ao (b:=W) rfl _ _).ao (b:=W) rfl _ _).af).aa (S':=λk=>(AJ W d.length z).ownBlock=some k) λk _ h=>by cases h;rfl);have aE:=A1 (bT.o.fk kc (l':=l0++[(H,E,pc)]) (by unfold AW;rw[cJ];exact Ay eZ λ_ _=>rfl));have fW:=A1 (eA.o.Ap (S':=λk=>(AJ W d.length z).ownBlock=some k) kc λy hy bC=>absurd bC (Ln.2 (bT.o.li (AJ W d.length z) (by simp) y hy)));(have e7:Hid ((l0++[(H,E,pc)]).length<=i+1):=by rw[cJ];exact MX b0.o);clear eZ a5 cJ kc eI a6 cL f0 f1 f2;go_wp2;go_roundw
     case rel=>
      exact⟨i+1,ws++[l0++[(H,E,pc)]],Y++[AJ W d.length z],by go_num,aT,aE.o,fW.o,(by rw[AY];exact bH.o),(λx I=>(AU.1 I).elim (λI=>MX (dJ.o x (AU.2 (.inl I)))) (λI=>by rw[IA.1 I];exact e7.o)),λ_=>⟨ws,_,rfl,by simp⟩,a9.o⟩
     case measure=>simp[intOf];omega
    (have fB:(cc==0)=false:=by simpa using a3);have aB:=A1 (aL.o.trans (bQ.o a3));clear a3 bS bQ aL;obtain⟨la,aR⟩:∃la:Option Addr,la=some (Aa W 0):=⟨_,rfl⟩;(have cY:Hid (DJ X w2.heap.size (AJ g0 (ws.length+1) a2) (Y++[.slice la d.length z]) (ws++[d])):=by subst aR;exact bT.o);have eG:Hid (∀x∈ws++[d],x.length<=i):=dJ.o;have cO:Hid (d.length<=i):=b0.o;have bV:Hid (¬(Value.slice la d.length z).ownBlock=some pk):=λh=>by
     rw[aR]at h;cases h;exact fI.o rfl
    clear aR a6 bT
    (refine Bg ?_;(try simp only[An]))
    refine Bl ?_;simp only[BI,BH]
   rotate_left
   iterate 2
    focus
     have bB:Hid ((wY.alloc (.cells #[.slice none 0 0] 97)).ownsRow 0 97 1 (.slice a7 ws.length a2) ws.length Y):=Ay aG.o.Bv λg hg=>((A3.I Ab wY).ak _).Ao g (AB aG.o.Bv hg) (λh=>h)
     have bW:=A1 (Src.bb (size:=1) (B:=wY.heap.size) underlying174 wY #[.slice none 0 0] 97 (by simp) 1 1 rfl (by simp[Value.oneCell']));have cM:=A1 (dB.o.ak (.cells #[.slice none 0 0] 97));have b4:=A1 (aG.o.aS ((A3.I Ab wY).ak (.cells #[.slice none 0 0] 97)));have bX:=A1 (aA.o.aj ((A3.I Ab wY).ak (.cells #[.slice none 0 0] 97)) (λh=>h));(have bY:Hid ((ws.length+1)*24<=140737488355328):=by have h1:=eF.o;unfold Hid;omega);have dM:Hid (∀g,(Value.slice a7 ws.length a2).ownBlock=some g->pk≠g):=λg hg e=>by
      subst e;have:=AB aP.o.Bv hg;have h2:=aM.o;omega
     (have bP:IntKind.i64.wrap (ws.length:Int)=(ws.length:Int):=by have:=eF.o;simp[IntKind.wrap,IntKind.bits,IntKind.signed];omega);(have dG:IntKind.i64.wrap ((ws.length:Int)+1-1)=(ws.length:Int):=by rw[Js];exact bP);(have dN:wrap64 ((ws.length:Int)+1-1)=(ws.length:Int):=by have:=eF.o;unfold wrap64;omega);have eP:(0:Int)<=(ws.length:Int):=Gp _;(have dP:(ws.length:Int)<(ws.length:Int)+1:=by omega);go_wp2_with (at_builtin;refine D4 rfl (.tmp 42) (.tmp 43) 174 174 rfl 97 i0 _ 1 24 underlying174 hi fK fC fE rfl (by decide) (.slice a7 ws.length a2) ws.length Y (by rfl) bB.o _ 1 _ (by rfl) bW.o bY.o ?_;intro a8 aD w8 hA;have dQ:=A1 hA;clear hA;obtain⟨a8',c8',e8,r1,r2,r3,-⟩:=B8 dQ.o.AA;cases e8;obtain⟨g0,rfl⟩:=r3 (Nat.succ_pos _);clear r3;have e4:A7 w8 g0 ws.length (.slice none 0 0):=BC dQ.o.AA rfl (by rw[<-aG.o.B5,Hs (As _)];simp));go_quiet (fail);have cT:=dQ.o.Aj (S:=λk=>(Value.slice a7 ws.length a2).ownBlock=some k) λ_ h=>h;have dA:=A1 ((b4.o.cr dQ.o cM.o.Ak).aS ((A3.I Ab w8).ba nq));have aF:=A1 ((bX.o.aj cT (λh=>dM.o _ h rfl)).aj ((A3.I Ab w8).ba nq) (λh=>h));have eA:=A1 ((cM.o.Ap (S':=λk=>(Value.slice a7 ws.length a2).ownBlock=some k) cT λy hy bC=>absurd bC (Ln.2 (aP.o.lo y hy))).tr ((A3.I Ab w8).ba nq));generalize w8.drewN nq=X at dA aF eA ⊢;obtain⟨d,aI⟩:∃d:List Pu,d=[]:=⟨_,rfl⟩;obtain⟨la,aR⟩:∃la:Option Addr,la=none:=⟨_,rfl⟩;obtain⟨z,bJ⟩:∃z:Nat,z=0:=⟨_,rfl⟩;(have cY:Hid (DJ X w2.heap.size (AJ g0 (ws.length+1) aD) (Y++[.slice la d.length z]) (ws++[d])):=by subst aI aR bJ;exact dA.o);(have aB:Hid (Ew len ws (decide (i=0)) (if i=0 then (0,0,0) else O.getD (i-1) (0,0,0)) (H,E,pc)=ws++[d++[(H,E,pc)]]):=by unfold Hid;rw[aL.o];subst aI;simp[GG]);have eG:Hid (∀x∈ws++[d],x.length<=i):=λx I=>by
      rcases AU.1 I with I|I
      ·exact dJ.o x I
      ·rw[IA.1 I,aI];exact Cf _
     have bH:Hid (ws.length+1<=i+1):=PA eF.o;(have cO:Hid (d.length<=i):=by rw[aI];exact Cf _);(have bV:Hid (¬(Value.slice la d.length z).ownBlock=some pk):=by rw[aR];simp[Hid,Value.ownBlock]);clear aI aR bJ e4 cT dA dQ b4 cM bX bB bW bY dM aL bP dG dN eP dP
    rotate_left
   all_goals
    have eC:Hid (A7 X g0 ws.length (.slice la d.length z)):=by
     (have aS:Y.length=ws.length:=by have:=cY.o.B5;simpa using this);rw[<-aS];exact BC cY.o.Bv rfl (by rw[Hs (As _)];simp)
    have oc:=eC.o;have eU:Hid (AW X (.slice la d.length z) d):=by
     (have aS:Y.length=ws.length:=by have:=cY.o.B5;simpa using this);have h1:=cY.o.ls Y.length (by simp) (by simp;omega);(have e1:(Y++[Value.slice la d.length z])[Y.length]'(by simp)=.slice la d.length z:=by simp);(have e2:(ws++[d])[Y.length]'(by simp;omega)=d:=by rw[Gm (by omega)];simp[aS]);rw[e1,e2]at h1;exact h1
    obtain⟨la',lcap',fA,la1,eX,-⟩:=B8 eU.o;cases fA;unfold maxLen at eX;have f0:=aF.o.af.c0;have f1:=aF.o.af.c1;have f2:=aF.o.af.c2;have dK:A7 X.drew g0 ws.length (.slice la d.length z):=oc;go_wp2;refine BP (λw'=>A7 w' g0 ws.length (.slice la d.length z)/\A7 w' pk 0 (A0 H)/\A7 w' pk 1 (A0 E)/\A7 w' pk 2 (A0 pc)) 7
     (Bq [0,1,2,3,4,5,6] [5,6]) ⟨dK,f0,f1,f2⟩ ?_
    iterate 5 (refine Bg ?_;(try simp only[An]))
    refine Bw λK hK=>?_;go_simp;have ka:A3 Ab X (X.alloc (.cells #[A0 H,A0 E,A0 pc] 113)).drew:=((A3.I _ _).ak _).af;have bF:=aF.o.aj ka (λh=>h);have eL:Hid (AW (X.alloc (.cells #[A0 H,A0 E,A0 pc] 113)).drew (.slice la d.length z) d):=Ay eU.o λg hg=>ka.Ao g (AB eU.o hg) (λh=>h);have aW:=A1 (cY.o.aS ka);have b7:Hid (Src Tryz.prog 3 97 (AJ X.heap.size 1 1) 1 #[A0 H,A0 E,A0 pc].toList (X.alloc (.cells #[A0 H,A0 E,A0 pc] 113)).drew):=by
     have hb:(X.alloc (.cells #[A0 H,A0 E,A0 pc] 113)).drew.heap[X.heap.size]?=some (.cells #[A0 H,A0 E,A0 pc] 113 (0,0)):=BN X _;exact Src.cA underlying97 hb 1 1 rfl (I3 [(H,E,pc)])
    refine hK _ _ ⟨ka.al oc,bF.c0,bF.c1,bF.c2⟩ (λhS=>?_);have eE:=A1 bF;have fF:=A1 ka;clear hK K hS bF ka oc f0 f1 f2 dK
    (try simp only[An])
    refine DW rfl (by rfl) (λK hK=>?_);refine HW (.tmp 78) (.tmp 80) 97 97 rfl 113 j0 _ 3 24 underlying97 hj fN fG e0 rfl (by decide) (.slice la d.length z) d.length (B9 d) (by rfl) eL.o _ 1 _ (by rfl) b7.o (eS.o _ cO.o) ?_;intro a8 aD w8 hA;have a1:=hA.Aj (S:=λk=>(Value.slice la d.length z).ownBlock=some k) λ_ h=>h;have b6:AW w8 (.slice a8 (d.length+1) aD) (d++[(H,E,pc)]):=by
     (have e:(d++[(H,E,pc)]).length=d.length+1:=by simp);unfold AW;rw[IS,e];exact hA.AA
    have dE:∀g,(Value.slice a8 (d.length+1) aD).ownBlock=some g->(Value.slice la d.length z).ownBlock=some g\/(X.alloc (.cells #[A0 H,A0 E,A0 pc] 113)).drew.heap.size<=g:=λg hg=>by
     rcases hA.Cj with h|h
     ·rw[h]at hg;exact .inl hg
     ·rw[h]at hg;cases hg;exact .inr (As _)
    have dX:w2.heap.size<=(X.alloc (.cells #[A0 H,A0 E,A0 pc] 113)).drew.heap.size:=AM eA.o.Ak fF.o.Ak;(have b5:Y.length=ws.length:=by have:=cY.o.B5;simpa using this);have aE:=aW.o.e4 a1 b6 dE dX;rw[b5]at aE;have aE:=A1 aE;(have aQ:Value.slice la d.length z∈Y++[Value.slice la d.length z]:=by simp);have bN:=eE.o.aj a1 bV.o;have eB:A7 w8 g0 ws.length (.slice la d.length z):=a1.bH (fF.o.al eC.o) (λh=>aW.o.ne aQ h rfl);have hofz8:w8.frozen? (Aa g0 ws.length)=false:=by
     have hb:=a1.Ao g0 (AB aW.o.Bv rfl) (λh=>aW.o.ne aQ h rfl);have:=G6 aW.o.Bv (g:=g0) rfl ws.length;unfold World.frozen? at this ⊢;rw[hb];exact this
    refine hK _ _ ⟨eB,bN.c0,bN.c1,bN.c2⟩ (λhS=>?_);have fX:Hid (A3 Ab w2 (w8.sC g0 ws.length (.slice a8 (d.length+1) aD))):=((eA.o.tr fF.o).Ap (S':=λk=>(Value.slice la d.length z).ownBlock=some k) a1 λy hy bC=>by have:=aW.o.li _ aQ _ hy;omega).bt (p:=(Aa g0 ws.length)) (λh=>by have:=aW.o.lo g0 rfl;have h':g0<w2.heap.size:=h;omega) _;have a9:=A1 (aX.o _ aB.o);clear hK K hS hA a1 b6 dE dX bN b7 eL b5 aX aB
    (try simp only[An])
    refine Bl ?_;simp only[BI,BH];go_wp2;go_roundw
    case rel=>
     exact⟨i+1,ws++[d++[(H,E,pc)]],Y++[.slice a8 (d.length+1) aD],by go_num,aT,aE.o,fX.o,(by rw[AY];exact bH.o),(λx I=>(AU.1 I).elim (λI=>MX (eG.o x (AU.2 (.inl I)))) (λI=>by rw[IA.1 I,AY];exact PA cO.o)),λ_=>⟨ws,_,rfl,by simp⟩,a9.o⟩
    case measure=>simp[intOf];omega
end
def VS(len:Int)(ws:List (List Pu))(H:Bool)(I p:Pu):
 (Ew len ws H I p).length<=ws.length+1/\Dd (Ew len ws H I p)<=Dd ws+1/\∀x∈Ew len ws H I p,∀y∈x,y=p\/∃z∈ws,y∈z:=by
 obtain⟨d,X,h1,h2,Y⟩:∃d,(if H=true\/BB p.2.1 len≠BB I.2.1 len then ws++[[]] else ws)=d/\(d.length<=ws.length+1)/\Dd d=Dd ws/\(∀x∈d,∀y∈x,∃z∈ws,y∈z)/\True:=by
  refine⟨_,rfl,?_⟩;split
  ·refine⟨by simp,by simp[Dd],λx E y h=>?_,trivial⟩;rcases AU.1 E with E|E
   ·exact⟨x,E,h⟩
   ·simp at E;subst E;simp at h
  ·exact⟨by omega,rfl,λx E y h=>⟨x,E,h⟩,trivial⟩
 have hl1:d=[]\/d.length<=ws.length+1:=.inr h1;have O:d.dropLast.length+1<=ws.length+1:=by
  rw[Vh];have:d.length<=ws.length+1:=h1;omega
 have key:∀t:List Pu,t.length<=(d.getLastD []).length+1->Dd (d.dropLast++[t])<=Dd ws+1:=λt ht=>by
  rw[LR,<-h2];rcases LA d with rfl|⟨a,b,L⟩
  ·simp[Dd]at ht ⊢;omega
  ·rw[Vr]at L;subst L;(have e1:(a++[b]).getLastD []=b:=by rw[Ki];simp);rw[e1]at ht;rw[List.dropLast_concat,LR];simp[Dd];omega
 have W:∀y∈d.getLastD [],∃z∈ws,y∈z:=λy h=>by
  rcases LA d with rfl|⟨a,b,L⟩
  ·simp at h
  ·rw[Vr]at L;subst L;(have e1:(a++[b]).getLastD []=b:=by rw[Ki];simp);rw[e1]at h;exact Y.1 b (by simp) y h
 unfold Ew;dsimp only
 rw[X];split
 ·refine⟨by simpa using O,key _ (by simp),λx E y h=>?_⟩;rcases AU.1 E with E|E
  ·exact .inr (Y.1 x (Vq _ E) y h)
  ·rw[IA]at E;subst E;rcases AU.1 h with h|h
   ·exact .inr (W y (Vq _ h))
   ·exact .inl (IA.1 h)
 ·refine⟨by simpa using O,key _ (by simp),λx E y h=>?_⟩;rcases AU.1 E with E|E
  ·exact .inr (Y.1 x (Vq _ E) y h)
  ·rw[IA]at E;subst E;rcases AU.1 h with h|h
   ·exact .inr (W y h)
   ·exact .inl (IA.1 h)
def Qe(len:Int):∀(l:List Pu) (d:Bool) (E:Pu) (ws:List (List Pu)),
 (Ec len l d E ws).length<=ws.length+l.length/\Dd (Ec len l d E ws)<=Dd ws+l.length/\∀x∈Ec len l d E ws,∀y∈x,y∈l\/∃z∈ws,y∈z
 | [],_,_,ws=>⟨As _,As _,λx I y H=>.inr ⟨x,I,H⟩⟩
 | p::r,d,E,ws=>by
  obtain⟨s1,s2,s3⟩:=VS len ws d E p;obtain⟨h1,h2,O⟩:=Qe len r false p (Ew len ws d E p);unfold Ec;refine⟨by simp;omega,by simp;omega,λx I y H=>?_⟩;rcases O x I y H with h|⟨z,L,h⟩
  ·exact .inl (Bx _ h)
  ·rcases s3 z L y h with rfl|h
   ·exact .inl BF
   ·exact .inr h
def Ww{l:List (List Pu)}{x:List Pu}(h:x∈l):x.length<=Dd l:=by
 induction l with
 | nil=>cases h
 | cons a r ih=>
  rw[NC];rcases BR.1 h with rfl|h
  ·omega
  ·have:=ih h;omega
def OJ(len:Int)(l:List Pu):(Bz len l).length<=l.length/\Dd (Bz len l)<=l.length/\∀x∈Bz len l,(∀p∈x,p∈l)/\x.length<=l.length:=by
 obtain⟨d,E,H⟩:=Qe len (E4 (Az len) l) true (0,0,0) [];rw[QS]at d E;have e:Ec len (E4 (Az len) l) true (0,0,0) []=Bz len l:=rfl;rw[e]at d E H;have d:(Bz len l).length<=l.length:=by simpa using d
 have E:Dd (Bz len l)<=l.length:=by
  have e0:Dd []=0:=rfl;omega
 refine⟨d,E,λx I=>⟨λp L=>?_,?_⟩⟩
 ·rcases H x I p L with h|⟨z,O,-⟩
  ·exact((Fj len).cz l).bG.DB (Fj len) h
  ·cases O
 ·have:=Ww I;omega
section
variable {N ab b a c m B:Nat} {A:Ar} {P:PD} {FT:Nat->Prop}
def A2s(hS:F5 N)(hN:N<=134217728)(w:World)(h:AD w ab b A P FT)(a2:∀k,FT k->k<w.heap.size)(Ai:Int)(hw:1<=Ai/\Ai<=4611686018427387904)(aE:(P.puts A.j.Am).1.length<=N)(aB:∀p∈(P.puts A.j.Am).1,Bi p)(aZ:0<=A.A9/\A.A9+N<=9223372036854775807)(aQ:AN (A.j.A9+1))(aP:∀x∈A.ix.segs,AN x)(hF:Fit P a c m)(W:CN (a+N+2) (c+2*a+2*N+4) (m+29*N+12+8*A.ix.segs.length))(hm:A.j.Am.length*m<=70368744177664)(hkl:A.ix.segs.length+N<=134217728)(hn:∀n∈A.ix.segs,CJ n)(aO:∀n∈A.j.Am,CJ n)(a0:A.j.Am.length<=1073741824)(hL:Lets B w)(aR:∀k,FT k->B<=k):
 Ag 68 #[A5 ab,A0 Ai] w (Al (A0 (A.aR P Ai).1) λw'=>Aq w FT w' (λw' E=>AD w' ab b (A.aR P Ai).2.1 (A.aR P Ai).2.2 E)):=by
 obtain⟨xb,jb,sv,ov,lv,jo,Ft,hv,hsub⟩:=id h;have c2:=hv.Af.c2;have aW:=A1 (O0 w hv.dk hv.lt hv.jn hF ⟨by have:=W.a;omega,by have:=W.c;omega,by have:=W.m;omega⟩ hm aO hL);have aJ:Hid (A.aR P Ai=if (P.puts A.j.Am).2≠0 then ((P.puts A.j.Am).2,A,P) else A.ay P A.ix.segs (Bz Ai (P.puts A.j.Am).1)):=rfl;have aD:=A1 (OJ Ai (P.puts A.j.Am).1);generalize hR:A.aR P Ai=R at aJ ⊢;generalize hPS:P.puts A.j.Am=PS at aW aJ aD aE aB;obtain⟨ps,pe⟩:=PS;dsimp only at aW aJ aD aE aB;have H:=A1 h;have bB:=A1 hv;have L:=A1 a2;have aH:=A1 aB
 have a3:Hid (∀d kv fv,A3 Ab w d->Dy d kv A.ix.segs->(∀g,kv.oB g->w.heap.size<=g)->Ps d fv (Bz Ai ps) FT->pe=0->
  Ag 107 #[A5 ab,kv,fv] d (Al (A0 R.1) λw'=>Aq w FT w' (λw' E=>AD w' ab b R.2.1 R.2.2 E))):=λd kv fv X O aF hf he=>by
  obtain⟨z1,z2,z3⟩:=aD.o;have aA:R=A.ay P A.ix.segs (Bz Ai ps):=by rw[aJ.o,Ad (by simp[he])]
  rw[aA]
  refine(Rj d (H.o.aw X) (λk O=>Bk (L.o k O) X.Ak) kv A.ix.segs O (λg z=>⟨λY=>by have:=aF g z;have:=L.o g Y;omega,AM hL.1 (aF g z)⟩) fv (Bz Ai ps) hf
   (λl W=>⟨λp hp=>aH.o p ((z3 l W).1 p hp),by have:=(z3 l W).2;omega⟩) ⟨aZ.1,by omega⟩ aQ aP hF ⟨by have:=W.a;omega,by have:=W.c;omega,by have:=W.m;omega⟩ (by omega) hn aO hn (by omega) a0 (hL.aS X) aR).mono ?_
  rintro e w'⟨h1,h2⟩;exact⟨h1,Aq.a7 (X.aa λ_ _ h=>h.elim) (λk O=>O.elim .inl λh=>.inr (aF k h)) h2⟩
 have aM:Hid (∀d,A3 Ab w d->pe≠0->R.1=pe/\Aq w FT d (λw' E=>AD w' ab b R.2.1 R.2.2 E)):=λd X he=>by
  have aA:R=(pe,A,P):=by rw[aJ.o,Ah he]
  subst aA;exact⟨rfl,X.aa λ_ _ h=>h.elim,FT,H.o.aw X,λk O=>Bk (L.o k O) X.Ak,λk O=>.inl O⟩
 have aS:Hid (∀d v,AW d v ps->_):=λd v Y=>TA hS hN d v Ai ps aE Y (λp hp=>(aH.o p hp).2.1) hw;have a1:Hid (A.ix.segs.length*8<=140737488355328):=by unfold Hid;omega
 go_enter func68,ntmps68
 go_wp2_with (fail);refine aW.m ?_;rintro e w1⟨v1,rfl,aT,ho1,aG⟩;by_cases hp:pe=0
 case neg=>
  have a5:=A1 (aM.o w1 aG hp);have hpb:(pe !=0)=true:=by simpa using hp
  go_wp2;go_ret;exact⟨by rw[a5.o.1];rfl,a5.o.2⟩
 case pos=>
  subst hp;have V1:=bB.o.aw aG;have d1:=V1.Af.c1;have d4:=V1.ix.c4;have a8:=A1 (A11 w1 sv A.ix.segs V1.segs a1.o);have a4:=A1 aG;have aN:=A1 aT;go_wp2_with (fail);refine a8.m ?_;rintro e w2⟨v2,rfl,aY,aV,aI⟩;have aL:=A1 aY;have aU:=A1 aV;have aX:Hid (A3 Ab w w2):=a4.o.tr aI;have bA:=A1 (aS.o w2 v1 (Ay aN.o λg z=>aI.Ao g (AB aN.o z) (λh=>h)));go_wp2_with (fail);refine bA.m ?_;rintro e w3⟨v3,vs,rfl,I,aK⟩;have a6:A3 Ab w w3:=aX.o.tr aK
  have a7:=A1 (a3.o w3 v2 v3 a6 (Ay aL.o λg z=>aK.Ao g (AB aL.o z) (λh=>h)) (λg z=>AM a4.o.Ak (aU.o g z))
   ⟨vs,I.B5,I.Bv,I.ls,λg z Y=>by have:=I.lo g z;have:=L.o g Y;have:=aX.o.Ak;omega,λx Y g z hf=>by have:=I.li x Y g z;have:=L.o g hf;have:=aX.o.Ak;omega⟩ (by simp))
  go_wp2_with (fail);refine a7.m ?_;rintro e w4⟨rfl,hI⟩;have a9:=A1 hI;go_wp2;go_ret;exact⟨rfl,a9.o⟩
end
def Tm{n:Int}(h:isNum n=true):1<=n/\n<=4611686018427387904:=by
 unfold isNum at h;simpa using h
def Mi{P:PD}{ix:Ix}(h:P.a8=some ix):(1<=ix.B7/\ix.B7<=4611686018427387904)/\∀n∈ix.segs,1<=n/\n<=4611686018427387904:=by
 unfold PD.a8 indexOf at h;split at h
 ·cases h;exact⟨⟨by decide,by decide⟩,λn z=>by cases z⟩
 ·split at h
  ·cases h
  ·rename_i E;split at h
   ·cases h
   ·rename_i d;split at h
    ·cases h;(have d:(En (P.aZ AI).1).all isNum=true:=by simpa using d);rw[N9]at d;generalize hi:En (P.aZ AI).1=l at *;cases l with
     | nil=>simp at E
     | cons x r=>exact⟨Tm (d x BF),λn z=>Tm (d n (Bx _ z))⟩
    ·cases h
def QZ:∀(k:Nat) (l:Bs) (r:List Pu×Bs),Ex k l=some r->r.1.length<=l.length
 | 0,l,r,h=>by cases h;exact Cf _
 | k+1,l,r,h=>by
  unfold Ex at h;split at h
  ·cases h;exact Cf _
  ·rename_i hl;split at h
   ·cases hx:Ex k (l.drop 17) with
    | none=>rw[hx]at h;cases h
    | some q=>
     rw[hx]at h;cases h;have:=QZ k (l.drop 17) q hx;simp only[Cv];rw[Cu]at this;omega
   ·cases h
def X6{P:PD}{a c m:Nat}(d:Fit P a c m){n:Int}{l:List Pu}(h:P.Cw n=some l):l.length<=m:=by
 unfold PD.Cw IL at h;split at h
 ·cases h
 ·cases hx:Ex (P.aZ (AF n)).1.length (P.aZ (AF n)).1 with
  | none=>rw[hx]at h;cases h
  | some q=>
   rw[hx]at h;dsimp only at h;split at h
   ·cases h;exact AM (QZ _ _ q hx) (RB d _)
   ·cases h
def NL{P:PD}{a c m:Nat}(H:Fit P a c m):∀(E:List Int) (l:List (Int×List Pu)),P.segs E=some l->l.length=E.length/\∀x∈l,x.2.length<=m
 | [],l,h=>by cases h;exact⟨rfl,λx z=>by cases z⟩
 | n::r,l,h=>by
  unfold PD.segs at h;cases z:P.Cw n with
  | none=>rw[z]at h;cases h
  | some q=>
   rw[z]at h;dsimp only at h;cases hy:P.segs r with
   | none=>rw[hy]at h;cases h
   | some y=>
    rw[hy]at h;cases h;obtain⟨L,I⟩:=NL H r y hy;refine⟨by simp[L],λx d=>?_⟩;rcases BR.1 d with rfl|d
    ·exact X6 H z
    ·exact I x d
def FL(l:List Bs):List Int:=l.filterMap λnm=>if (Bf nm).1=2 then some (Bf nm).2 else none
def Xa(a b:List Bs):FL (a++b)=FL a++FL b:=by simp[FL]
def DV(w:World)(ab b xb:Nat)(last:Int):Prop:=w.heap[ab]?=some (.cells #[.pointer (some ⟨b,0,none⟩),.pointer (some ⟨xb,0,none⟩),.pointer none,.int .i64 last,.slice none 0 0] 150 (0,0))
section
variable {w w':World} {ab b xb:Nat} {last:Int}
def DV.c0(h:DV w ab b xb last):A7 w ab 0 (A5 b):=by unfold DV at h;simp[A7,World.cell?,h]
def DV.c1(h:DV w ab b xb last):A7 w ab 1 (A5 xb):=by unfold DV at h;simp[A7,World.cell?,h]
def DV.c2(h:DV w ab b xb last):A7 w ab 2 (.pointer none):=by unfold DV at h;simp[A7,World.cell?,h]
def DV.c3(h:DV w ab b xb last):A7 w ab 3 (A0 last):=by unfold DV at h;simp[A7,World.cell?,h]
def DV.fz(h:DV w ab b xb last)(o:Nat):w.frozen? (Aa ab o)=false:=by unfold DV at h;simp[World.frozen?,h]
def DV.s3(h:DV w ab b xb last)(x:Int):DV (w.setCell (Aa ab 3) (A0 x)) ab b xb x:=Cq h
def DV.s2(h:DV w ab b xb last)(d:Nat):D3 (w.setCell (Aa ab 2) (A5 d)) ab b xb d last (.slice none 0 0):=Cq h
def DV.fj(h:DV w ab b xb last):ab<w.heap.size:=By h
def DV.aj{S:Nat->Prop}(h:DV w ab b xb last)(d:A3 S w w')(z:¬S ab):DV w' ab b xb last:=d.aj h z
end
def Gj.fD{S:Nat->Prop}{w w':World}{H b:Nat}{v:Value}{l:List (Int×List Pu)}(h:Gj w H b v l)(L:A3 S w w')(I:∀k,S k->k<H):Gj w' H b v l:=by
 obtain⟨E,h1,O,W,Y⟩:=h;refine⟨E,h1,Ay O λg d=>L.Ao g (AB O d) λz=>by have:=I g z;have:=W g d;omega,W,λk q1 q2=>?_⟩;obtain⟨X,s1,s2,s3,s4⟩:=Y k q1 q2;exact⟨X,s1.aj L (λz=>by have:=I _ z;omega),Ay s2 λg d=>L.Ao g (AB s2 d) λz=>by have:=I g z;have:=s4 g d;omega,s3,s4⟩
section
variable {b a c m B:Nat} {P:PD} {Ft:Nat->Prop}
def YL(h:P.a8=none):Ar.aT P=.error 7:=by unfold Ar.aT;rw[h]
def YO{ix:Ix}(h:P.a8=some ix)(d:P.Ax.any (λnm=>decide ((Bf nm).1=0))=true):Ar.aT P=.error 7:=by
 unfold Ar.aT;rw[h];dsimp only;rw[Ah d]
def YI{ix:Ix}(h:P.a8=some ix)(d:P.Ax.any (λnm=>decide ((Bf nm).1=0))=false)(z:P.segs ix.segs=none):Ar.aT P=.error 7:=by
 unfold Ar.aT;rw[h];dsimp only;rw[Ad (by simp[d]),z]
def YJ{ix:Ix}{l:List (Int×List Pu)}(h:P.a8=some ix)(z:P.Ax.any (λnm=>decide ((Bf nm).1=0))=false)(E:P.segs ix.segs=some l)(d:(P.puts (BQ ix.B7 P.Ax)).2≠0):Ar.aT P=.error (P.puts (BQ ix.B7 P.Ax)).2:=by
 unfold Ar.aT;rw[h];dsimp only;rw[Ad (by simp[z]),E];dsimp only;rw[Ah d]
def Ar.AS(P:PD)(ix:Ix):Ar:=⟨ix,P.bQ ix.B7,(FL P.Ax).getLastD 0,[]⟩
def YK{ix:Ix}{l:List (Int×List Pu)}(h:P.a8=some ix)(z:P.Ax.any (λnm=>decide ((Bf nm).1=0))=false)(E:P.segs ix.segs=some l)(d:(P.puts (BQ ix.B7 P.Ax)).2=0):
 Ar.aT P=.ok ({Ar.AS P ix with AP:=(Ar.AS P ix).aX P},l.flatMap (·.2)++(P.puts (BQ ix.B7 P.Ax)).1):=by
 unfold Ar.aT;rw[h];dsimp only;rw[Ad (by simp[z]),E];dsimp only;rw[Ad (by simp[d])];rfl
def A2r(w:World)(h:Bn w b P Ft)(Y:∀k,Ft k->k<w.heap.size)(hF:Fit P a c m)(hl:CN a c m)(dO:a*m<=70368744177664)(hL:Lets B w)(hE:HT w)(cO:∀nm∈P.Ax,nm.length<=281474976710656)(aM:∀ix,P.a8=some ix->ix.segs.length<=1073741824/\ix.segs.length*m<=4398046511104)(bS:∀bI,(P.puts (BQ bI P.Ax)).1.length<=1099511627776):
 Ag 59 #[A5 b] w λe w'=>
  (∃n,Ar.aT P=.error n/\e=.returned (.tuple #[.pointer none,.slice none 0 0,A0 n])/\A3 Ab w w')\/
  (∃A ps ab v FT,Ar.aT P=.ok (A,ps)/\e=.returned (.tuple #[A5 ab,v,A0 0])/\AW w' v ps/\AD w' ab b A P FT/\(∀k,FT k->Ft k\/w.heap.size<=k)/\(∀k,FT k->k<w'.heap.size)/\(∀g,v.ownBlock=some g->¬FT g/\w.heap.size<=g)/\A3 Ab w w'):=by
 obtain⟨i0,hi,dM,eG,eA⟩:=E7 Ih;have eV:=A1 (Y6 w h Y hF hl hL);have eZ:Hid (∀d,A3 Ab w d->Ag 76 #[A5 b] d λe w'=>∃v,e=.returned v/\Dl w' v P.Ax/\A3 Ab d w'/\(∀g,v.ownBlock=some g->d.heap.size<=g)):=λd hc=>Ow (B3.aH h Y hc) hF hl;have eX:Hid (∀d,A3 Ab w d->∀nm∈P.Ax,Ag 97 #[.string ⟨nm.toArray⟩] d (Al (.tuple #[A0 (Bf nm).1,A0 (Bf nm).2]) λw'=>A3 Ab d w')):=λd hc nm hm=>SE d nm (cO nm hm) (hE.aS hc) (hL.aS hc);have bN:P.Ax.length<=a:=by rw[KM];exact hF.A4
 have bT:=AM bN hl.a;have eY:Hid (∀ix,P.a8=some ix->∀d ab xb sv,A3 Ab w d->A7 d ab 0 (A5 b)->A7 d ab 1 (A5 xb)->A7 d xb 4 sv->D5 d sv ix.segs->_):=
  λix W d ab xb sv hc h0 h1 h4 hs=>QW (ab:=ab) (xb:=xb) (sv:=sv) d ix.segs h0 h1 h4 hs (B3.aH h Y hc) (λk z=>Bk (Y k z) hc.Ak) hF hl (λn hn=>by have:=(Mi W).2 n hn;exact HD (by omega) this.2) (aM ix W).1 (hL.aS hc)
 have e0:Hid (∀ix,P.a8=some ix->∀d,A3 Ab w d->_):=λix W d hc=>ZU d (B3.aH h Y hc) (λk z=>Bk (Y k z) hc.Ak) hF hl dO (Mi W).1 (hL.aS hc) (hE.aS hc) cO;have e4:Hid (∀ix,P.a8=some ix->∀d ab xb jb sv lv,A3 Ab w d->Ck d ab b xb jb sv (.slice none 0 0) lv (.pointer none) (Ar.AS P ix) P Ft->_):=λix W d ab xb jb sv lv hc hv=>
  RZ d hv hF hl (λn hn=>by have:=(Mi W).2 n hn;exact HD (by omega) this.2) (λn hn=>by obtain⟨_,h2,_⟩:=Ot hn;exact HD (by omega) h2.2) (aM ix W).1 (AM (Mc _ _) bT) (hL.aS hc)
 have e3:Hid (∀ix,P.a8=some ix->∀l,P.segs ix.segs=some l->∀d dF v,Gj d dF b v l->(Ag 101 #[v] d λe w'=>∃v',e=.returned v'/\AW w' v' (l.flatMap (·.2))/\(∀g,v'.ownBlock=some g->d.heap.size<=g)/\A3 Ab d w')/\(l.flatMap (·.2)).length<=4398046511104):=λix W l hs d dF v hv=>by
  obtain⟨s1,s2⟩:=NL hF ix.segs l hs;refine⟨RX d dF v l hv (by rw[s1];exact(aM ix W).1) s2 (by rw[s1];exact(aM ix W).2),AM ?_ (aM ix W).2⟩;rw[<-s1];clear hs s1 hv
  induction l with
  | nil=>exact Cf _
  | cons x r ih=>
   have:=ih (λy hy=>s2 y (Bx _ hy));have:=s2 x BF;rw[N5,AY,Cv,MS];omega
 have eN:=A1 (YL (P:=P));have eL:=A1 (λix=>YO (P:=P) (ix:=ix));have eR:=A1 (λix=>YI (P:=P) (ix:=ix));have eQ:=A1 (λix l=>YJ (P:=P) (ix:=ix) (l:=l));have eO:=A1 (λix l=>YK (P:=P) (ix:=ix) (l:=l));have dX:=A1 bS;have eP:Hid (∀d,A3 Ab w d->Bn d b P Ft):=λd hc=>B3.aH h Y hc;have aU:=A1 Y;have FIX:=A1 (λ(ix:Ix) (W:P.a8=some ix)=>(Mi W).1);generalize hO:Ar.aT P=O at eN eL eR eQ eO ⊢
 go_enter func59,ntmps59
 go_wp2_with (fail);refine eV.m ?_;rintro e d (⟨W,rfl,hc1⟩|⟨ix,xb,sv,W,rfl,hfx,hsv,hso,hxb,hc1⟩)
 ·have aT:=A1 (eN.o W);have dP:=A1 hc1;go_wp2;go_ret3;exact .inl ⟨7,aT.o,rfl,dP.o⟩
 have eB:DV (d.aC #[A5 b,A5 xb,.pointer none,A0 0,.slice none 0 0] 150) d.heap.size b xb 0:=BN d _;have eT:Hid (A3 Ab d (d.aC #[A5 b,A5 xb,.pointer none,A0 0,.slice none 0 0] 150)):=(A3.I _ d).ak _;have cQ:=A1 hc1;have eF:=A1 (eZ.o _ (cQ.o.tr eT.o));have aT:=A1 W;have bL:=A1 hfx;have bH:=A1 hsv;have bQ:=A1 hso;have aY:=A1 hxb;have dV:=A1 eB;have dA:Hid (d.heap.size<(d.aC #[A5 b,A5 xb,.pointer none,A0 0,.slice none 0 0] 150).heap.size):=by unfold Hid;simp
 go_wp2_with (fail);refine eF.m ?_;rintro e w2⟨v,rfl,hv,b5,dZ⟩;obtain⟨na,cN,rfl,nc1,dJ⟩:=(Dl.rd hv).Ce;unfold maxLen at dJ;have e5:=A1 (Dl.rd hv);have cC:=A1 <| eT.o.tr b5;have eS:=A1 (dV.o.aj b5 (λh=>h));have bZ:Hid (∀g,(Value.slice na P.Ax.length cN).ownBlock=some g->d.heap.size<g):=λg H=>Bk dA.o (dZ g H);generalize eD:d.heap.size=ab at eS bZ ⊢;have aK:=A1 eD;go_wp2;go_loopw [30] (λiv wr=>∃k:Nat,iv=A0 k/\k<=P.Ax.length/\Hid (DV wr ab b xb ((FL (P.Ax.take k)).getLastD 0)/\(P.Ax.take k).any (λnm=>decide ((Bf nm).1=0))=false/\A3 Ab w wr/\A3 (One ab) w2 wr)) (λiv _=>P.Ax.length-(intOf iv).toNat)
 case atStart=>exact⟨0,rfl,by omega,eS.o,by simp,cQ.o.tr cC.o,A3.I _ _⟩
 case round=>
  obtain⟨k,rfl,z,hI⟩:=hrel;obtain⟨i1,i2,i3,i4⟩:=hI.o;by_cases aW:k<P.Ax.length
  ·obtain⟨g,o,rfl,d1⟩:=GB.at e5.o k aW;have aO:=BV aW;have bM:=Dn aW;generalize a4:(P.Ax[k]'aW)=nm at d1 aO bM;have e1:=i4.bH d1 (λh=>by have h':g=ab:=h;have:=bZ.o g rfl;omega);have aR:=A1 (eX.o wr i3 nm aO);have bO:=SG nm;have aI:Hid ((FL (P.Ax.take (k+1))).getLastD 0=if (Bf nm).1=2 then (Bf nm).2 else (FL (P.Ax.take k)).getLastD 0):=by
    unfold Hid;rw[bM,Xa];by_cases hc:(Bf nm).1=2
    ·(have e:FL [nm]=[(Bf nm).2]:=by simp[FL,hc]);rw[Ah hc,e,TH]
    ·(have e:FL [nm]=[]:=by simp[FL,hc]);rw[Ad hc,e,FF]
   (have aV:Hid (¬(Bf nm).1=0->(P.Ax.take (k+1)).any (λnm=>decide ((Bf nm).1=0))=false):=λhz=>by rw[bM,List.any_append,i2];simp[hz]);have aP:Hid ((Bf nm).1=0->P.Ax.any (λnm=>decide ((Bf nm).1=0))=true):=λhz=>PR.2 ⟨nm,aO,by simp[hz]⟩;generalize hX:Bf nm=X at aR aI aV aP bO;obtain⟨s,n⟩:=X;dsimp only at aR aI aV aP bO;obtain⟨r1,r2⟩:=bO;have b2:=A1 i1;have bF:=A1 i3;have dW:=A1 i4;(have dL:(k:Int)<(P.Ax.length:Int):=by omega);have hk0:=C3 k;by_cases bD:s=0
   ·subst bD;have aL:=A1 (eL.o ix aT.o (aP.o rfl));go_wp2_with (go_at_call 97;refine aR.m ?_;rintro e w6⟨rfl,aB⟩;have aG:=A1 aB);go_ret3;exact .inl ⟨7,aL.o,rfl,bF.o.tr aG.o⟩
   ·(have hsb0:(s==0)=false:=by simpa using bD);by_cases a6:s=2
    ·subst a6;(have bK:Hid ((FL (P.Ax.take (k+1))).getLastD 0=n):=by rw[aI.o,Ah rfl];rfl);go_wp2_with (fail);refine aR.m ?_;rintro e w6⟨rfl,aB⟩;have eC:=b2.o.aj aB (λh=>h);have g63:=eC.c3;have f63:=eC.fz 3;have dG:=A1 (eC.s3 n);have aG:=A1 aB;go_wp2;go_roundw
     case rel=>
      have k7:A3 (One ab) wr (w6.sC ab 3 (A0 n)):=(aG.o.aa (S':=One ab) λ_ _ h=>h.elim).ao (b:=ab) rfl 3 _;exact⟨k+1,by go_num,by omega,by rw[bK.o];exact dG.o,aV.o (by decide),bF.o.Ap k7 λx W Y=>by have e':x=ab:=W;have:=aK.o;have:=cQ.o.Ak;omega,dW.o.tr k7⟩
     case measure=>simp[intOf];omega
    ·(have hsb2:(s==2)=false:=by simpa using a6);(have bK:Hid ((FL (P.Ax.take (k+1))).getLastD 0=(FL (P.Ax.take k)).getLastD 0):=by rw[aI.o,Ad a6];rfl);have bY:=A1 (aV.o bD);go_wp2_with (go_at_call 97;refine aR.m ?_;rintro e w6⟨rfl,aB⟩;have aG:=A1 aB);go_roundw
     case rel=>exact⟨k+1,by go_num,by omega,by rw[bK.o];exact b2.o.aj aG.o (λh=>h),bY.o,bF.o.tr aG.o,dW.o.Ap aG.o λ_ h _=>h.elim⟩
     case measure=>simp[intOf];omega
  ·(have cZ:k=P.Ax.length:=by omega);subst cZ;rw[C6]at i1 i2;(have dL:¬((P.Ax.length:Int)<(P.Ax.length:Int)):=by omega);have b3:A3 (One ab) d wr:=(cC.o.aa (S':=One ab) λ_ _ h=>h.elim).tr i4;(have b7:xb≠ab:=by have:=bL.o.lt;have:=aK.o;omega);have bX:=bL.o.aj b3 b7;(have cJ:D5 wr sv ix.segs:=Ds.Aj bH.o b3 λg H h=>by have h':g=ab:=h;have:=Ds.lt bH.o H;have:=aK.o;omega);have eI:=A1 (eY.o ix aT.o wr ab xb sv i3 i1.c0 i1.c1 bX.c4 cJ);have b2:=A1 i1;have eH:=A1 i2;have bF:=A1 i3;have dW:=A1 i4;have b0:=A1 b7;have cD:=A1 bX;have dU:=A1 cJ;have cP:Hid (ab<wr.heap.size):=b2.o.fj;go_wp2_with (fail);refine eI.m ?_;rintro e w3 (⟨hs,rfl,hc3⟩|⟨l,v3,hs,rfl,hv3,hc3⟩)
   ·have aL:=A1 (eR.o ix aT.o eH.o hs);have aH:=A1 hc3;go_wp2;go_ret3;exact .inl ⟨7,aL.o,rfl,bF.o.tr aH.o⟩
   have d3:=(cD.o.aj hc3 (λh=>h)).c3;have aN:=A1 hs;have cX:=A1 hv3;have aH:=A1 hc3;have dB:Hid (A3 Ab w w3):=bF.o.tr hc3;have eJ:=A1 (e0.o ix aT.o w3 dB.o);have eK:=A1 (eQ.o ix l aT.o eH.o aN.o);have dS:=A1 (eO.o ix l aT.o eH.o aN.o);have cH:=A1 (dX.o ix.B7);go_wp2_with (fail);refine eJ.m ?_;rintro e w4 (⟨hp,rfl,hc4⟩|⟨hp,jb,lv,v4,rfl,hj,hv4,hjf,hvo4,hc4⟩)
   ·have aL:=A1 (eK.o hp);have bA:=A1 hc4;generalize (P.puts (BQ ix.B7 P.Ax)).2=E at hp aL ⊢;(have bS:(E !=0)=true:=by simpa using hp);go_wp2;go_ret3;exact .inl ⟨E,aL.o,rfl,dB.o.tr bA.o⟩
   have dK:=A1 (dS.o hp);have hpe:(P.puts (BQ ix.B7 P.Ax)).2=0:=hp;have b4:=b2.o.aj (aH.o.tr hc4) (λh=>h);have g42:=b4.c2;have f42:=b4.fz 2;have eU:=A1 (b4.s2 jb);have aQ:A3 (One ab) w4 (w4.sC ab 2 (A5 jb)):=(A3.I (One ab) w4).ao (b:=ab) rfl 2 _;have cM:A3 (One ab) w3 (w4.sC ab 2 (A5 jb)):=(hc4.aa (S':=One ab) λ_ _ h=>h.elim).tr aQ;have bR:A3 (One ab) wr (w4.sC ab 2 (A5 jb)):=(aH.o.aa (S':=One ab) λ_ _ h=>h.elim).tr cM;(have bW:w.heap.size<=ab:=by have:=aK.o;have:=cQ.o.Ak;omega);(have cS:A3 Ab w (w4.sC ab 2 (A5 jb)):=bF.o.Ap bR λx W Y=>by have e':x=ab:=W;omega);have hr3:wr.heap.size<=w3.heap.size:=aH.o.Ak;(have aD:∀g,sv.ownBlock=some g->g<ab:=λg H=>by have:=Ds.lt bH.o H;have:=aK.o;omega);(have bC:xb<ab:=by have:=bL.o.lt;have:=aK.o;omega);(have aA:∀k,Dh jb lv (.pointer none) k->ab<k:=λk z=>by have:=hjf k z;have:=cP.o;omega);(have j5:Dx (w4.sC ab 2 (A5 jb)) jb b lv (.pointer none) (P.bQ ix.B7):=hj.Aj aQ λk z h=>by have e':k=ab:=h;have:=aA k z;omega);have eM:Ck (w4.sC ab 2 (A5 jb)) ab b xb jb sv (.slice none 0 0) lv (.pointer none) (Ar.AS P ix) P Ft:=
    ⟨eU.o,cD.o.aj bR b0.o,Ds.Aj dU.o bR (λg H h=>by have e':g=ab:=h;have:=aD g H;omega),Ds.bT,j5,eP.o _ cS,λk z=>Bk (aU.o k z) cS.Ak,
     λk z hf=>by
      have h0:=aU.o k hf;rcases z with rfl|rfl|z|z|z
      ·omega
      ·have:=aY.o;omega
      ·have:=bQ.o k z;have:=aY.o;omega
      ·simp[Value.ownBlock]at z
      ·have:=aA k z;omega,
     λg H=>⟨by have:=aD g H;omega,by have:=bQ.o g H;omega,λh=>by have:=aA g h;have:=aD g H;omega⟩,
     λg H=>by simp[Value.ownBlock]at H,
     λk z=>⟨by have:=aA k z;omega,by have:=aA k z;omega⟩⟩
   have dE:=A1 (e4.o ix aT.o _ ab xb jb sv lv cS eM);have aS:=A1 eM;have cG:=A1 hv4;have a1:=A1 hvo4;have bA:=A1 hc4;have cY:=A1 cM;have dC:=A1 cS;have aE:=A1 bW;have bP:=A1 aD;have bE:=A1 bC;have a2:=A1 aA;obtain⟨bU,cB,rfl,v41,eE,-⟩:=B8 hv4;unfold maxLen at eE;go_wp2_with (fail);refine dE.m ?_;rintro e w6⟨v5,v6,rfl,b8,-,bV,-,aB⟩;obtain⟨L,I,rfl,v51,dT,-⟩:=B8 b8;unfold maxLen at dT;have b6:=eU.o.aj aB (λh=>h);have g64:=b6.c4;have f64:=b6.fz 4;have dG:=A1 (b6.s4 (Value.slice L ((Ar.AS P ix).aX P).length I));have aQ:A3 (One ab) w6 (w6.sC ab 4 (Value.slice L ((Ar.AS P ix).aX P).length I)):=(A3.I (One ab) w6).ao (b:=ab) rfl 4 _;have aJ:A3 (One ab) (w4.sC ab 2 (A5 jb)) (w6.sC ab 4 (Value.slice L ((Ar.AS P ix).aX P).length I)):=(aB.aa (S':=One ab) λ_ _ h=>h.elim).tr aQ;(have bJ:A3 Ab w (w6.sC ab 4 (Value.slice L ((Ar.AS P ix).aX P).length I)):=dC.o.Ap aJ λx W Y=>by have e':x=ab:=W;have:=aE.o;omega);(have h45:w4.heap.size<=(w4.sC ab 2 (A5 jb)).heap.size:=by simp);(have aF:∀g,(Value.slice L ((Ar.AS P ix).aX P).length I).ownBlock=some g->w4.heap.size<=g:=λg H=>by have:=bV g H;omega);(have h34:ab<w4.heap.size:=by have:=cP.o;have:=aH.o.Ak;have:=bA.o.Ak;omega);have e2:Ck (w6.sC ab 4 (Value.slice L ((Ar.AS P ix).aX P).length I)) ab b xb jb sv (Value.slice L ((Ar.AS P ix).aX P).length I) lv (.pointer none) {Ar.AS P ix with AP:=(Ar.AS P ix).aX P} P Ft:=
    ⟨dG.o,aS.o.ix.aj aJ b0.o,Ds.Aj aS.o.segs aJ (λg H h=>by have e':g=ab:=h;have:=bP.o g H;omega),
     Ds.Aj (Dl.rd b8) aQ (λg H h=>by have e':g=ab:=h;have:=aF g H;omega),
     aS.o.jn.Aj aJ (λk z h=>by have e':k=ab:=h;have:=a2.o k z;omega),eP.o _ bJ,λk z=>Bk (aU.o k z) bJ.Ak,
     λk z hf=>by
      rcases z with h|h|h|h|h
      ·exact aS.o.De k (.inl h) hf
      ·exact aS.o.De k (.inr (.inl h)) hf
      ·exact aS.o.De k (.inr (.inr (.inl h))) hf
      ·have:=aF k h;have:=aU.o k hf;have:=aE.o;omega
      ·exact aS.o.De k (.inr (.inr (.inr (.inr h)))) hf,
     aS.o.Fg,
     λg H=>⟨by have:=aF g H;omega,by have:=aF g H;have:=bE.o;omega,λh=>by have:=bV g H;have:=aS.o.jn.lt h;omega⟩,
     aS.o.FB⟩
   have cE:Hid (∀k,Fe ab xb jb sv (Value.slice L ((Ar.AS P ix).aX P).length I) lv (.pointer none) k->w.heap.size<=k):=λk z=>by
    rcases z with rfl|rfl|h|h|h
    ·exact aE.o
    ·exact aY.o
    ·have:=bQ.o k h;have:=aY.o;omega
    ·have:=aF k h;have:=aE.o;omega
    ·have:=a2.o k h;have:=aE.o;omega
   have dN:A3 (One ab) w3 (w6.sC ab 4 (Value.slice L ((Ar.AS P ix).aX P).length I)):=cY.o.tr aJ;have a7:=e3.o ix aT.o l aN.o (w6.sC ab 4 (Value.slice L ((Ar.AS P ix).aX P).length I)) wr.heap.size v3 (cX.o.fD dN λk z=>by have e':k=ab:=z;have:=cP.o;omega);have a3:=dK.o;generalize hPL:l.flatMap (·.2)=PL at a7 a3;have cT:=A1 a3;have dD:=A1 a7.1;have dQ:=A1 a7.2;have b1:=A1 e2;have bG:=A1 bJ;have aZ:Hid (AW (w6.sC ab 4 (Value.slice L ((Ar.AS P ix).aX P).length I)) (.slice bU (P.puts (BQ ix.B7 P.Ax)).1.length cB) (P.puts (BQ ix.B7 P.Ax)).1):=Ay cG.o λg H=>by
    have h1:=a1.o g H;have hlt4:=AB cG.o H;(have a4:g≠ab:=by have:=cP.o;have:=aH.o.Ak;omega);have e1:=aJ.Ao g (by omega) (λh=>a4 h);rw[e1];exact GF _ _ _ _ (λe=>a4 e)
   (have HO47:Hid (∀g,(Value.slice bU (P.puts (BQ ix.B7 P.Ax)).1.length cB).ownBlock=some g->w.heap.size<=g):=λg H=>by have:=a1.o g H;have:=dB.o.Ak;omega);go_wp2_with (fail);refine dD.m ?_;rintro e w8⟨v8,rfl,cF,cU,b9⟩;obtain⟨bB,a8,rfl,v81,dR,-⟩:=B8 cF;unfold maxLen at dR;have dY:=A1 cF;have a5:=A1 cU;have cI:=A1 b9;have cL:=A1 (Src.bO underlying97 (Ay aZ.o λg H=>b9.Ao g (AB aZ.o H) (λh=>h)) (I3 (P.puts (BQ ix.B7 P.Ax)).1));(have cV:Hid ((PL.length+(P.puts (BQ ix.B7 P.Ax)).1.length)*24<=140737488355328):=by have:=dQ.o;have:=cH.o;unfold Hid;omega);go_wp2_with (at_builtin;refine D4 rfl (.tmp 84) (.tmp 85) 97 97 rfl 113 i0 _ 3 24 underlying97 hi dM eG eA rfl (by decide) (.slice bB PL.length a8) PL.length (B9 PL) (by rfl) dY.o _ (P.puts (BQ ix.B7 P.Ax)).1.length _ (by rfl) cL.o cV.o ?_;intro a9 cA w9 hA;have eW:=A1 hA);go_ret3;have hA:=eW.o;have dH:=hA.Aj (S:=λk=>(Value.slice bB PL.length a8).ownBlock=some k) λ_ h=>h;have aX:A3 (λk=>(Value.slice bB PL.length a8).ownBlock=some k) (w6.sC ab 4 (Value.slice L ((Ar.AS P ix).aX P).length I)) w9:=(cI.o.aa λ_ _ h=>h.elim).tr dH;have dI:=cI.o.Ak;have a0:∀g,(Value.slice a9 (PL.length+(P.puts (BQ ix.B7 P.Ax)).1.length) cA).ownBlock=some g->(w6.sC ab 4 (Value.slice L ((Ar.AS P ix).aX P).length I)).heap.size<=g:=λg H=>by
    rcases hA.Cj with h|h
    ·rw[h]at H;exact a5.o g H
    ·rw[h]at H;cases H;exact dI
   refine .inr ⟨_,_,ab,_,λk=>Ft k\/Fe ab xb jb sv (Value.slice L ((Ar.AS P ix).aX P).length I) lv (.pointer none) k,cT.o,rfl,?_,⟨xb,jb,sv,(Value.slice L ((Ar.AS P ix).aX P).length I),lv,.pointer none,Ft,b1.o.aP (λk z=>aX.Ao k (b1.o.bV z) λh=>by have:=a5.o k h;have:=b1.o.bV z;omega) aX.Ak,λ_ h=>h⟩,λk z=>?_,λk z=>Bk (b1.o.bV z) aX.Ak,λg H=>⟨λhf=>?_,?_⟩,?_⟩
   ·(have e:(PL++(P.puts (BQ ix.B7 P.Ax)).1).length=PL.length+(P.puts (BQ ix.B7 P.Ax)).1.length:=by simp);unfold AW;rw[IS,e];exact hA.AA
   ·rcases z with z|z
    ·exact .inl z
    ·exact .inr (cE.o k z)
   ·have:=a0 g H;have:=b1.o.bV hf;omega
   ·have:=a0 g H;have:=bG.o.Ak;omega
   ·exact bG.o.Ap aX λx W Y=>by have:=a5.o x W;have:=bG.o.Ak;omega
end
section
def WY(w:World)(H:Nat)(oldest:Int)(p:Pu)(I:A7 w H 0 (A0 oldest)):
 Ag 111 #[Dt p,A5 H] w (Al (.bool (decide (oldest<=p.2.1))) λw'=>A3 Ab w w'):=by
 obtain⟨z,E,h⟩:=p;unfold Dt;dsimp only
 have d:C5 (w.aC #[A0 z,A0 E,A0 h] 113) w.heap.size z E h:=BN w _;have k:A3 Ab w (w.aC #[A0 z,A0 E,A0 h] 113):=(A3.I _ w).ak _;have c1:=d.c1;have hw2:=k.al I;have K:=A1 k
 go_enter func111,ntmps111
 go_wp2;go_ret;exact⟨rfl,K.o⟩
def A0y(w:World)(v:Value)(l:List Pu)(h:AW w v l)(ob:Nat)(oldest:Int)(hw:A7 w ob 0 (A0 oldest)):
 Ag 159 #[v,.func (Fn.func 111) #[] #[A5 ob]] w λe w'=>∃i:Int,e=.returned (A0 i)/\decide (0<=i)=l.any (λp=>decide (oldest<=p.2.1))/\A3 Ab w w':=by
 obtain⟨va,vcap,rfl,v1,v2,v3,-⟩:=B8 h;unfold maxLen at v2;have H:=A1 h;have aK:=A1 hw;have aJ:=A1 v3
 go_enter func159,ntmps159
 go_wp2;go_loopw [8] (λiv wr=>∃k:Nat,iv=A0 k/\k<=l.length/\Hid ((l.take k).any (λp=>decide (oldest<=p.2.1))=false/\A3 Ab w wr)) (λiv _=>l.length-(intOf iv).toNat)
 case atStart=>exact⟨0,rfl,by omega,by simp,A3.I _ _⟩
 case round=>
  obtain⟨k,rfl,hk,hI⟩:=hrel;obtain⟨i1,L⟩:=hI.o;by_cases z:k<l.length
  ·obtain⟨g,rfl⟩:=aJ.o (by omega);obtain⟨q1,q2,q3⟩:=He l k z;have W:l.take (k+1)=l.take k++[l[k]'z]:=Dn z;have E:=BV z;generalize hp:(l[k]'z)=p at q1 q2 q3 W E;have e1:=L.al (BC H.o rfl q1);have e2:=L.al (BC H.o rfl q2);have e3:=L.al (BC H.o rfl q3);have X:=A1 (WY wr ob oldest p (L.al aK.o));have Y:=A1 L;(have aH:Hid (decide (oldest<=p.2.1)=false->(l.take (k+1)).any (λp=>decide (oldest<=p.2.1))=false):=λh=>by rw[W,List.any_append,i1];simp at h ⊢;exact h);have aG:Hid (decide (oldest<=p.2.1)=true->l.any (λp=>decide (oldest<=p.2.1))=true):=λh=>PR.2 ⟨p,E,h⟩;generalize hd:decide (oldest<=p.2.1)=d at X aH aG;obtain⟨p1,p2,p3⟩:=p;unfold Dt at X;dsimp only at e1 e2 e3 X;(have aA:(k:Int)<(l.length:Int):=by omega);have aD:=C3 k;cases d with
   | true=>
    have aE:=A1 (aG.o rfl);go_wp2_with (fail);refine X.m ?_;rintro e w6⟨rfl,O⟩;have I:=A1 O;go_wp2;go_ret;exact⟨_,rfl,by rw[aE.o];exact CH aD,Y.o.tr I.o⟩
   | false=>
    have aF:=A1 (aH.o rfl);go_wp2_with (fail);refine X.m ?_;rintro e w6⟨rfl,O⟩;have I:=A1 O;go_wp2;go_roundw
    case rel=>exact⟨k+1,by go_num,by omega,aF.o,Y.o.tr I.o⟩
    case measure=>simp[intOf];omega
  ·(have aB:k=l.length:=by omega);subst aB;rw[C6]at i1;have aI:=A1 i1;have Y:=A1 L;(have aA:¬((l.length:Int)<(l.length:Int)):=by omega);clear hI i1 L;go_wp2;go_ret;exact⟨_,rfl,by rw[aI.o];rfl,Y.o⟩
def A1E(w:World)(v:Value)(l:List Pu)(h:AW w v l)(z:Nat)(oldest:Int)(L:A7 w z 0 (A0 oldest)):
 Ag 110 #[v,.func (Fn.func 111) #[] #[A5 z]] w (Al (.bool (l.any (λp=>decide (oldest<=p.2.1)))) λw'=>A3 Ab w w'):=by
 have E:=A1 (A0y w v l h z oldest L);obtain⟨va,vcap,rfl,v1,v2,-⟩:=B8 h;generalize hd:l.any (λp=>decide (oldest<=p.2.1))=d at E ⊢
 go_enter func110,ntmps110
 go_wp2_with (fail);refine E.m ?_;rintro e w1⟨i,rfl,O,W⟩;have H:=A1 O;have I:=A1 W;go_wp2;go_ret;exact⟨by rw[<-H.o];rfl,I.o⟩
end
section
def A0X(w:World)(x y:Value)(d z:List Pu)(h1:AW w x d)(h2:AW w y z):
 Ag 114 #[x,y] w (Al (.bool (decide (d=z))) λw'=>A3 Ab w w'):=by
 obtain⟨va,vcap,rfl,v1,v2,v3,-⟩:=B8 h1;obtain⟨ua,ucap,rfl,u1,u2,u3,-⟩:=B8 h2;unfold maxLen at v2 u2;have aK:=A1 h1;have aO:=A1 h2;have aS:=A1 v3;have aV:=A1 u3;by_cases hl:d.length=z.length
 case neg=>
  have aJ:¬d=z:=λe=>hl (by rw[e]);rw[CZ aJ];have aQ:((d.length:Int)!=(z.length:Int))=true:=by simp;omega
  go_enter func114,ntmps114
  go_wp2;go_ret;exact⟨rfl,A3.I _ _⟩
 case pos=>
 have aI:=A1 hl;have aQ:((d.length:Int)!=(z.length:Int))=false:=by simp;omega
 go_enter func114,ntmps114
 go_wp2;go_loopw [13] (λiv wr=>∃k:Nat,iv=A0 k/\k<=d.length/\Hid (d.take k=z.take k/\A3 Ab w wr)) (λiv _=>d.length-(intOf iv).toNat)
 case atStart=>exact⟨0,rfl,by omega,by simp,A3.I _ _⟩
 case round=>
  obtain⟨k,rfl,hk,hI⟩:=hrel;obtain⟨i1,L⟩:=hI.o;by_cases I:k<d.length
  ·(have E:k<z.length:=by have:=aI.o;omega);obtain⟨g,rfl⟩:=aS.o (by omega);obtain⟨g',rfl⟩:=aV.o (by omega);obtain⟨p1,p2,p3⟩:=He d k I;obtain⟨q1,q2,q3⟩:=He z k E;have aD:d.take (k+1)=d.take k++[d[k]'I]:=Dn I;have aE:z.take (k+1)=z.take k++[z[k]'E]:=Dn E;(have O:d=z->(d[k]'I)=(z[k]'E):=λe=>by subst e;rfl);obtain⟨p,hp⟩:∃p,(d[k]'I)=p:=⟨_,rfl⟩;obtain⟨q,hq⟩:∃q,(z[k]'E)=q:=⟨_,rfl⟩;rw[hp]at p1 p2 p3 aD O;rw[hq]at q1 q2 q3 aE O;(have aP:Hid (p=q->d.take (k+1)=z.take (k+1)):=λe=>by rw[aD,aE,i1,e]);have aB:Hid (¬p=q->decide (d=z)=false):=λh=>CZ λe=>h (O e);have aR:Hid (∀W,A3 Ab wr W->A7 W g (k*3) (A0 p.1)/\A7 W g (k*3+1) (A0 p.2.1)/\A7 W g (k*3+2) (A0 p.2.2)/\A7 W g' (k*3) (A0 q.1)/\A7 W g' (k*3+1) (A0 q.2.1)/\A7 W g' (k*3+2) (A0 q.2.2)):=λW hx=>
    ⟨hx.al (L.al (BC aK.o rfl p1)),hx.al (L.al (BC aK.o rfl p2)),hx.al (L.al (BC aK.o rfl p3)),hx.al (L.al (BC aO.o rfl q1)),hx.al (L.al (BC aO.o rfl q2)),hx.al (L.al (BC aO.o rfl q3))⟩
   have aF:=A1 L;obtain⟨Y,pb,pc⟩:=p;obtain⟨X,qb,qc⟩:=q;dsimp only at aR;(have aL:(k:Int)<(d.length:Int):=by omega);(have hkj:(k:Int)<(z.length:Int):=by omega);have hk0:=C3 k;have aT:=aR.o wr.drew (A3.I _ wr).af;clear hI i1 L p1 p2 p3 q1 q2 q3 aD aE O hp hq E;go_wp2;refine BP (λw'=>A7 w' g (k*3) (A0 Y)/\A7 w' g (k*3+1) (A0 pb)/\A7 w' g (k*3+2) (A0 pc)/\A7 w' g' (k*3) (A0 X)/\A7 w' g' (k*3+1) (A0 qb)/\A7 w' g' (k*3+2) (A0 qc)) 8
    (Bq [0,1,2,3,4,5,6,7] []) aT ?_
   iterate 8 (refine Bg ?_;(try simp only[An]))
   refine Bl ?_;simp only[BI,BH];by_cases H:(Y,pb,pc)=(X,qb,qc)
   ·have aN:=A1 (aP.o H);(obtain⟨rfl,rfl,rfl⟩:Y=X/\pb=qb/\pc=qc:=by simpa using H);clear H aP aB;go_wp2;go_roundw
    case rel=>exact⟨k+1,by go_num,by omega,aN.o,aF.o.af⟩
    case measure=>simp[intOf];omega
   ·have aA:=A1 (aB.o H);have aM:¬Y=X\/(Y=X/\¬pb=qb)\/(Y=X/\pb=qb/\¬pc=qc):=by
     by_cases ha:Y=X
     ·by_cases hb:pb=qb
      ·exact .inr (.inr ⟨ha,hb,λhc=>H (by rw[ha,hb,hc])⟩)
      ·exact .inr (.inl ⟨ha,hb⟩)
     ·exact .inl ha
    clear H aP aB;rcases aM with ha|⟨rfl,hb⟩|⟨rfl,rfl,hc⟩
    ·(have aH:(Y==X)=false:=by simpa using ha);go_wp2;go_ret;exact⟨by rw[aA.o];rfl,aF.o.af⟩
    ·(have aH:(pb==qb)=false:=by simpa using hb);go_wp2;go_ret;exact⟨by rw[aA.o];rfl,aF.o.af⟩
    ·(have aH:(pc==qc)=false:=by simpa using hc);go_wp2;go_ret;exact⟨by rw[aA.o];rfl,aF.o.af⟩
  ·(have aG:k=d.length:=by omega);have he:d=z:=by
    have h1:=i1;rw[aG,C6]at h1;rw[aI.o,C6]at h1;exact h1
   have aF:=A1 L;(have aL:¬((k:Int)<(d.length:Int)):=by omega);have aU:=A1 he;clear hI i1 L he aG;go_wp2;go_ret;exact⟨by rw[CH aU.o];rfl,aF.o⟩
def Xd{aA b:Nat}(w:World)(L O:Nat)(x:Int×List Pu)(h:Jf w aA b L x)(Y:Value)(l:List Pu)(hp:A7 w O 0 Y)(hl:AW w Y l):
 Ag 113 #[A5 L,A5 O] w (Al (.bool (decide (x.2=l))) λw'=>A3 Ab w w'):=by
 obtain⟨sv,s1,s2,-,-⟩:=h;obtain⟨sa,E,rfl,c1,c2,-⟩:=B8 s2;obtain⟨pa,z,rfl,d1,d2,-⟩:=B8 hl;have f4:A7 w.drew L 4 (.slice sa x.2.length E):=s1.c4;have I:A7 w.drew O 0 (.slice pa l.length z):=hp;have X:=A1 (A0X w.drew _ _ x.2 l (Ay s2 λ_ _=>rfl) (Ay hl λ_ _=>rfl));generalize hd:decide (x.2=l)=d at X ⊢;generalize hn1:x.2.length=n1 at X f4
 go_enter func113,ntmps113
 go_wp2;refine BP (λw'=>A7 w' L 4 (.slice sa n1 E)/\A7 w' O 0 (.slice pa l.length z)) 6
  (Bq [0,1,2,3,4,5] [5]) ⟨f4,I⟩ ?_
 iterate 5 (refine Bg ?_;(try simp only[An]))
 refine Bw λK hK=>?_;go_simp;refine X.m ?_;rintro e w6⟨rfl,H⟩;refine hK _ _ ⟨H.al f4,H.al I⟩ (λhS=>?_);have W:Hid (A3 Ab w w6):=((A3.I _ w).af).tr H
 (try simp only[An])
 refine Bl ?_;simp only[BI,BH];go_wp2;go_ret;exact⟨rfl,W.o⟩
def A0z{aO b:Nat}(w:World)(v:Value)(segs:List (Int×List Pu))(h:Gj w aO b v segs)(pb:Nat)(pv:Value)(l:List Pu)(hp:A7 w pb 0 pv)(hl:AW w pv l):
 Ag 112 #[v,.func (Fn.func 113) #[] #[A5 pb]] w λe w'=>
  ((e=.returned (A0 (-1))/\segs.find? (λs=>decide (s.2=l))=none)\/∃(k:Nat) (hk:k<segs.length),e=.returned (A0 k)/\segs.find? (λs=>decide (s.2=l))=some (segs[k]'hk))/\A3 Ab w w':=by
 obtain⟨W,j1,j2,j3,j4⟩:=h;obtain⟨va,vcap,rfl,v1,v2,v3,-⟩:=B8 j2;unfold maxLen at v2;have aP:=A1 j2;have aN:=A1 j4;have G:=A1 v3;have aM:=A1 hp;have aK:=A1 hl
 go_enter func112,ntmps112
 go_wp2;go_loopw [8] (λiv wr=>∃k:Nat,iv=A0 k/\k<=segs.length/\Hid ((segs.take k).find? (λs=>decide (s.2=l))=none/\A3 Ab w wr)) (λiv _=>segs.length-(intOf iv).toNat)
 case atStart=>exact⟨0,rfl,by omega,by simp,A3.I _ _⟩
 case round=>
  obtain⟨k,rfl,hk,hI⟩:=hrel;obtain⟨X,I⟩:=hI.o;by_cases z:k<segs.length
  ·(have E:k<W.length:=by omega);obtain⟨g,rfl⟩:=G.o (by omega);have hc:A7 w g k (A5 (W[k]'E)):=BC aP.o rfl (by simp[Gr,E]);have O:=aN.o k E z;have aA:segs=segs.take k++(segs[k]'z):: segs.drop (k+1):=by
    conv=>lhs;rw[<-DK k segs,Fw z]
   have Y:segs.take (k+1)=segs.take k++[segs[k]'z]:=Dn z;generalize aI:(W[k]'E)=gb at hc O;have e1:=I.al hc;have SI:=A1 (Xd wr gb pb (segs[k]'z) (O.aw I) pv l (I.al aM.o) (Ay aK.o λg hg=>I.Ao g (AB aK.o hg) (λh=>h)));have aB:=A1 I;have aJ:Hid (decide ((segs[k]'z).2=l)=false->(segs.take (k+1)).find? (λs=>decide (s.2=l))=none):=λh=>by
    rw[Y,A3K,X,List.find?_cons_of_neg (by rw[h];simp)];rfl
   have aF:Hid (decide ((segs[k]'z).2=l)=true->segs.find? (λs=>decide (s.2=l))=some (segs[k]'z)):=λh=>by
    have e:(segs.take k++(segs[k]'z):: segs.drop (k+1)).find? (λs=>decide (s.2=l))=some (segs[k]'z):=by
     rw[A3K,X,List.find?_cons_of_pos (by exact h)];rfl
    rwa [<-aA]at e
   generalize hd:decide ((segs[k]'z).2=l)=d at SI aJ aF;(have aD:(k:Int)<(segs.length:Int):=by omega);have hk0:=C3 k;clear hI X I hc O aA Y aI hd;cases d with
   | true=>
    have aG:=A1 (aF.o rfl);clear aJ aF;go_wp2_with (fail);refine SI.m ?_;rintro e w6⟨rfl,H⟩;have L:=A1 H;go_wp2;go_ret;exact⟨.inr ⟨k,z,rfl,aG.o⟩,aB.o.tr L.o⟩
   | false=>
    have aH:=A1 (aJ.o rfl);go_wp2_with (fail);refine SI.m ?_;rintro e w6⟨rfl,H⟩;have L:=A1 H;clear H SI;go_wp2;go_roundw
    case rel=>exact⟨k+1,by go_num,by omega,aH.o,aB.o.tr L.o⟩
    case measure=>simp[intOf];omega
  ·(have aE:k=segs.length:=by omega);subst aE;rw[C6]at X;have aL:=A1 X;have aB:=A1 I;(have aD:¬((segs.length:Int)<(segs.length:Int)):=by omega);clear hI X I;go_wp2;go_ret;exact⟨.inl ⟨rfl,by simpa using aL.o⟩,aB.o⟩
end
end
end Go.Proofs.YtodcnkbblippnaaGreatDoor
