/- Part 18 of a proof: walks of the program. -/
import Derived.Test.YtodcnkbblippnabGreatDoorPart17
namespace Go.Proofs.YtodcnkbblippnabGreatDoor
set_option maxRecDepth 100000
set_option maxHeartbeats 32000000
set_option linter.defProp false
open Go.Proofs.Tryz
section
open Go.RowKit
attribute [local go_sem ↓] CE
def Tryz.fc:(Tryz.prog.info? 72).map (λi=>(i.zero,i.size,i.bytes))=some (some (.slice none 0 0),1,24):=by kernel_rfl
def Rq:∃d,Tryz.prog.info? 72=some d/\d.zero=some (.slice none 0 0)/\d.size=1/\d.bytes=24:=by
 have h:=Tryz.fc;cases hx:Tryz.prog.info? 72 with
 | none=>rw[hx]at h;cases h
 | some i=>rw[hx]at h;simp at h;exact⟨i,rfl,h.1,h.2.1,h.2.2⟩
section
variable {N:Nat}
def Ti(hS:Fj N)(hN:N<=134217728)(w:World)(v:Value)(len:Int)(l:List Pu)(hl:l.length<=N)(h:AY w v l)(hT:∀p∈l,AW p.2.1)(bI:1<=len/\len<=4611686018427387904):
 Ah 59 #[v,A0 len] w λe w'=>∃v' vs,e=.returned v'/\DD w' w.heap.size v' vs (Bx len l)/\A3 Aa w w':=by
 obtain⟨i0,hi,fK,fC,fE⟩:=Rq;obtain⟨j0,hj,fN,fG,e0⟩:=E4 I4;have k0:A3 Aa w (w.alloc (.cells #[A0 len] 3)):=(A3.I _ w).aj _;have dT:(w.alloc (.cells #[A0 len] 3)).heap[w.heap.size]?=some (.cells #[A0 len] 3 (0,0)):=BK w _;have fR:=A1 (A1L _ v l (Ay h λg hg=>k0.Al g (Az h hg) (λh=>h)) (by omega));have fY:=A1 k0;have fL:=A1 dT;have dO:Hid ((w.alloc (.cells #[A0 len] 3)).heap.size=w.heap.size+1):=by unfold Hid;simp
 have cI:Hid (∀wx vx,AY wx vx l->A6 wx w.heap.size 0 (A0 len)->(∀g,vx.ownBlock=some g->w.heap.size≠g)->_):=λwx vx h1 h2 h3=>hS wx vx w.heap.size len l hl h1 hT bI h2 h3;have cB:Hid (Bx len l=E9 len (DZ (AA len) l) true (0,0,0) []):=rfl;have cA:∀p∈DZ (AA len) l,AW p.2.1:=λp hp=>hT p (((Fb len).cr l).bF.Dy (Fb len) hp);have cU:(DZ (AA len) l).length=l.length:=Qt l;obtain⟨R,hR⟩:∃R,Bx len l=R:=⟨_,rfl⟩;rw[hR]at cB ⊢;obtain⟨O,dU⟩:∃O,DZ (AA len) l=O:=⟨_,rfl⟩;rw[dU]at cB cA cU cI;have eK:=A1 cA;have b9:=A1 bI;have hsn:O.length<=134217728:=by omega
 have fO:=A1 cU;clear hR dU h hT k0 dT cA hS hl bI cU
 go_enter func59,ntmps59
 go_wp2_with (fail);refine fR.m ?_;rintro e w1⟨v1,rfl,eM,cN,cH⟩;have c1:A6 w1 w.heap.size 0 (A0 len):=cH.ao (by simp only[World.cell?,fL.o];rfl);have dV:=A1 (cI.o w1 v1 eM c1 (λg hg=>by have:=cN g hg;have:=dO.o;omega));have fZ:Hid (A3 Aa w w1):=fY.o.tr cH;have dF:Hid (∀g,v1.ownBlock=some g->w.heap.size<g):=λg hg=>by have:=cN g hg;have:=dO.o;omega
 have fQ:=A1 c1;clear eM cN cH c1 fR cI;go_wp2_with (fail);refine dV.m ?_;rintro e w2⟨rfl,cC,cV⟩;have e2:O.length=l.length:=fO.o;obtain⟨sa,scap,rfl,s1,s2,s3,-⟩:=B9 cC;unfold maxLen at s2;have c2:A6 w2 w.heap.size 0 (A0 len):=cV.bG fQ.o (λh=>FQ _ (dF.o _ h));have gB:Hid (A3 Aa w w2):=fZ.o.Av cV λx I bC=>by have:=dF.o x I;omega
 have cD:=A1 cC;have fV:=A1 c2;have fU:Hid (w.heap.size<w2.heap.size):=Hd w2 _ c2;have e3:=A1 s3;clear cC cV dV fQ c2 e2 s3;have eD:Hid (∀wx,A3 Aa w2 wx->∀i (hi:i<O.length),∃g,sa=some (Ab g 0)/\A6 wx g (i*3) (A0 (O[i]'hi).1)/\A6 wx g (i*3+1) (A0 (O[i]'hi).2.1)/\A6 wx g (i*3+2) (A0 (O[i]'hi).2.2)):=λwx I i hi=>by
  obtain⟨g,rfl⟩:=e3.o (by omega);obtain⟨q1,q2,q3⟩:=H4 O i hi;exact⟨g,rfl,I.ao (BF cD.o rfl q1),I.ao (BF cD.o rfl q2),I.ao (BF cD.o rfl q3)⟩
 go_wp2;go_loopw [6,18] (λv6 iv wr=>∃(i:Nat) (ws:List (List Pu)) (vs:List Value),iv=A0 i/\i<=O.length/\Hid (DD wr w2.heap.size v6 vs ws/\A3 Aa w2 wr/\ws.length<=i/\(∀x∈ws,x.length<=i)/\(0<i->∃a0 l0,ws=a0++[l0]/\l0≠[])/\R=E9 len (O.drop i) (decide (i=0)) (if i=0 then (0,0,0) else O.getD (i-1) (0,0,0)) ws)) (λ_ iv _=>O.length-(intOf iv).toNat)
 case atStart=>exact⟨0,[],[],rfl,by omega,DD.b9 _ _,A3.I _ _,Au _,λx I=>by simp at I,λh=>absurd h (FQ 0),by simpa using cB.o⟩
 case round=>
  obtain⟨i,ws,vs,rfl,hii,hI⟩:=hrel;by_cases aT:i<O.length
  case neg=>
   (obtain rfl:i=O.length:=by omega);obtain⟨i1,i2,i3,i4,i5,i6⟩:=hI.o;rw[Gg]at i6;have fP:R=ws:=i6;subst fP;have aP:=A1 i1;have dC:=A1 i2;(have eV:¬((O.length:Int)<(O.length:Int)):=by omega);clear i1 i2 i3 i4 i5 i6 hI;obtain⟨ap,cp,rfl,hcap1,hcap2,-⟩:=B9 aP.o.Bu;go_wp2;go_ret;exact⟨_,rfl,⟨vs,aP.o.Bu,aP.o.ls,λg hg=>EJ (Bm fU.o (aP.o.lo g hg)),λx I g hg=>EJ (Bm fU.o (aP.o.li x I g hg)),aP.o.IS⟩,gB.o.tr dC.o⟩
  case pos=>
   obtain⟨i1,i2,i3,i4,i5,i6⟩:=hI.o;obtain⟨g,rfl,p1,p2,p3⟩:=eD.o wr i2 i aT;rw[Vs len O i aT]at i6;have cP:=eK.o _ (BV aT);obtain⟨p,hp⟩:∃p,(O[i]'aT)=p:=⟨_,rfl⟩;rw[hp]at p1 p2 p3 i6 cP;obtain⟨H,E,pc⟩:=p;dsimp only at p1 p2 p3 cP;have cS:C5 (wr.alloc (.cells #[A0 H,A0 E,A0 pc] 90)) wr.heap.size H E pc:=BK wr _;have kp:A3 Aa wr (wr.alloc (.cells #[A0 H,A0 E,A0 pc] 90)):=(A3.I _ wr).aj _;(have eV:(i:Int)<(O.length:Int):=by omega);have hk0:=Ce i;have aP:=A1 i1;have dC:=A1 i2;have eF:=A1 i3;have dJ:=A1 i4;have fT:=A1 i5;have fM:Hid (w2.heap.size<=wr.heap.size):=i2.Ak;have a4:=A1 cS;have aZ:=A1 kp;(have eS:Hid (∀k:Nat,k<=i->(k+1)*24<=140737488355328):=λk hk=>by omega);have aX:Hid (∀cG,Er len ws (decide (i=0)) (if i=0 then (0,0,0) else O.getD (i-1) (0,0,0)) (H,E,pc)=cG->R=E9 len (O.drop (i+1)) (decide (i+1=0)) (if i+1=0 then (0,0,0) else O.getD (i+1-1) (0,0,0)) cG):=λcG h=>by
    (have eT:O.getD i (0,0,0)=(H,E,pc):=by rw[HC,E2 aT,hp];rfl);rw[Ac (Nat.succ_ne_zero i),A2V,eT,i6,h];simp
   obtain⟨a7,a2,e6,bZ,eN,dL,-⟩:=B9 i1.Bu;have dY:=A1 dL;clear dL;unfold maxLen at eN;obtain⟨pk,aY⟩:∃pk,wr.heap.size=pk:=⟨_,rfl⟩;rw[aY]at a4 fM;have aM:=A1 aY;by_cases aJ:i=0
   focus
    subst e6;(have hz:((i:Int)==0)=true:=by simp[aJ]);have aL:Hid (Er len ws (decide (i=0)) (if i=0 then (0,0,0) else O.getD (i-1) (0,0,0)) (H,E,pc)=GA ws [] (H,E,pc)):=PT len ws _ _ _ (.inl (by simp[aJ]));clear hI i1 i2 i3 i4 i5 i6 cS kp hp aY aJ;go_wp2;rw[aM.o];go_quiet (fail);have aG:=A1 (aP.o.aS (aZ.o.bb nq));have aA:=A1 (a4.o.ak ((A3.I Aa _).bb nq) (λh=>h));have dB:=A1 (dC.o.tr (aZ.o.bb nq));generalize ((wr.alloc (.cells #[A0 H,A0 E,A0 pc] 90)).drewN nq)=wY at aG aA dB ⊢
   rotate_left
   focus
    obtain⟨P,cQ⟩:∃P,P=i-1:=⟨_,rfl⟩;(have bD:P<O.length:=by omega);obtain⟨gq,fH,q1,q2,q3⟩:=eD.o wr i2 P bD;cases fH;have bR:=eK.o _ (BV bD);(have bK:O.getD P (0,0,0)=O[P]'bD:=by rw[HC,E2 bD];rfl);obtain⟨q,hq⟩:∃q,(O[P]'bD)=q:=⟨_,rfl⟩;rw[hq]at q2 bR bK;obtain⟨qa,qb,qc⟩:=q;dsimp only at q2 bR;have bG:=A1 (λwx=>MZ wx E len cP b9.o);have bE:=A1 (λwx=>MZ wx qb len bR b9.o);have aN:Hid (BA E len≠BA qb len->Er len ws (decide (i=0)) (if i=0 then (0,0,0) else O.getD (i-1) (0,0,0)) (H,E,pc)=GA ws [] (H,E,pc)):=λh=>by
     rw[Ac aJ,<-cQ,bK];exact PT len ws _ _ _ (.inr h)
    have aH:Hid (∀a0 l0,ws=a0++[l0]->BA E len=BA qb len->Er len ws (decide (i=0)) (if i=0 then (0,0,0) else O.getD (i-1) (0,0,0)) (H,E,pc)=GA a0 l0 (H,E,pc)):=λa0 l0 e h=>by
     rw[Ac aJ,<-cQ,bK,D4 aJ,e];exact Vu len a0 l0 _ _ h
    (have hz:((i:Int)==0)=false:=by simpa using aJ);obtain⟨dD,eH⟩:∃dD,BA E len=dD:=⟨_,rfl⟩;obtain⟨eQ,dS⟩:∃eQ,BA qb len=eQ:=⟨_,rfl⟩;rw[eH]at bG aN aH;rw[dS]at bE aN aH;(have eP0:IntKind.i64.wrap ((i:Int)-1)=(P:Int):=by simp[IntKind.wrap,IntKind.bits,IntKind.signed];omega);(have eP1:wrap64 ((i:Int)-1)=(P:Int):=by unfold wrap64;omega);have hP0:=Ce P;(have hPn:(P:Int)<(O.length:Int):=by omega);have eR:=A1 (aZ.o.ao q2);(have dR:Hid (0<i):=by unfold Hid;omega);have bU:=A1 (aZ.o.ao (i2.ao fV.o));clear hI i1 i2 i3 i4 i5 i6 cS kp hp aY aJ cQ bR bK hq q1 q2 q3 eH dS;by_cases bL:dD=eQ
   rotate_left
   focus
    subst e6;(have eW:(dD !=eQ)=true:=by simpa using bL);have aL:=A1 (aN.o bL);clear bL aN aH;go_wp2;rw[aM.o];generalize wr.alloc (.cells #[A0 H,A0 E,A0 pc] 90)=wA at a4 aZ eR bU ⊢;have aG:=A1 (aP.o.aS aZ.o.af);have aA:=A1 a4.o.af;have dB:=A1 (dC.o.tr aZ.o.af);have z1:=aA.o.c1;have z2:A6 wA.drew g (P*3+1) (A0 qb):=eR.o;have z3:A6 wA.drew w.heap.size 0 (A0 len):=bU.o;refine C3 (λw'=>A6 w' pk 1 (A0 E)/\A6 w' g (P*3+1) (A0 qb)/\A6 w' w.heap.size 0 (A0 len)) 18
     (Bz [0,1,2,3,4,5,6,8,9,10,11,12,13,14,15,7,16,17] [7,16]) ⟨z1,z2,z3⟩ ?_
    iterate 15 (refine Bj ?_;(try simp only[Ao]))
    refine Bt λK hK=>?_;go_simp;refine(bG.o _).mono ?_;rintro e w3⟨rfl,rfl⟩;refine hK _ _ ⟨z1,z2,z3⟩ (λhS=>?_);clear hK K hS
    (try simp only[Ao])
    refine Bt λK hK=>?_;go_simp;refine(bE.o _).mono ?_;rintro e w3⟨rfl,rfl⟩;refine hK _ _ ⟨z1,z2,z3⟩ (λhS=>?_);clear hK K hS bG bE
    (try simp only[Ao])
    (refine Bj ?_;(try simp only[Ao]))
    refine Bo ?_;simp only[BO,BN];generalize wA.drew=wY at aG aA dB z1 z2 z3 ⊢;clear z1 z2 z3
   rotate_left 2
   focus
    subst bL;(have eW:(dD !=dD)=false:=by simp);obtain⟨ws,d,rfl,aK⟩:=fT.o dR.o;have aL:=A1 (aH.o ws d rfl rfl);(have bO:(ws++[d]).length=ws.length+1:=by simp);have cE:=aP.o.B8;obtain⟨vs,lv,rfl⟩:∃fJ lv,vs=fJ++[lv]:=by
     (have dZ:vs≠[]:=by intro h;subst h;simp at cE);exact⟨vs.dropLast,vs.getLast dZ,(ML dZ).symm⟩
    (have aS:vs.length=ws.length:=by simpa using cE);have aU:AY wr lv d:=by
     have h1:=aP.o.ls vs.length (by simp) (by simp;omega);(have e1:(vs++[lv])[vs.length]'(by simp)=lv:=by simp);(have e2:(ws++[d])[vs.length]'(by simp;omega)=d:=by rw[Gf (by omega)];simp[aS]);rw[e1,e2]at h1;exact h1
    obtain⟨la,z,rfl,l1,l2,l3,-⟩:=B9 aU;obtain⟨W,rfl⟩:=l3 (J0.2 aK);unfold maxLen at l2;obtain⟨l0,q0,aV⟩:∃l0 q0,d=l0++[q0]:=⟨d.dropLast,d.getLast aK,(ML aK).symm⟩;obtain⟨L,bM⟩:∃L,L=l0.length:=⟨_,rfl⟩;(have cX:d.length=L+1:=by rw[aV,bM];simp);rw[bO]at e6 bZ;subst e6;obtain⟨g0,rfl⟩:=dY.o (by rw[bO];omega);obtain⟨c1,c2,c3⟩:=H4 d L (by omega);(have eO:d[L]'(by omega)=q0:=by subst aV;rw[Gf (by omega)];simp[bM]);rw[eO]at c1 c2 c3;have b0:Hid (d.length<=i):=dJ.o d (by simp);(have bH:Hid (ws.length+1<=i+1):=by have:=eF.o;rw[bO]at this;unfold Hid;omega);have fS:Hid (∀wx,A3 Aa wr wx->A6 wx g0 ws.length (AJ W (L+1) z)/\A6 wx W (L*3) (A0 q0.1)/\A6 wx W (L*3+1) (A0 q0.2.1)/\A6 wx W (L*3+2) (A0 q0.2.2)):=λwx I=>
     ⟨I.ao (by rw[<-aS,<-cX];exact BF aP.o.Bu rfl (by rw[Hl (Au _)];simp)),I.ao (BF aU rfl c1),I.ao (BF aU rfl c2),I.ao (BF aU rfl c3)⟩
    have fI:Hid (W≠pk):=by
     have h1:=Az aU (g:=W) rfl;have h2:=aM.o;unfold Hid;omega
    have dW:=A1 (λwx=>NH wx (H,E,pc) q0);have bQ:Hid (¬Ck (H,E,pc) q0=0->GA ws d (H,E,pc)=ws++[d++[(H,E,pc)]]):=λh=>by
     unfold GA;rw[Ac];rintro⟨-,h2⟩;rw[aV]at h2;simp at h2;exact h h2
    have bS:Hid (Ck (H,E,pc) q0=0->GA ws d (H,E,pc)=ws++[l0++[(H,E,pc)]]):=λh=>by
     unfold GA;rw[Af ⟨aK,by rw[aV];simpa using h⟩,aV];simp
    obtain⟨cc,cF⟩:∃cc,Ck (H,E,pc) q0=cc:=⟨_,rfl⟩;rw[cF]at bQ bS;have eY:=A1 aV;have e9:=A1 bM;have e5:=A1 cX;have b8:=A1 aU;(have fD:L+1<=i:=by have:=dJ.o d (by simp);omega);(have hgt:(0:Int)<(L:Int)+1:=by omega);(have em:IntKind.i64.wrap (L:Int)=(L:Int):=by simp[IntKind.wrap,IntKind.bits,IntKind.signed];omega);(have em0:IntKind.i64.wrap ((L:Int)+1-1)=(L:Int):=by rw[J7];exact em);(have em1:wrap64 ((L:Int)+1-1)=(L:Int):=by unfold wrap64;omega);have hm00:=Ce L;(have hm01:(L:Int)<(L:Int)+1:=by omega);(have bP:IntKind.i64.wrap (ws.length:Int)=(ws.length:Int):=by have:=bH.o;simp[IntKind.wrap,IntKind.bits,IntKind.signed];omega);(have dG:IntKind.i64.wrap ((ws.length:Int)+1-1)=(ws.length:Int):=by rw[J7];exact bP);(have dN:wrap64 ((ws.length:Int)+1-1)=(ws.length:Int):=by have:=bH.o;unfold wrap64;omega);have eP:(0:Int)<=(ws.length:Int):=Gi _;(have dP:(ws.length:Int)<(ws.length:Int)+1:=by omega);obtain⟨eJ,dH,dI⟩:=q0;unfold Dr at dW;dsimp only at fS dW;rw[cF]at dW;clear aN aH aK cE aS aU l1 l3 aV bM cX c1 c2 c3 eO bO cF bZ dY fT fD;go_wp2;rw[aM.o];generalize wr.alloc (.cells #[A0 H,A0 E,A0 pc] 90)=wA at a4 aZ eR bU ⊢;have aG:=A1 (aP.o.aS aZ.o.af);have aA:=A1 a4.o.af;have dB:=A1 (dC.o.tr aZ.o.af);have z1:=aA.o.c1;have z2:A6 wA.drew g (P*3+1) (A0 qb):=eR.o;have z3:A6 wA.drew w.heap.size 0 (A0 len):=bU.o;refine C3 (λw'=>A6 w' pk 1 (A0 E)/\A6 w' g (P*3+1) (A0 qb)/\A6 w' w.heap.size 0 (A0 len)) 18
     (Bz [0,1,2,3,4,5,6,8,9,10,11,12,13,14,15,7,16,17] [7,16]) ⟨z1,z2,z3⟩ ?_
    iterate 15 (refine Bj ?_;(try simp only[Ao]))
    refine Bt λK hK=>?_;go_simp;refine(bG.o _).mono ?_;rintro e w3⟨rfl,rfl⟩;refine hK _ _ ⟨z1,z2,z3⟩ (λhS=>?_);clear hK K hS
    (try simp only[Ao])
    refine Bt λK hK=>?_;go_simp;refine(bE.o _).mono ?_;rintro e w3⟨rfl,rfl⟩;refine hK _ _ ⟨z1,z2,z3⟩ (λhS=>?_);clear hK K hS bG bE
    (try simp only[Ao])
    (refine Bj ?_;(try simp only[Ao]))
    refine Bo ?_;simp only[BO,BN];have aO:=A1 (λwx (I:A3 Aa wA wx)=>fS.o wx (aZ.o.tr I));have oc:=(aO.o wA.drew (A3.I _ wA).af).1;go_wp2;have gA:=(aO.o wA.drew.drew (A3.I _ wA).af.af);have f0:=aA.o.af.c0;have f1:=aA.o.af.c1;have f2:=aA.o.af.c2;obtain⟨d0,d1,d2,d3⟩:=gA;refine C3 (λw'=>A6 w' g0 ws.length (AJ W (L+1) z)/\A6 w' W (L*3) (A0 eJ)/\A6 w' W (L*3+1) (A0 dH)/\A6 w' W (L*3+2) (A0 dI)/\A6 w' pk 0 (A0 H)/\A6 w' pk 1 (A0 E)/\A6 w' pk 2 (A0 pc)) 13
     (Bz [0,1,2,3,4,5,6,7,8,9,10,11,12] [11]) ⟨d0,d1,d2,d3,f0,f1,f2⟩ ?_
    iterate 11 (refine Bj ?_;(try simp only[Ao]))
    refine Bt λK hK=>?_;go_simp;refine(dW.o _).mono ?_;rintro e Y⟨rfl,cZ⟩;have k6:A3 Aa wA Y:=((A3.I Aa wA).af.af).tr cZ;have bA:=aA.o.ak ((A3.I Aa wA.drew).af.tr cZ) (λh=>h);refine hK _ _ ⟨(aO.o Y k6).1,(aO.o Y k6).2.1,(aO.o Y k6).2.2.1,(aO.o Y k6).2.2.2,bA.c0,bA.c1,bA.c2⟩ (λhS=>?_);have bT:=A1 (aP.o.aS (aZ.o.tr k6));have eA:=A1 (dC.o.tr (aZ.o.Av k6 λ_ h _=>h));have aF:=A1 bA;have cL:=A1 k6;have a6:Hid (AY Y (AJ W d.length z) d):=Ay b8.o λg hg=>(aZ.o.tr k6).Al g (Az b8.o hg) (λh=>h)
    clear hK K hS cZ k6 bA f0 f1 f2 d0 d1 d2 d3 oc z1 z2 z3 dW aG aA dB
    (try simp only[Ao])
    by_cases a3:cc=0
    ·(have fB:(cc==0)=true:=by simpa using a3);have aB:=A1 (aL.o.trans (bS.o a3));have a9:=A1 (aX.o _ aB.o);clear a3 bS bQ aL aX aB
     (refine Bj ?_;(try simp only[Ao]))
     refine Bo ?_;simp only[BO,BN];go_wp2;obtain⟨d0,d1,d2,d3⟩:=aO.o Y.drew cL.o.af;have f0:=aF.o.af.c0;have f1:=aF.o.af.c1;have f2:=aF.o.af.c2;refine C3 (λw'=>A6 w' g0 ws.length (AJ W (L+1) z)/\A6 w' W (L*3) (A0 eJ)/\A6 w' W (L*3+1) (A0 dH)/\A6 w' W (L*3+2) (A0 dI)/\A6 w' pk 0 (A0 H)/\A6 w' pk 1 (A0 E)/\A6 w' pk 2 (A0 pc)) 6
      (Bz [0,1,2,3,4,5] []) ⟨d0,d1,d2,d3,f0,f1,f2⟩ ?_
     iterate 6 (refine Bj ?_;(try simp only[Ao]))
     refine Bo ?_;simp only[BO,BN];have fz:∀o,Y.drew.frozen? (Ab W o)=false:=λo=>G1 (a6.o:Y.drew.ownsRow 0 90 3 (AJ W d.length z) d.length (Ba d)) rfl o;obtain⟨-,b1,b2,b3⟩:=aO.o Y cL.o;have fy:∀o,Y.frozen? (Ab W o)=false:=λo=>G1 a6.o rfl o;(have eI:L<d.length:=by rw[e5.o];exact UN _);have eZ:=AY.br (w:=Y) (g:=W) (n:=d.length) (cap:=z) (l:=d) a6.o L eI (H,E,pc);have a5:d.set L (H,E,pc)=l0++[(H,E,pc)]:=by
      rw[eY.o,e9.o,JQ _ _ (Au _)];simp
     (have cJ:(l0++[(H,E,pc)]).length=d.length:=by rw[<-a5,IZ]);rw[a5]at eZ;(have kc:A3 (λk=>(AJ W d.length z).ownBlock=some k) Y (((Y.sC W (L*3) (A0 H)).sC W (L*3+1) (A0 E)).sC W (L*3+2) (A0 pc)).drew:=(((((A3.I (One W) Y).aq (b:=W) rfl _ _).aq (b:=W) rfl _ _).aq (b:=W) rfl _ _).af).ad (S':=λk=>(AJ W d.length z).ownBlock=some k) λk _ h=>by cases h;rfl);have aE:=A1 (bT.o.fa kc (l':=l0++[(H,E,pc)]) (by unfold AY;rw[cJ];exact Ay eZ λ_ _=>rfl));have fW:=A1 (eA.o.Av (S':=λk=>(AJ W d.length z).ownBlock=some k) kc λy hy bC=>absurd bC (UL.2 (bT.o.li (AJ W d.length z) (by simp) y hy)));(have e7:Hid ((l0++[(H,E,pc)]).length<=i+1):=by rw[cJ];exact My b0.o);clear eZ a5 cJ kc eI a6 cL f0 f1 f2;go_wp2;go_roundw
     case rel=>
      exact⟨i+1,ws++[l0++[(H,E,pc)]],vs++[AJ W d.length z],by go_num,aT,aE.o,fW.o,(by rw[AZ];exact bH.o),(λx I=>(AV.1 I).elim (λI=>My (dJ.o x (AV.2 (.inl I)))) (λI=>by rw[Ij.1 I];exact e7.o)),λ_=>⟨ws,_,rfl,by simp⟩,a9.o⟩
     case measure=>simp[intOf];omega
    (have fB:(cc==0)=false:=by simpa using a3);have aB:=A1 (aL.o.trans (bQ.o a3));clear a3 bS bQ aL;obtain⟨la,aR⟩:∃la:Option Addr,la=some (Ab W 0):=⟨_,rfl⟩;(have cY:Hid (DD Y w2.heap.size (AJ g0 (ws.length+1) a2) (vs++[.slice la d.length z]) (ws++[d])):=by subst aR;exact bT.o);have eG:Hid (∀x∈ws++[d],x.length<=i):=dJ.o;have cO:Hid (d.length<=i):=b0.o;have bV:Hid (¬(Value.slice la d.length z).ownBlock=some pk):=λh=>by
     rw[aR]at h;cases h;exact fI.o rfl
    clear aR a6 bT
    (refine Bj ?_;(try simp only[Ao]))
    refine Bo ?_;simp only[BO,BN]
   rotate_left
   iterate 2
    focus
     have bB:Hid ((wY.alloc (.cells #[.slice none 0 0] 72)).ownsRow 0 72 1 (.slice a7 ws.length a2) ws.length vs):=Ay aG.o.Bu λg hg=>((A3.I Aa wY).aj _).Al g (Az aG.o.Bu hg) (λh=>h)
     have bW:=A1 (Src.bc (size:=1) (B:=wY.heap.size) underlying131 wY #[.slice none 0 0] 72 (by simp) 1 1 rfl (by simp[Value.oneCell']));have cM:=A1 (dB.o.aj (.cells #[.slice none 0 0] 72));have b4:=A1 (aG.o.aS ((A3.I Aa wY).aj (.cells #[.slice none 0 0] 72)));have bX:=A1 (aA.o.ak ((A3.I Aa wY).aj (.cells #[.slice none 0 0] 72)) (λh=>h));(have bY:Hid ((ws.length+1)*24<=140737488355328):=by have h1:=eF.o;unfold Hid;omega);have dM:Hid (∀g,(Value.slice a7 ws.length a2).ownBlock=some g->pk≠g):=λg hg e=>by
      subst e;have:=Az aP.o.Bu hg;have h2:=aM.o;omega
     (have bP:IntKind.i64.wrap (ws.length:Int)=(ws.length:Int):=by have:=eF.o;simp[IntKind.wrap,IntKind.bits,IntKind.signed];omega);(have dG:IntKind.i64.wrap ((ws.length:Int)+1-1)=(ws.length:Int):=by rw[J7];exact bP);(have dN:wrap64 ((ws.length:Int)+1-1)=(ws.length:Int):=by have:=eF.o;unfold wrap64;omega);have eP:(0:Int)<=(ws.length:Int):=Gi _;(have dP:(ws.length:Int)<(ws.length:Int)+1:=by omega);go_wp2_with (at_builtin;refine D9 rfl (.tmp 42) (.tmp 43) 131 131 rfl 72 i0 _ 1 24 underlying131 hi fK fC fE rfl (by decide) (.slice a7 ws.length a2) ws.length vs (by rfl) bB.o _ 1 _ (by rfl) bW.o bY.o ?_;intro a8 aD w8 hA;have dQ:=A1 hA;clear hA;obtain⟨a8',c8',e8,r1,r2,r3,-⟩:=B9 dQ.o.AF;cases e8;obtain⟨g0,rfl⟩:=r3 (Nat.succ_pos _);clear r3;have e4:A6 w8 g0 ws.length (.slice none 0 0):=BF dQ.o.AF rfl (by rw[<-aG.o.B8,Hl (Au _)];simp));go_quiet (fail);have cT:=dQ.o.An (S:=λk=>(Value.slice a7 ws.length a2).ownBlock=some k) λ_ h=>h;have dA:=A1 ((b4.o.cg dQ.o cM.o.Ak).aS ((A3.I Aa w8).bb nq));have aF:=A1 ((bX.o.ak cT (λh=>dM.o _ h rfl)).ak ((A3.I Aa w8).bb nq) (λh=>h));have eA:=A1 ((cM.o.Av (S':=λk=>(Value.slice a7 ws.length a2).ownBlock=some k) cT λy hy bC=>absurd bC (UL.2 (aP.o.lo y hy))).tr ((A3.I Aa w8).bb nq));generalize w8.drewN nq=Y at dA aF eA ⊢;obtain⟨d,aI⟩:∃d:List Pu,d=[]:=⟨_,rfl⟩;obtain⟨la,aR⟩:∃la:Option Addr,la=none:=⟨_,rfl⟩;obtain⟨z,bJ⟩:∃z:Nat,z=0:=⟨_,rfl⟩;(have cY:Hid (DD Y w2.heap.size (AJ g0 (ws.length+1) aD) (vs++[.slice la d.length z]) (ws++[d])):=by subst aI aR bJ;exact dA.o);(have aB:Hid (Er len ws (decide (i=0)) (if i=0 then (0,0,0) else O.getD (i-1) (0,0,0)) (H,E,pc)=ws++[d++[(H,E,pc)]]):=by unfold Hid;rw[aL.o];subst aI;simp[GA]);have eG:Hid (∀x∈ws++[d],x.length<=i):=λx I=>by
      rcases AV.1 I with I|I
      ·exact dJ.o x I
      ·rw[Ij.1 I,aI];exact Cz _
     have bH:Hid (ws.length+1<=i+1):=Pe eF.o;(have cO:Hid (d.length<=i):=by rw[aI];exact Cz _);(have bV:Hid (¬(Value.slice la d.length z).ownBlock=some pk):=by rw[aR];simp[Hid,Value.ownBlock]);clear aI aR bJ e4 cT dA dQ b4 cM bX bB bW bY dM aL bP dG dN eP dP
    rotate_left
   all_goals
    have eC:Hid (A6 Y g0 ws.length (.slice la d.length z)):=by
     (have aS:vs.length=ws.length:=by have:=cY.o.B8;simpa using this);rw[<-aS];exact BF cY.o.Bu rfl (by rw[Hl (Au _)];simp)
    have oc:=eC.o;have eU:Hid (AY Y (.slice la d.length z) d):=by
     (have aS:vs.length=ws.length:=by have:=cY.o.B8;simpa using this);have h1:=cY.o.ls vs.length (by simp) (by simp;omega);(have e1:(vs++[Value.slice la d.length z])[vs.length]'(by simp)=.slice la d.length z:=by simp);(have e2:(ws++[d])[vs.length]'(by simp;omega)=d:=by rw[Gf (by omega)];simp[aS]);rw[e1,e2]at h1;exact h1
    obtain⟨la',lcap',fA,la1,eX,-⟩:=B9 eU.o;cases fA;unfold maxLen at eX;have f0:=aF.o.af.c0;have f1:=aF.o.af.c1;have f2:=aF.o.af.c2;have dK:A6 Y.drew g0 ws.length (.slice la d.length z):=oc;go_wp2;refine C3 (λw'=>A6 w' g0 ws.length (.slice la d.length z)/\A6 w' pk 0 (A0 H)/\A6 w' pk 1 (A0 E)/\A6 w' pk 2 (A0 pc)) 7
     (Bz [0,1,2,3,4,5,6] [5,6]) ⟨dK,f0,f1,f2⟩ ?_
    iterate 5 (refine Bj ?_;(try simp only[Ao]))
    refine Bt λK hK=>?_;go_simp;have ka:A3 Aa Y (Y.alloc (.cells #[A0 H,A0 E,A0 pc] 90)).drew:=((A3.I _ _).aj _).af;have bF:=aF.o.ak ka (λh=>h);have eL:Hid (AY (Y.alloc (.cells #[A0 H,A0 E,A0 pc] 90)).drew (.slice la d.length z) d):=Ay eU.o λg hg=>ka.Al g (Az eU.o hg) (λh=>h);have aW:=A1 (cY.o.aS ka);have b7:Hid (Src Tryz.prog 3 72 (AJ Y.heap.size 1 1) 1 #[A0 H,A0 E,A0 pc].toList (Y.alloc (.cells #[A0 H,A0 E,A0 pc] 90)).drew):=by
     have hb:(Y.alloc (.cells #[A0 H,A0 E,A0 pc] 90)).drew.heap[Y.heap.size]?=some (.cells #[A0 H,A0 E,A0 pc] 90 (0,0)):=BK Y _;exact Src.ct underlying72 hb 1 1 rfl (HS [(H,E,pc)])
    refine hK _ _ ⟨ka.ao oc,bF.c0,bF.c1,bF.c2⟩ (λhS=>?_);have eE:=A1 bF;have fF:=A1 ka;clear hK K hS bF ka oc f0 f1 f2 dK
    (try simp only[Ao])
    refine DY rfl (by rfl) (λK hK=>?_);refine HI (.tmp 78) (.tmp 80) 72 72 rfl 90 j0 _ 3 24 underlying72 hj fN fG e0 rfl (by decide) (.slice la d.length z) d.length (Ba d) (by rfl) eL.o _ 1 _ (by rfl) b7.o (eS.o _ cO.o) ?_;intro a8 aD w8 hA;have a1:=hA.An (S:=λk=>(Value.slice la d.length z).ownBlock=some k) λ_ h=>h;have b6:AY w8 (.slice a8 (d.length+1) aD) (d++[(H,E,pc)]):=by
     (have e:(d++[(H,E,pc)]).length=d.length+1:=by simp);unfold AY;rw[Iz,e];exact hA.AF
    have dE:∀g,(Value.slice a8 (d.length+1) aD).ownBlock=some g->(Value.slice la d.length z).ownBlock=some g\/(Y.alloc (.cells #[A0 H,A0 E,A0 pc] 90)).drew.heap.size<=g:=λg hg=>by
     rcases hA.Cy with h|h
     ·rw[h]at hg;exact .inl hg
     ·rw[h]at hg;cases hg;exact .inr (Au _)
    have dX:w2.heap.size<=(Y.alloc (.cells #[A0 H,A0 E,A0 pc] 90)).drew.heap.size:=AQ eA.o.Ak fF.o.Ak;(have b5:vs.length=ws.length:=by have:=cY.o.B8;simpa using this);have aE:=aW.o.eX a1 b6 dE dX;rw[b5]at aE;have aE:=A1 aE;(have aQ:Value.slice la d.length z∈vs++[Value.slice la d.length z]:=by simp);have bN:=eE.o.ak a1 bV.o;have eB:A6 w8 g0 ws.length (.slice la d.length z):=a1.bG (fF.o.ao eC.o) (λh=>aW.o.ne aQ h rfl);have hofz8:w8.frozen? (Ab g0 ws.length)=false:=by
     have hb:=a1.Al g0 (Az aW.o.Bu rfl) (λh=>aW.o.ne aQ h rfl);have:=G1 aW.o.Bu (g:=g0) rfl ws.length;unfold World.frozen? at this ⊢;rw[hb];exact this
    refine hK _ _ ⟨eB,bN.c0,bN.c1,bN.c2⟩ (λhS=>?_);have fX:Hid (A3 Aa w2 (w8.sC g0 ws.length (.slice a8 (d.length+1) aD))):=((eA.o.tr fF.o).Av (S':=λk=>(Value.slice la d.length z).ownBlock=some k) a1 λy hy bC=>by have:=aW.o.li _ aQ _ hy;omega).bp (p:=(Ab g0 ws.length)) (λh=>by have:=aW.o.lo g0 rfl;have h':g0<w2.heap.size:=h;omega) _;have a9:=A1 (aX.o _ aB.o);clear hK K hS hA a1 b6 dE dX bN b7 eL b5 aX aB
    (try simp only[Ao])
    refine Bo ?_;simp only[BO,BN];go_wp2;go_roundw
    case rel=>
     exact⟨i+1,ws++[d++[(H,E,pc)]],vs++[.slice a8 (d.length+1) aD],by go_num,aT,aE.o,fX.o,(by rw[AZ];exact bH.o),(λx I=>(AV.1 I).elim (λI=>My (eG.o x (AV.2 (.inl I)))) (λI=>by rw[Ij.1 I,AZ];exact Pe cO.o)),λ_=>⟨ws,_,rfl,by simp⟩,a9.o⟩
    case measure=>simp[intOf];omega
end
def Vt(len:Int)(ws:List (List Pu))(H:Bool)(I p:Pu):
 (Er len ws H I p).length<=ws.length+1/\Da (Er len ws H I p)<=Da ws+1/\∀x∈Er len ws H I p,∀y∈x,y=p\/∃z∈ws,y∈z:=by
 obtain⟨d,Y,h1,h2,h3⟩:∃d,(if H=true\/BA p.2.1 len≠BA I.2.1 len then ws++[[]] else ws)=d/\(d.length<=ws.length+1)/\Da d=Da ws/\(∀x∈d,∀y∈x,∃z∈ws,y∈z)/\True:=by
  refine⟨_,rfl,?_⟩;split
  ·refine⟨by simp,by simp[Da],λx E y h=>?_,trivial⟩;rcases AV.1 E with E|E
   ·exact⟨x,E,h⟩
   ·simp at E;subst E;simp at h
  ·exact⟨by omega,rfl,λx E y h=>⟨x,E,h⟩,trivial⟩
 have hl1:d=[]\/d.length<=ws.length+1:=.inr h1;have O:d.dropLast.length+1<=ws.length+1:=by
  rw[UU];have:d.length<=ws.length+1:=h1;omega
 have key:∀t:List Pu,t.length<=(d.getLastD []).length+1->Da (d.dropLast++[t])<=Da ws+1:=λt ht=>by
  rw[Lw,<-h2];rcases Lg d with rfl|⟨a,b,L⟩
  ·simp[Da]at ht ⊢;omega
  ·rw[V4]at L;subst L;(have e1:(a++[b]).getLastD []=b:=by rw[JT];simp);rw[e1]at ht;rw[List.dropLast_concat,Lw];simp[Da];omega
 have W:∀y∈d.getLastD [],∃z∈ws,y∈z:=λy h=>by
  rcases Lg d with rfl|⟨a,b,L⟩
  ·simp at h
  ·rw[V4]at L;subst L;(have e1:(a++[b]).getLastD []=b:=by rw[JT];simp);rw[e1]at h;exact h3.1 b (by simp) y h
 unfold Er;dsimp only
 rw[Y];split
 ·refine⟨by simpa using O,key _ (by simp),λx E y h=>?_⟩;rcases AV.1 E with E|E
  ·exact .inr (h3.1 x (V3 _ E) y h)
  ·rw[Ij]at E;subst E;rcases AV.1 h with h|h
   ·exact .inr (W y (V3 _ h))
   ·exact .inl (Ij.1 h)
 ·refine⟨by simpa using O,key _ (by simp),λx E y h=>?_⟩;rcases AV.1 E with E|E
  ·exact .inr (h3.1 x (V3 _ E) y h)
  ·rw[Ij]at E;subst E;rcases AV.1 h with h|h
   ·exact .inr (W y h)
   ·exact .inl (Ij.1 h)
def PQ(len:Int):∀(l:List Pu) (d:Bool) (E:Pu) (ws:List (List Pu)),
 (E9 len l d E ws).length<=ws.length+l.length/\Da (E9 len l d E ws)<=Da ws+l.length/\∀x∈E9 len l d E ws,∀y∈x,y∈l\/∃z∈ws,y∈z
 | [],_,_,ws=>⟨Au _,Au _,λx I y H=>.inr ⟨x,I,H⟩⟩
 | p::r,d,E,ws=>by
  obtain⟨s1,s2,s3⟩:=Vt len ws d E p;obtain⟨h1,h2,O⟩:=PQ len r false p (Er len ws d E p);unfold E9;refine⟨by simp;omega,by simp;omega,λx I y H=>?_⟩;rcases O x I y H with h|⟨z,L,h⟩
  ·exact .inl (Br _ h)
  ·rcases s3 z L y h with rfl|h
   ·exact .inl BD
   ·exact .inr h
def W5{l:List (List Pu)}{x:List Pu}(h:x∈l):x.length<=Da l:=by
 induction l with
 | nil=>cases h
 | cons a r ih=>
  rw[Nc];rcases BP.1 h with rfl|h
  ·omega
  ·have:=ih h;omega
def On(len:Int)(l:List Pu):(Bx len l).length<=l.length/\Da (Bx len l)<=l.length/\∀x∈Bx len l,(∀p∈x,p∈l)/\x.length<=l.length:=by
 obtain⟨d,E,H⟩:=PQ len (DZ (AA len) l) true (0,0,0) [];rw[Qt]at d E;have e:E9 len (DZ (AA len) l) true (0,0,0) []=Bx len l:=rfl;rw[e]at d E H;have d:(Bx len l).length<=l.length:=by simpa using d
 have E:Da (Bx len l)<=l.length:=by
  have e0:Da []=0:=rfl;omega
 refine⟨d,E,λx I=>⟨λp L=>?_,?_⟩⟩
 ·rcases H x I p L with h|⟨z,O,-⟩
  ·exact((Fb len).cr l).bF.Dy (Fb len) h
  ·cases O
 ·have:=W5 I;omega
section
variable {N ab b a c m B:Nat} {A:Ar} {P:PD} {FT:Nat->Prop}
def A2d(hS:Fj N)(hN:N<=134217728)(w:World)(h:AD w ab b A P FT)(a2:∀k,FT k->k<w.heap.size)(Ai:Int)(hw:1<=Ai/\Ai<=4611686018427387904)(aE:(P.puts A.j.Aj).1.length<=N)(aB:∀p∈(P.puts A.j.Aj).1,Bg p)(aZ:0<=A.A8/\A.A8+N<=9223372036854775807)(aQ:AW (A.j.A8+1))(aP:∀x∈A.ix.segs,AW x)(hF:Fit P a c m)(W:CM (a+N+2) (c+2*a+2*N+4) (m+29*N+12+8*A.ix.segs.length))(hm:A.j.Aj.length*m<=70368744177664)(hkl:A.ix.segs.length+N<=134217728)(hn:∀n∈A.ix.segs,CD n)(aO:∀n∈A.j.Aj,CD n)(a0:A.j.Aj.length<=1073741824)(hL:Lets B w)(aR:∀k,FT k->B<=k):
 Ah 44 #[A5 ab,A0 Ai] w (Am (A0 (A.aT P Ai).1) λw'=>Ap w FT w' (λw' E=>AD w' ab b (A.aT P Ai).2.1 (A.aT P Ai).2.2 E)):=by
 obtain⟨xb,jb,sv,ov,lv,jo,Ft,hv,hsub⟩:=id h;have c2:=hv.Ag.c2;have aW:=A1 (ND w hv.dk hv.lt hv.jn hF ⟨by have:=W.a;omega,by have:=W.c;omega,by have:=W.m;omega⟩ hm aO hL);have aJ:Hid (A.aT P Ai=if (P.puts A.j.Aj).2≠0 then ((P.puts A.j.Aj).2,A,P) else A.ay P A.ix.segs (Bx Ai (P.puts A.j.Aj).1)):=rfl;have aD:=A1 (On Ai (P.puts A.j.Aj).1);generalize hR:A.aT P Ai=R at aJ ⊢;generalize hPS:P.puts A.j.Aj=PS at aW aJ aD aE aB;obtain⟨ps,pe⟩:=PS;dsimp only at aW aJ aD aE aB;have H:=A1 h;have bB:=A1 hv;have L:=A1 a2;have aH:=A1 aB
 have a3:Hid (∀d kv fv,A3 Aa w d->Dw d kv A.ix.segs->(∀g,kv.oB g->w.heap.size<=g)->P8 d fv (Bx Ai ps) FT->pe=0->
  Ah 66 #[A5 ab,kv,fv] d (Am (A0 R.1) λw'=>Ap w FT w' (λw' E=>AD w' ab b R.2.1 R.2.2 E))):=λd kv fv Y O aF hf he=>by
  obtain⟨z1,z2,z3⟩:=aD.o;have aA:R=A.ay P A.ix.segs (Bx Ai ps):=by rw[aJ.o,Ac (by simp[he])]
  rw[aA]
  refine(QR d (H.o.aJ Y) (λk O=>Bm (L.o k O) Y.Ak) kv A.ix.segs O (λg z=>⟨λhx=>by have:=aF g z;have:=L.o g hx;omega,AQ hL.1 (aF g z)⟩) fv (Bx Ai ps) hf
   (λl W=>⟨λp hp=>aH.o p ((z3 l W).1 p hp),by have:=(z3 l W).2;omega⟩) ⟨aZ.1,by omega⟩ aQ aP hF ⟨by have:=W.a;omega,by have:=W.c;omega,by have:=W.m;omega⟩ (by omega) hn aO hn (by omega) a0 (hL.aS Y) aR).mono ?_
  rintro e w'⟨h1,h2⟩;exact⟨h1,Ap.a8 (Y.ad λ_ _ h=>h.elim) (λk O=>O.elim .inl λh=>.inr (aF k h)) h2⟩
 have aM:Hid (∀d,A3 Aa w d->pe≠0->R.1=pe/\Ap w FT d (λw' E=>AD w' ab b R.2.1 R.2.2 E)):=λd Y he=>by
  have aA:R=(pe,A,P):=by rw[aJ.o,Af he]
  subst aA;exact⟨rfl,Y.ad λ_ _ h=>h.elim,FT,H.o.aJ Y,λk O=>Bm (L.o k O) Y.Ak,λk O=>.inl O⟩
 have aS:Hid (∀d v,AY d v ps->_):=λd v hx=>Ti hS hN d v Ai ps aE hx (λp hp=>(aH.o p hp).2.1) hw;have a1:Hid (A.ix.segs.length*8<=140737488355328):=by unfold Hid;omega
 go_enter func44,ntmps44
 go_wp2_with (fail);refine aW.m ?_;rintro e w1⟨v1,rfl,aT,ho1,aG⟩;by_cases hp:pe=0
 case neg=>
  have a5:=A1 (aM.o w1 aG hp);have hpb:(pe !=0)=true:=by simpa using hp
  go_wp2;go_ret;exact⟨by rw[a5.o.1];rfl,a5.o.2⟩
 case pos=>
  subst hp;have V1:=bB.o.aJ aG;have d1:=V1.Ag.c1;have d4:=V1.ix.c4;have a8:=A1 (A1M w1 sv A.ix.segs V1.segs a1.o);have a4:=A1 aG;have aN:=A1 aT;go_wp2_with (fail);refine a8.m ?_;rintro e w2⟨v2,rfl,aY,aV,aI⟩;have aL:=A1 aY;have aU:=A1 aV;have aX:Hid (A3 Aa w w2):=a4.o.tr aI;have bA:=A1 (aS.o w2 v1 (Ay aN.o λg z=>aI.Al g (Az aN.o z) (λh=>h)));go_wp2_with (fail);refine bA.m ?_;rintro e w3⟨v3,vs,rfl,I,aK⟩;have a6:A3 Aa w w3:=aX.o.tr aK
  have a7:=A1 (a3.o w3 v2 v3 a6 (Ay aL.o λg z=>aK.Al g (Az aL.o z) (λh=>h)) (λg z=>AQ a4.o.Ak (aU.o g z))
   ⟨vs,I.B8,I.Bu,I.ls,λg z hx=>by have:=I.lo g z;have:=L.o g hx;have:=aX.o.Ak;omega,λx hx g z hf=>by have:=I.li x hx g z;have:=L.o g hf;have:=aX.o.Ak;omega⟩ (by simp))
  go_wp2_with (fail);refine a7.m ?_;rintro e w4⟨rfl,hI⟩;have a9:=A1 hI;go_wp2;go_ret;exact⟨rfl,a9.o⟩
end
def T3{n:Int}(h:isNum n=true):1<=n/\n<=4611686018427387904:=by
 unfold isNum at h;simpa using h
def LU{P:PD}{ix:Ix}(h:P.ba=some ix):(1<=ix.B7/\ix.B7<=4611686018427387904)/\∀n∈ix.segs,1<=n/\n<=4611686018427387904:=by
 unfold PD.ba indexOf at h;split at h
 ·cases h;exact⟨⟨by decide,by decide⟩,λn z=>by cases z⟩
 ·split at h
  ·cases h
  ·rename_i E;split at h
   ·cases h
   ·rename_i d;split at h
    ·cases h;(have d:(Ej (P.a1 AI).1).all isNum=true:=by simpa using d);rw[MM]at d;generalize hi:Ej (P.a1 AI).1=l at *;cases l with
     | nil=>simp at E
     | cons x r=>exact⟨T3 (d x BD),λn z=>T3 (d n (Br _ z))⟩
    ·cases h
def QA:∀(k:Nat) (l:Bs) (r:List Pu×Bs),Es k l=some r->r.1.length<=l.length
 | 0,l,r,h=>by cases h;exact Cz _
 | k+1,l,r,h=>by
  unfold Es at h;split at h
  ·cases h;exact Cz _
  ·rename_i hl;split at h
   ·cases hx:Es k (l.drop 17) with
    | none=>rw[hx]at h;cases h
    | some q=>
     rw[hx]at h;cases h;have:=QA k (l.drop 17) q hx;simp only[CG];rw[CP]at this;omega
   ·cases h
def WC{P:PD}{a c m:Nat}(d:Fit P a c m){n:Int}{l:List Pu}(h:P.Cq n=some l):l.length<=m:=by
 unfold PD.Cq It at h;split at h
 ·cases h
 ·cases hx:Es (P.a1 (AG n)).1.length (P.a1 (AG n)).1 with
  | none=>rw[hx]at h;cases h
  | some q=>
   rw[hx]at h;dsimp only at h;split at h
   ·cases h;exact AQ (QA _ _ q hx) (Rb d _)
   ·cases h
def Nl{P:PD}{a c m:Nat}(H:Fit P a c m):∀(E:List Int) (l:List (Int×List Pu)),P.segs E=some l->l.length=E.length/\∀x∈l,x.2.length<=m
 | [],l,h=>by cases h;exact⟨rfl,λx z=>by cases z⟩
 | n::r,l,h=>by
  unfold PD.segs at h;cases z:P.Cq n with
  | none=>rw[z]at h;cases h
  | some q=>
   rw[z]at h;dsimp only at h;cases hy:P.segs r with
   | none=>rw[hy]at h;cases h
   | some y=>
    rw[hy]at h;cases h;obtain⟨L,I⟩:=Nl H r y hy;refine⟨by simp[L],λx d=>?_⟩;rcases BP.1 d with rfl|d
    ·exact WC H z
    ·exact I x d
def FE(l:List Bs):List Int:=l.filterMap λnm=>if (Be nm).1=2 then some (Be nm).2 else none
def WH(a b:List Bs):FE (a++b)=FE a++FE b:=by simp[FE]
def DR(w:World)(ab b xb:Nat)(last:Int):Prop:=w.heap[ab]?=some (.cells #[.pointer (some ⟨b,0,none⟩),.pointer (some ⟨xb,0,none⟩),.pointer none,.int .i64 last,.slice none 0 0] 108 (0,0))
section
variable {w w':World} {ab b xb:Nat} {last:Int}
def DR.c0(h:DR w ab b xb last):A6 w ab 0 (A5 b):=by unfold DR at h;simp[A6,World.cell?,h]
def DR.c1(h:DR w ab b xb last):A6 w ab 1 (A5 xb):=by unfold DR at h;simp[A6,World.cell?,h]
def DR.c2(h:DR w ab b xb last):A6 w ab 2 (.pointer none):=by unfold DR at h;simp[A6,World.cell?,h]
def DR.c3(h:DR w ab b xb last):A6 w ab 3 (A0 last):=by unfold DR at h;simp[A6,World.cell?,h]
def DR.fz(h:DR w ab b xb last)(o:Nat):w.frozen? (Ab ab o)=false:=by unfold DR at h;simp[World.frozen?,h]
def DR.s3(h:DR w ab b xb last)(x:Int):DR (w.setCell (Ab ab 3) (A0 x)) ab b xb x:=CH h
def DR.s2(h:DR w ab b xb last)(d:Nat):CZ (w.setCell (Ab ab 2) (A5 d)) ab b xb d last (.slice none 0 0):=CH h
def DR.e9(h:DR w ab b xb last):ab<w.heap.size:=Bw h
def DR.ak{S:Nat->Prop}(h:DR w ab b xb last)(d:A3 S w w')(z:¬S ab):DR w' ab b xb last:=d.ak h z
end
def Gd.fs{S:Nat->Prop}{w w':World}{H b:Nat}{v:Value}{l:List (Int×List Pu)}(h:Gd w H b v l)(L:A3 S w w')(I:∀k,S k->k<H):Gd w' H b v l:=by
 obtain⟨E,h1,O,W,h4⟩:=h;refine⟨E,h1,Ay O λg d=>L.Al g (Az O d) λz=>by have:=I g z;have:=W g d;omega,W,λk q1 q2=>?_⟩;obtain⟨Y,s1,s2,s3,s4⟩:=h4 k q1 q2;exact⟨Y,s1.ak L (λz=>by have:=I _ z;omega),Ay s2 λg d=>L.Al g (Az s2 d) λz=>by have:=I g z;have:=s4 g d;omega,s3,s4⟩
section
variable {b a c m B:Nat} {P:PD} {Ft:Nat->Prop}
def Yl(h:P.ba=none):Ar.aU P=.error 7:=by unfold Ar.aU;rw[h]
def Yo{ix:Ix}(h:P.ba=some ix)(d:P.Ax.any (λnm=>decide ((Be nm).1=0))=true):Ar.aU P=.error 7:=by
 unfold Ar.aU;rw[h];dsimp only;rw[Af d]
def Yi{ix:Ix}(h:P.ba=some ix)(d:P.Ax.any (λnm=>decide ((Be nm).1=0))=false)(z:P.segs ix.segs=none):Ar.aU P=.error 7:=by
 unfold Ar.aU;rw[h];dsimp only;rw[Ac (by simp[d]),z]
def Yj{ix:Ix}{l:List (Int×List Pu)}(h:P.ba=some ix)(z:P.Ax.any (λnm=>decide ((Be nm).1=0))=false)(E:P.segs ix.segs=some l)(d:(P.puts (BM ix.B7 P.Ax)).2≠0):Ar.aU P=.error (P.puts (BM ix.B7 P.Ax)).2:=by
 unfold Ar.aU;rw[h];dsimp only;rw[Ac (by simp[z]),E];dsimp only;rw[Af d]
def Ar.AT(P:PD)(ix:Ix):Ar:=⟨ix,P.bS ix.B7,(FE P.Ax).getLastD 0,[]⟩
def Yk{ix:Ix}{l:List (Int×List Pu)}(h:P.ba=some ix)(z:P.Ax.any (λnm=>decide ((Be nm).1=0))=false)(E:P.segs ix.segs=some l)(d:(P.puts (BM ix.B7 P.Ax)).2=0):
 Ar.aU P=.ok ({Ar.AT P ix with AN:=(Ar.AT P ix).aY P},l.flatMap (·.2)++(P.puts (BM ix.B7 P.Ax)).1):=by
 unfold Ar.aU;rw[h];dsimp only;rw[Ac (by simp[z]),E];dsimp only;rw[Ac (by simp[d])];rfl
def A2c(w:World)(h:Bh w b P Ft)(Y:∀k,Ft k->k<w.heap.size)(hF:Fit P a c m)(hl:CM a c m)(dO:a*m<=70368744177664)(hL:Lets B w)(hE:HF w)(cO:∀nm∈P.Ax,nm.length<=281474976710656)(aM:∀ix,P.ba=some ix->ix.segs.length<=1073741824/\ix.segs.length*m<=4398046511104)(bS:∀bI,(P.puts (BM bI P.Ax)).1.length<=1099511627776):
 Ah 29 #[A5 b] w λe w'=>
  (∃n,Ar.aU P=.error n/\e=.returned (.tuple #[.pointer none,.slice none 0 0,A0 n])/\A3 Aa w w')\/
  (∃A ps ab v FT,Ar.aU P=.ok (A,ps)/\e=.returned (.tuple #[A5 ab,v,A0 0])/\AY w' v ps/\AD w' ab b A P FT/\(∀k,FT k->Ft k\/w.heap.size<=k)/\(∀k,FT k->k<w'.heap.size)/\(∀g,v.ownBlock=some g->¬FT g/\w.heap.size<=g)/\A3 Aa w w'):=by
 obtain⟨i0,hi,dM,eG,eA⟩:=E4 I4;have eV:=A1 (XF w h Y hF hl hL);have eZ:Hid (∀d,A3 Aa w d->Ah 48 #[A5 b] d λe w'=>∃v,e=.returned v/\Dk w' v P.Ax/\A3 Aa d w'/\(∀g,v.ownBlock=some g->d.heap.size<=g)):=λd hc=>Oa (B3.aI h Y hc) hF hl;have eX:Hid (∀d,A3 Aa w d->∀nm∈P.Ax,Ah 49 #[.string ⟨nm.toArray⟩] d (Am (.tuple #[A0 (Be nm).1,A0 (Be nm).2]) λw'=>A3 Aa d w')):=λd hc nm hm=>Sf d nm (cO nm hm) (hE.aS hc) (hL.aS hc);have bN:P.Ax.length<=a:=by rw[Kp];exact hF.A4
 have bT:=AQ bN hl.a;have eY:Hid (∀ix,P.ba=some ix->∀d ab xb sv,A3 Aa w d->A6 d ab 0 (A5 b)->A6 d ab 1 (A5 xb)->A6 d xb 4 sv->D2 d sv ix.segs->_):=
  λix W d ab xb sv hc h0 h1 h4 hs=>Qx (ab:=ab) (xb:=xb) (sv:=sv) d ix.segs h0 h1 h4 hs (B3.aI h Y hc) (λk z=>Bm (Y k z) hc.Ak) hF hl (λn hn=>by have:=(LU W).2 n hn;exact Hs (by omega) this.2) (aM ix W).1 (hL.aS hc)
 have e0:Hid (∀ix,P.ba=some ix->∀d,A3 Aa w d->_):=λix W d hc=>Zr d (B3.aI h Y hc) (λk z=>Bm (Y k z) hc.Ak) hF hl dO (LU W).1 (hL.aS hc) (hE.aS hc) cO;have e4:Hid (∀ix,P.ba=some ix->∀d ab xb jb sv lv,A3 Aa w d->Cj d ab b xb jb sv (.slice none 0 0) lv (.pointer none) (Ar.AT P ix) P Ft->_):=λix W d ab xb jb sv lv hc hv=>
  RD d hv hF hl (λn hn=>by have:=(LU W).2 n hn;exact Hs (by omega) this.2) (λn hn=>by obtain⟨_,h2,_⟩:=O7 hn;exact Hs (by omega) h2.2) (aM ix W).1 (AQ (LM _ _) bT) (hL.aS hc)
 have e3:Hid (∀ix,P.ba=some ix->∀l,P.segs ix.segs=some l->∀d dF v,Gd d dF b v l->(Ah 53 #[v] d λe w'=>∃v',e=.returned v'/\AY w' v' (l.flatMap (·.2))/\(∀g,v'.ownBlock=some g->d.heap.size<=g)/\A3 Aa d w')/\(l.flatMap (·.2)).length<=4398046511104):=λix W l hs d dF v hv=>by
  obtain⟨s1,s2⟩:=Nl hF ix.segs l hs;refine⟨RA d dF v l hv (by rw[s1];exact(aM ix W).1) s2 (by rw[s1];exact(aM ix W).2),AQ ?_ (aM ix W).2⟩;rw[<-s1];clear hs s1 hv
  induction l with
  | nil=>exact Cz _
  | cons x r ih=>
   have:=ih (λy hy=>s2 y (Br _ hy));have:=s2 x BD;rw[MH,AZ,CG,Mu];omega
 have eN:=A1 (Yl (P:=P));have eL:=A1 (λix=>Yo (P:=P) (ix:=ix));have eR:=A1 (λix=>Yi (P:=P) (ix:=ix));have eQ:=A1 (λix l=>Yj (P:=P) (ix:=ix) (l:=l));have eO:=A1 (λix l=>Yk (P:=P) (ix:=ix) (l:=l));have dX:=A1 bS;have eP:Hid (∀d,A3 Aa w d->Bh d b P Ft):=λd hc=>B3.aI h Y hc;have aU:=A1 Y;have FIX:=A1 (λ(ix:Ix) (W:P.ba=some ix)=>(LU W).1);generalize hO:Ar.aU P=O at eN eL eR eQ eO ⊢
 go_enter func29,ntmps29
 go_wp2_with (fail);refine eV.m ?_;rintro e d (⟨W,rfl,hc1⟩|⟨ix,xb,sv,W,rfl,hfx,hsv,hso,hxb,hc1⟩)
 ·have aT:=A1 (eN.o W);have dP:=A1 hc1;go_wp2;go_ret3;exact .inl ⟨7,aT.o,rfl,dP.o⟩
 have eB:DR (d.aC #[A5 b,A5 xb,.pointer none,A0 0,.slice none 0 0] 108) d.heap.size b xb 0:=BK d _;have eT:Hid (A3 Aa d (d.aC #[A5 b,A5 xb,.pointer none,A0 0,.slice none 0 0] 108)):=(A3.I _ d).aj _;have cQ:=A1 hc1;have eF:=A1 (eZ.o _ (cQ.o.tr eT.o));have aT:=A1 W;have bL:=A1 hfx;have bH:=A1 hsv;have bQ:=A1 hso;have aY:=A1 hxb;have dV:=A1 eB;have dA:Hid (d.heap.size<(d.aC #[A5 b,A5 xb,.pointer none,A0 0,.slice none 0 0] 108).heap.size):=by unfold Hid;simp
 go_wp2_with (fail);refine eF.m ?_;rintro e w2⟨v,rfl,hv,b5,dZ⟩;obtain⟨na,cN,rfl,nc1,dJ⟩:=(Dk.rd hv).Cf;unfold maxLen at dJ;have e5:=A1 (Dk.rd hv);have cC:=A1 <| eT.o.tr b5;have eS:=A1 (dV.o.ak b5 (λh=>h));have bZ:Hid (∀g,(Value.slice na P.Ax.length cN).ownBlock=some g->d.heap.size<g):=λg H=>Bm dA.o (dZ g H);generalize eD:d.heap.size=ab at eS bZ ⊢;have aK:=A1 eD;go_wp2;go_loopw [30] (λiv wr=>∃k:Nat,iv=A0 k/\k<=P.Ax.length/\Hid (DR wr ab b xb ((FE (P.Ax.take k)).getLastD 0)/\(P.Ax.take k).any (λnm=>decide ((Be nm).1=0))=false/\A3 Aa w wr/\A3 (One ab) w2 wr)) (λiv _=>P.Ax.length-(intOf iv).toNat)
 case atStart=>exact⟨0,rfl,by omega,eS.o,by simp,cQ.o.tr cC.o,A3.I _ _⟩
 case round=>
  obtain⟨k,rfl,z,hI⟩:=hrel;obtain⟨i1,i2,i3,i4⟩:=hI.o;by_cases aW:k<P.Ax.length
  ·obtain⟨g,o,rfl,d1⟩:=Gw.at e5.o k aW;have aO:=BV aW;have bM:=Dl aW;generalize a4:(P.Ax[k]'aW)=nm at d1 aO bM;have e1:=i4.bG d1 (λh=>by have h':g=ab:=h;have:=bZ.o g rfl;omega);have aR:=A1 (eX.o wr i3 nm aO);have bO:=Sg nm;have aI:Hid ((FE (P.Ax.take (k+1))).getLastD 0=if (Be nm).1=2 then (Be nm).2 else (FE (P.Ax.take k)).getLastD 0):=by
    unfold Hid;rw[bM,WH];by_cases hc:(Be nm).1=2
    ·(have e:FE [nm]=[(Be nm).2]:=by simp[FE,hc]);rw[Af hc,e,Tp]
    ·(have e:FE [nm]=[]:=by simp[FE,hc]);rw[Ac hc,e,Gh]
   (have aV:Hid (¬(Be nm).1=0->(P.Ax.take (k+1)).any (λnm=>decide ((Be nm).1=0))=false):=λhz=>by rw[bM,List.any_append,i2];simp[hz]);have aP:Hid ((Be nm).1=0->P.Ax.any (λnm=>decide ((Be nm).1=0))=true):=λhz=>Pp.2 ⟨nm,aO,by simp[hz]⟩;generalize hX:Be nm=X at aR aI aV aP bO;obtain⟨s,n⟩:=X;dsimp only at aR aI aV aP bO;obtain⟨r1,r2⟩:=bO;have b2:=A1 i1;have bF:=A1 i3;have dW:=A1 i4;(have dL:(k:Int)<(P.Ax.length:Int):=by omega);have hk0:=Ce k;by_cases bD:s=0
   ·subst bD;have aL:=A1 (eL.o ix aT.o (aP.o rfl));go_wp2_with (go_at_call 49;refine aR.m ?_;rintro e w6⟨rfl,aB⟩;have aG:=A1 aB);go_ret3;exact .inl ⟨7,aL.o,rfl,bF.o.tr aG.o⟩
   ·(have hsb0:(s==0)=false:=by simpa using bD);by_cases a6:s=2
    ·subst a6;(have bK:Hid ((FE (P.Ax.take (k+1))).getLastD 0=n):=by rw[aI.o,Af rfl];rfl);go_wp2_with (fail);refine aR.m ?_;rintro e w6⟨rfl,aB⟩;have eC:=b2.o.ak aB (λh=>h);have g63:=eC.c3;have f63:=eC.fz 3;have dG:=A1 (eC.s3 n);have aG:=A1 aB;go_wp2;go_roundw
     case rel=>
      have k7:A3 (One ab) wr (w6.sC ab 3 (A0 n)):=(aG.o.ad (S':=One ab) λ_ _ h=>h.elim).aq (b:=ab) rfl 3 _;exact⟨k+1,by go_num,by omega,by rw[bK.o];exact dG.o,aV.o (by decide),bF.o.Av k7 λx W Y=>by have e':x=ab:=W;have:=aK.o;have:=cQ.o.Ak;omega,dW.o.tr k7⟩
     case measure=>simp[intOf];omega
    ·(have hsb2:(s==2)=false:=by simpa using a6);(have bK:Hid ((FE (P.Ax.take (k+1))).getLastD 0=(FE (P.Ax.take k)).getLastD 0):=by rw[aI.o,Ac a6];rfl);have bY:=A1 (aV.o bD);go_wp2_with (go_at_call 49;refine aR.m ?_;rintro e w6⟨rfl,aB⟩;have aG:=A1 aB);go_roundw
     case rel=>exact⟨k+1,by go_num,by omega,by rw[bK.o];exact b2.o.ak aG.o (λh=>h),bY.o,bF.o.tr aG.o,dW.o.Av aG.o λ_ h _=>h.elim⟩
     case measure=>simp[intOf];omega
  ·(have cZ:k=P.Ax.length:=by omega);subst cZ;rw[C9]at i1 i2;(have dL:¬((P.Ax.length:Int)<(P.Ax.length:Int)):=by omega);have b3:A3 (One ab) d wr:=(cC.o.ad (S':=One ab) λ_ _ h=>h.elim).tr i4;(have b7:xb≠ab:=by have:=bL.o.lt;have:=aK.o;omega);have bX:=bL.o.ak b3 b7;(have cJ:D2 wr sv ix.segs:=Dp.An bH.o b3 λg H h=>by have h':g=ab:=h;have:=Dp.lt bH.o H;have:=aK.o;omega);have eI:=A1 (eY.o ix aT.o wr ab xb sv i3 i1.c0 i1.c1 bX.c4 cJ);have b2:=A1 i1;have eH:=A1 i2;have bF:=A1 i3;have dW:=A1 i4;have b0:=A1 b7;have cD:=A1 bX;have dU:=A1 cJ;have cP:Hid (ab<wr.heap.size):=b2.o.e9;go_wp2_with (fail);refine eI.m ?_;rintro e w3 (⟨hs,rfl,hc3⟩|⟨l,v3,hs,rfl,hv3,hc3⟩)
   ·have aL:=A1 (eR.o ix aT.o eH.o hs);have aH:=A1 hc3;go_wp2;go_ret3;exact .inl ⟨7,aL.o,rfl,bF.o.tr aH.o⟩
   have d3:=(cD.o.ak hc3 (λh=>h)).c3;have aN:=A1 hs;have cX:=A1 hv3;have aH:=A1 hc3;have dB:Hid (A3 Aa w w3):=bF.o.tr hc3;have eJ:=A1 (e0.o ix aT.o w3 dB.o);have eK:=A1 (eQ.o ix l aT.o eH.o aN.o);have dS:=A1 (eO.o ix l aT.o eH.o aN.o);have cH:=A1 (dX.o ix.B7);go_wp2_with (fail);refine eJ.m ?_;rintro e w4 (⟨hp,rfl,hc4⟩|⟨hp,jb,lv,v4,rfl,hj,hv4,hjf,hvo4,hc4⟩)
   ·have aL:=A1 (eK.o hp);have bA:=A1 hc4;generalize (P.puts (BM ix.B7 P.Ax)).2=E at hp aL ⊢;(have bS:(E !=0)=true:=by simpa using hp);go_wp2;go_ret3;exact .inl ⟨E,aL.o,rfl,dB.o.tr bA.o⟩
   have dK:=A1 (dS.o hp);have hpe:(P.puts (BM ix.B7 P.Ax)).2=0:=hp;have b4:=b2.o.ak (aH.o.tr hc4) (λh=>h);have g42:=b4.c2;have f42:=b4.fz 2;have eU:=A1 (b4.s2 jb);have aQ:A3 (One ab) w4 (w4.sC ab 2 (A5 jb)):=(A3.I (One ab) w4).aq (b:=ab) rfl 2 _;have cM:A3 (One ab) w3 (w4.sC ab 2 (A5 jb)):=(hc4.ad (S':=One ab) λ_ _ h=>h.elim).tr aQ;have bR:A3 (One ab) wr (w4.sC ab 2 (A5 jb)):=(aH.o.ad (S':=One ab) λ_ _ h=>h.elim).tr cM;(have bW:w.heap.size<=ab:=by have:=aK.o;have:=cQ.o.Ak;omega);(have cS:A3 Aa w (w4.sC ab 2 (A5 jb)):=bF.o.Av bR λx W Y=>by have e':x=ab:=W;omega);have hr3:wr.heap.size<=w3.heap.size:=aH.o.Ak;(have aD:∀g,sv.ownBlock=some g->g<ab:=λg H=>by have:=Dp.lt bH.o H;have:=aK.o;omega);(have bC:xb<ab:=by have:=bL.o.lt;have:=aK.o;omega);(have aA:∀k,Df jb lv (.pointer none) k->ab<k:=λk z=>by have:=hjf k z;have:=cP.o;omega);(have j5:Dv (w4.sC ab 2 (A5 jb)) jb b lv (.pointer none) (P.bS ix.B7):=hj.An aQ λk z h=>by have e':k=ab:=h;have:=aA k z;omega);have eM:Cj (w4.sC ab 2 (A5 jb)) ab b xb jb sv (.slice none 0 0) lv (.pointer none) (Ar.AT P ix) P Ft:=
    ⟨eU.o,cD.o.ak bR b0.o,Dp.An dU.o bR (λg H h=>by have e':g=ab:=h;have:=aD g H;omega),Dp.b9,j5,eP.o _ cS,λk z=>Bm (aU.o k z) cS.Ak,
     λk z hf=>by
      have h0:=aU.o k hf;rcases z with rfl|rfl|z|z|z
      ·omega
      ·have:=aY.o;omega
      ·have:=bQ.o k z;have:=aY.o;omega
      ·simp[Value.ownBlock]at z
      ·have:=aA k z;omega,
     λg H=>⟨by have:=aD g H;omega,by have:=bQ.o g H;omega,λh=>by have:=aA g h;have:=aD g H;omega⟩,
     λg H=>by simp[Value.ownBlock]at H,
     λk z=>⟨by have:=aA k z;omega,by have:=aA k z;omega⟩⟩
   have dE:=A1 (e4.o ix aT.o _ ab xb jb sv lv cS eM);have aS:=A1 eM;have cG:=A1 hv4;have a1:=A1 hvo4;have bA:=A1 hc4;have cY:=A1 cM;have dC:=A1 cS;have aE:=A1 bW;have bP:=A1 aD;have bE:=A1 bC;have a2:=A1 aA;obtain⟨bU,cB,rfl,v41,eE,-⟩:=B9 hv4;unfold maxLen at eE;go_wp2_with (fail);refine dE.m ?_;rintro e w6⟨v5,v6,rfl,b8,-,bV,-,aB⟩;obtain⟨L,I,rfl,v51,dT,-⟩:=B9 b8;unfold maxLen at dT;have b6:=eU.o.ak aB (λh=>h);have g64:=b6.c4;have f64:=b6.fz 4;have dG:=A1 (b6.s4 (Value.slice L ((Ar.AT P ix).aY P).length I));have aQ:A3 (One ab) w6 (w6.sC ab 4 (Value.slice L ((Ar.AT P ix).aY P).length I)):=(A3.I (One ab) w6).aq (b:=ab) rfl 4 _;have aJ:A3 (One ab) (w4.sC ab 2 (A5 jb)) (w6.sC ab 4 (Value.slice L ((Ar.AT P ix).aY P).length I)):=(aB.ad (S':=One ab) λ_ _ h=>h.elim).tr aQ;(have bJ:A3 Aa w (w6.sC ab 4 (Value.slice L ((Ar.AT P ix).aY P).length I)):=dC.o.Av aJ λx W Y=>by have e':x=ab:=W;have:=aE.o;omega);(have h45:w4.heap.size<=(w4.sC ab 2 (A5 jb)).heap.size:=by simp);(have aF:∀g,(Value.slice L ((Ar.AT P ix).aY P).length I).ownBlock=some g->w4.heap.size<=g:=λg H=>by have:=bV g H;omega);(have h34:ab<w4.heap.size:=by have:=cP.o;have:=aH.o.Ak;have:=bA.o.Ak;omega);have e2:Cj (w6.sC ab 4 (Value.slice L ((Ar.AT P ix).aY P).length I)) ab b xb jb sv (Value.slice L ((Ar.AT P ix).aY P).length I) lv (.pointer none) {Ar.AT P ix with AN:=(Ar.AT P ix).aY P} P Ft:=
    ⟨dG.o,aS.o.ix.ak aJ b0.o,Dp.An aS.o.segs aJ (λg H h=>by have e':g=ab:=h;have:=bP.o g H;omega),
     Dp.An (Dk.rd b8) aQ (λg H h=>by have e':g=ab:=h;have:=aF g H;omega),
     aS.o.jn.An aJ (λk z h=>by have e':k=ab:=h;have:=a2.o k z;omega),eP.o _ bJ,λk z=>Bm (aU.o k z) bJ.Ak,
     λk z hf=>by
      rcases z with h|h|h|h|h
      ·exact aS.o.Db k (.inl h) hf
      ·exact aS.o.Db k (.inr (.inl h)) hf
      ·exact aS.o.Db k (.inr (.inr (.inl h))) hf
      ·have:=aF k h;have:=aU.o k hf;have:=aE.o;omega
      ·exact aS.o.Db k (.inr (.inr (.inr (.inr h)))) hf,
     aS.o.F9,
     λg H=>⟨by have:=aF g H;omega,by have:=aF g H;have:=bE.o;omega,λh=>by have:=bV g H;have:=aS.o.jn.lt h;omega⟩,
     aS.o.Fs⟩
   have cE:Hid (∀k,F7 ab xb jb sv (Value.slice L ((Ar.AT P ix).aY P).length I) lv (.pointer none) k->w.heap.size<=k):=λk z=>by
    rcases z with rfl|rfl|h|h|h
    ·exact aE.o
    ·exact aY.o
    ·have:=bQ.o k h;have:=aY.o;omega
    ·have:=aF k h;have:=aE.o;omega
    ·have:=a2.o k h;have:=aE.o;omega
   have dN:A3 (One ab) w3 (w6.sC ab 4 (Value.slice L ((Ar.AT P ix).aY P).length I)):=cY.o.tr aJ;have a7:=e3.o ix aT.o l aN.o (w6.sC ab 4 (Value.slice L ((Ar.AT P ix).aY P).length I)) wr.heap.size v3 (cX.o.fs dN λk z=>by have e':k=ab:=z;have:=cP.o;omega);have a3:=dK.o;generalize hPL:l.flatMap (·.2)=PL at a7 a3;have cT:=A1 a3;have dD:=A1 a7.1;have dQ:=A1 a7.2;have b1:=A1 e2;have bG:=A1 bJ;have aZ:Hid (AY (w6.sC ab 4 (Value.slice L ((Ar.AT P ix).aY P).length I)) (.slice bU (P.puts (BM ix.B7 P.Ax)).1.length cB) (P.puts (BM ix.B7 P.Ax)).1):=Ay cG.o λg H=>by
    have h1:=a1.o g H;have hlt4:=Az cG.o H;(have a4:g≠ab:=by have:=cP.o;have:=aH.o.Ak;omega);have e1:=aJ.Al g (by omega) (λh=>a4 h);rw[e1];exact GN _ _ _ _ (λe=>a4 e)
   (have HO47:Hid (∀g,(Value.slice bU (P.puts (BM ix.B7 P.Ax)).1.length cB).ownBlock=some g->w.heap.size<=g):=λg H=>by have:=a1.o g H;have:=dB.o.Ak;omega);go_wp2_with (fail);refine dD.m ?_;rintro e w8⟨v8,rfl,cF,cU,b9⟩;obtain⟨bB,a8,rfl,v81,dR,-⟩:=B9 cF;unfold maxLen at dR;have dY:=A1 cF;have a5:=A1 cU;have cI:=A1 b9;have cL:=A1 (Src.bN underlying72 (Ay aZ.o λg H=>b9.Al g (Az aZ.o H) (λh=>h)) (HS (P.puts (BM ix.B7 P.Ax)).1));(have cV:Hid ((PL.length+(P.puts (BM ix.B7 P.Ax)).1.length)*24<=140737488355328):=by have:=dQ.o;have:=cH.o;unfold Hid;omega);go_wp2_with (at_builtin;refine D9 rfl (.tmp 84) (.tmp 85) 72 72 rfl 90 i0 _ 3 24 underlying72 hi dM eG eA rfl (by decide) (.slice bB PL.length a8) PL.length (Ba PL) (by rfl) dY.o _ (P.puts (BM ix.B7 P.Ax)).1.length _ (by rfl) cL.o cV.o ?_;intro a9 cA w9 hA;have eW:=A1 hA);go_ret3;have hA:=eW.o;have dH:=hA.An (S:=λk=>(Value.slice bB PL.length a8).ownBlock=some k) λ_ h=>h;have aX:A3 (λk=>(Value.slice bB PL.length a8).ownBlock=some k) (w6.sC ab 4 (Value.slice L ((Ar.AT P ix).aY P).length I)) w9:=(cI.o.ad λ_ _ h=>h.elim).tr dH;have dI:=cI.o.Ak;have a0:∀g,(Value.slice a9 (PL.length+(P.puts (BM ix.B7 P.Ax)).1.length) cA).ownBlock=some g->(w6.sC ab 4 (Value.slice L ((Ar.AT P ix).aY P).length I)).heap.size<=g:=λg H=>by
    rcases hA.Cy with h|h
    ·rw[h]at H;exact a5.o g H
    ·rw[h]at H;cases H;exact dI
   refine .inr ⟨_,_,ab,_,λk=>Ft k\/F7 ab xb jb sv (Value.slice L ((Ar.AT P ix).aY P).length I) lv (.pointer none) k,cT.o,rfl,?_,⟨xb,jb,sv,(Value.slice L ((Ar.AT P ix).aY P).length I),lv,.pointer none,Ft,b1.o.aP (λk z=>aX.Al k (b1.o.bX z) λh=>by have:=a5.o k h;have:=b1.o.bX z;omega) aX.Ak,λ_ h=>h⟩,λk z=>?_,λk z=>Bm (b1.o.bX z) aX.Ak,λg H=>⟨λhf=>?_,?_⟩,?_⟩
   ·(have e:(PL++(P.puts (BM ix.B7 P.Ax)).1).length=PL.length+(P.puts (BM ix.B7 P.Ax)).1.length:=by simp);unfold AY;rw[Iz,e];exact hA.AF
   ·rcases z with z|z
    ·exact .inl z
    ·exact .inr (cE.o k z)
   ·have:=a0 g H;have:=b1.o.bX hf;omega
   ·have:=a0 g H;have:=bG.o.Ak;omega
   ·exact bG.o.Av aX λx W Y=>by have:=a5.o x W;have:=bG.o.Ak;omega
end
section
def Wu(w:World)(H:Nat)(oldest:Int)(p:Pu)(I:A6 w H 0 (A0 oldest)):
 Ah 61 #[Dr p,A5 H] w (Am (.bool (decide (oldest<=p.2.1))) λw'=>A3 Aa w w'):=by
 obtain⟨z,E,h⟩:=p;unfold Dr;dsimp only
 have d:C5 (w.aC #[A0 z,A0 E,A0 h] 90) w.heap.size z E h:=BK w _;have k:A3 Aa w (w.aC #[A0 z,A0 E,A0 h] 90):=(A3.I _ w).aj _;have c1:=d.c1;have hw2:=k.ao I;have K:=A1 k
 go_enter func61,ntmps61
 go_wp2;go_ret;exact⟨rfl,K.o⟩
def ZU(w:World)(v:Value)(l:List Pu)(h:AY w v l)(ob:Nat)(oldest:Int)(hw:A6 w ob 0 (A0 oldest)):
 Ah 107 #[v,.func (Fn.func 61) #[] #[A5 ob]] w λe w'=>∃i:Int,e=.returned (A0 i)/\decide (0<=i)=l.any (λp=>decide (oldest<=p.2.1))/\A3 Aa w w':=by
 obtain⟨va,vcap,rfl,v1,v2,v3,-⟩:=B9 h;unfold maxLen at v2;have H:=A1 h;have aL:=A1 hw;have aK:=A1 v3
 go_enter func107,ntmps107
 go_wp2;go_loopw [8] (λiv wr=>∃k:Nat,iv=A0 k/\k<=l.length/\Hid ((l.take k).any (λp=>decide (oldest<=p.2.1))=false/\A3 Aa w wr)) (λiv _=>l.length-(intOf iv).toNat)
 case atStart=>exact⟨0,rfl,by omega,by simp,A3.I _ _⟩
 case round=>
  obtain⟨k,rfl,hk,hI⟩:=hrel;obtain⟨i1,L⟩:=hI.o;by_cases z:k<l.length
  ·obtain⟨g,rfl⟩:=aK.o (by omega);obtain⟨q1,q2,q3⟩:=H4 l k z;have W:l.take (k+1)=l.take k++[l[k]'z]:=Dl z;have E:=BV z;generalize hp:(l[k]'z)=p at q1 q2 q3 W E;have e1:=L.ao (BF H.o rfl q1);have e2:=L.ao (BF H.o rfl q2);have e3:=L.ao (BF H.o rfl q3);have Y:=A1 (Wu wr ob oldest p (L.ao aL.o));have aA:=A1 L;(have aI:Hid (decide (oldest<=p.2.1)=false->(l.take (k+1)).any (λp=>decide (oldest<=p.2.1))=false):=λh=>by rw[W,List.any_append,i1];simp at h ⊢;exact h);have aH:Hid (decide (oldest<=p.2.1)=true->l.any (λp=>decide (oldest<=p.2.1))=true):=λh=>Pp.2 ⟨p,E,h⟩;generalize hd:decide (oldest<=p.2.1)=d at Y aI aH;obtain⟨p1,p2,p3⟩:=p;unfold Dr at Y;dsimp only at e1 e2 e3 Y;(have aB:(k:Int)<(l.length:Int):=by omega);have aE:=Ce k;cases d with
   | true=>
    have aF:=A1 (aH.o rfl);go_wp2_with (fail);refine Y.m ?_;rintro e w6⟨rfl,O⟩;have I:=A1 O;go_wp2;go_ret;exact⟨_,rfl,by rw[aF.o];exact Cv aE,aA.o.tr I.o⟩
   | false=>
    have aG:=A1 (aI.o rfl);go_wp2_with (fail);refine Y.m ?_;rintro e w6⟨rfl,O⟩;have I:=A1 O;go_wp2;go_roundw
    case rel=>exact⟨k+1,by go_num,by omega,aG.o,aA.o.tr I.o⟩
    case measure=>simp[intOf];omega
  ·(have aD:k=l.length:=by omega);subst aD;rw[C9]at i1;have aJ:=A1 i1;have aA:=A1 L;(have aB:¬((l.length:Int)<(l.length:Int)):=by omega);clear hI i1 L;go_wp2;go_ret;exact⟨_,rfl,by rw[aJ.o];rfl,aA.o⟩
def A1o(w:World)(v:Value)(l:List Pu)(h:AY w v l)(z:Nat)(oldest:Int)(L:A6 w z 0 (A0 oldest)):
 Ah 60 #[v,.func (Fn.func 61) #[] #[A5 z]] w (Am (.bool (l.any (λp=>decide (oldest<=p.2.1)))) λw'=>A3 Aa w w'):=by
 have E:=A1 (ZU w v l h z oldest L);obtain⟨va,vcap,rfl,v1,v2,-⟩:=B9 h;generalize hd:l.any (λp=>decide (oldest<=p.2.1))=d at E ⊢
 go_enter func60,ntmps60
 go_wp2_with (fail);refine E.m ?_;rintro e w1⟨i,rfl,O,W⟩;have H:=A1 O;have I:=A1 W;go_wp2;go_ret;exact⟨by rw[<-H.o];rfl,I.o⟩
end
section
def A0G(w:World)(x y:Value)(d z:List Pu)(h1:AY w x d)(h2:AY w y z):
 Ah 64 #[x,y] w (Am (.bool (decide (d=z))) λw'=>A3 Aa w w'):=by
 obtain⟨va,vcap,rfl,v1,v2,v3,-⟩:=B9 h1;obtain⟨ua,ucap,rfl,u1,u2,u3,-⟩:=B9 h2;unfold maxLen at v2 u2;have aK:=A1 h1;have aO:=A1 h2;have aS:=A1 v3;have aV:=A1 u3;by_cases hl:d.length=z.length
 case neg=>
  have aJ:¬d=z:=λe=>hl (by rw[e]);rw[D4 aJ];have aQ:((d.length:Int)!=(z.length:Int))=true:=by simp;omega
  go_enter func64,ntmps64
  go_wp2;go_ret;exact⟨rfl,A3.I _ _⟩
 case pos=>
 have aI:=A1 hl;have aQ:((d.length:Int)!=(z.length:Int))=false:=by simp;omega
 go_enter func64,ntmps64
 go_wp2;go_loopw [13] (λiv wr=>∃k:Nat,iv=A0 k/\k<=d.length/\Hid (d.take k=z.take k/\A3 Aa w wr)) (λiv _=>d.length-(intOf iv).toNat)
 case atStart=>exact⟨0,rfl,by omega,by simp,A3.I _ _⟩
 case round=>
  obtain⟨k,rfl,hk,hI⟩:=hrel;obtain⟨i1,L⟩:=hI.o;by_cases I:k<d.length
  ·(have E:k<z.length:=by have:=aI.o;omega);obtain⟨g,rfl⟩:=aS.o (by omega);obtain⟨g',rfl⟩:=aV.o (by omega);obtain⟨p1,p2,p3⟩:=H4 d k I;obtain⟨q1,q2,q3⟩:=H4 z k E;have aD:d.take (k+1)=d.take k++[d[k]'I]:=Dl I;have aE:z.take (k+1)=z.take k++[z[k]'E]:=Dl E;(have O:d=z->(d[k]'I)=(z[k]'E):=λe=>by subst e;rfl);obtain⟨p,hp⟩:∃p,(d[k]'I)=p:=⟨_,rfl⟩;obtain⟨q,hq⟩:∃q,(z[k]'E)=q:=⟨_,rfl⟩;rw[hp]at p1 p2 p3 aD O;rw[hq]at q1 q2 q3 aE O;(have aP:Hid (p=q->d.take (k+1)=z.take (k+1)):=λe=>by rw[aD,aE,i1,e]);have aB:Hid (¬p=q->decide (d=z)=false):=λh=>D4 λe=>h (O e);have aR:Hid (∀W,A3 Aa wr W->A6 W g (k*3) (A0 p.1)/\A6 W g (k*3+1) (A0 p.2.1)/\A6 W g (k*3+2) (A0 p.2.2)/\A6 W g' (k*3) (A0 q.1)/\A6 W g' (k*3+1) (A0 q.2.1)/\A6 W g' (k*3+2) (A0 q.2.2)):=λW hx=>
    ⟨hx.ao (L.ao (BF aK.o rfl p1)),hx.ao (L.ao (BF aK.o rfl p2)),hx.ao (L.ao (BF aK.o rfl p3)),hx.ao (L.ao (BF aO.o rfl q1)),hx.ao (L.ao (BF aO.o rfl q2)),hx.ao (L.ao (BF aO.o rfl q3))⟩
   have aF:=A1 L;obtain⟨pa,pb,pc⟩:=p;obtain⟨Y,qb,qc⟩:=q;dsimp only at aR;(have aL:(k:Int)<(d.length:Int):=by omega);(have hkj:(k:Int)<(z.length:Int):=by omega);have hk0:=Ce k;have aT:=aR.o wr.drew (A3.I _ wr).af;clear hI i1 L p1 p2 p3 q1 q2 q3 aD aE O hp hq E;go_wp2;refine C3 (λw'=>A6 w' g (k*3) (A0 pa)/\A6 w' g (k*3+1) (A0 pb)/\A6 w' g (k*3+2) (A0 pc)/\A6 w' g' (k*3) (A0 Y)/\A6 w' g' (k*3+1) (A0 qb)/\A6 w' g' (k*3+2) (A0 qc)) 8
    (Bz [0,1,2,3,4,5,6,7] []) aT ?_
   iterate 8 (refine Bj ?_;(try simp only[Ao]))
   refine Bo ?_;simp only[BO,BN];by_cases H:(pa,pb,pc)=(Y,qb,qc)
   ·have aN:=A1 (aP.o H);(obtain⟨rfl,rfl,rfl⟩:pa=Y/\pb=qb/\pc=qc:=by simpa using H);clear H aP aB;go_wp2;go_roundw
    case rel=>exact⟨k+1,by go_num,by omega,aN.o,aF.o.af⟩
    case measure=>simp[intOf];omega
   ·have aA:=A1 (aB.o H);have aM:¬pa=Y\/(pa=Y/\¬pb=qb)\/(pa=Y/\pb=qb/\¬pc=qc):=by
     by_cases ha:pa=Y
     ·by_cases hb:pb=qb
      ·exact .inr (.inr ⟨ha,hb,λhc=>H (by rw[ha,hb,hc])⟩)
      ·exact .inr (.inl ⟨ha,hb⟩)
     ·exact .inl ha
    clear H aP aB;rcases aM with ha|⟨rfl,hb⟩|⟨rfl,rfl,hc⟩
    ·(have aH:(pa==Y)=false:=by simpa using ha);go_wp2;go_ret;exact⟨by rw[aA.o];rfl,aF.o.af⟩
    ·(have aH:(pb==qb)=false:=by simpa using hb);go_wp2;go_ret;exact⟨by rw[aA.o];rfl,aF.o.af⟩
    ·(have aH:(pc==qc)=false:=by simpa using hc);go_wp2;go_ret;exact⟨by rw[aA.o];rfl,aF.o.af⟩
  ·(have aG:k=d.length:=by omega);have he:d=z:=by
    have h1:=i1;rw[aG,C9]at h1;rw[aI.o,C9]at h1;exact h1
   have aF:=A1 L;(have aL:¬((k:Int)<(d.length:Int)):=by omega);have aU:=A1 he;clear hI i1 L he aG;go_wp2;go_ret;exact⟨by rw[Cv aU.o];rfl,aF.o⟩
def WL{aA b:Nat}(w:World)(L O:Nat)(x:Int×List Pu)(h:IX w aA b L x)(pv:Value)(l:List Pu)(hp:A6 w O 0 pv)(hl:AY w pv l):
 Ah 63 #[A5 L,A5 O] w (Am (.bool (decide (x.2=l))) λw'=>A3 Aa w w'):=by
 obtain⟨sv,s1,s2,-,-⟩:=h;obtain⟨sa,E,rfl,c1,c2,-⟩:=B9 s2;obtain⟨pa,z,rfl,d1,d2,-⟩:=B9 hl;have f4:A6 w.drew L 4 (.slice sa x.2.length E):=s1.c4;have I:A6 w.drew O 0 (.slice pa l.length z):=hp;have Y:=A1 (A0G w.drew _ _ x.2 l (Ay s2 λ_ _=>rfl) (Ay hl λ_ _=>rfl));generalize hd:decide (x.2=l)=d at Y ⊢;generalize hn1:x.2.length=n1 at Y f4
 go_enter func63,ntmps63
 go_wp2;refine C3 (λw'=>A6 w' L 4 (.slice sa n1 E)/\A6 w' O 0 (.slice pa l.length z)) 6
  (Bz [0,1,2,3,4,5] [5]) ⟨f4,I⟩ ?_
 iterate 5 (refine Bj ?_;(try simp only[Ao]))
 refine Bt λK hK=>?_;go_simp;refine Y.m ?_;rintro e w6⟨rfl,H⟩;refine hK _ _ ⟨H.ao f4,H.ao I⟩ (λhS=>?_);have W:Hid (A3 Aa w w6):=((A3.I _ w).af).tr H
 (try simp only[Ao])
 refine Bo ?_;simp only[BO,BN];go_wp2;go_ret;exact⟨rfl,W.o⟩
def ZV{aP b:Nat}(w:World)(v:Value)(segs:List (Int×List Pu))(h:Gd w aP b v segs)(pb:Nat)(pv:Value)(l:List Pu)(hp:A6 w pb 0 pv)(hl:AY w pv l):
 Ah 62 #[v,.func (Fn.func 63) #[] #[A5 pb]] w λe w'=>
  ((e=.returned (A0 (-1))/\segs.find? (λs=>decide (s.2=l))=none)\/∃(k:Nat) (hk:k<segs.length),e=.returned (A0 k)/\segs.find? (λs=>decide (s.2=l))=some (segs[k]'hk))/\A3 Aa w w':=by
 obtain⟨W,j1,j2,j3,j4⟩:=h;obtain⟨va,vcap,rfl,v1,v2,v3,-⟩:=B9 j2;unfold maxLen at v2;have aQ:=A1 j2;have aO:=A1 j4;have G:=A1 v3;have aN:=A1 hp;have aL:=A1 hl
 go_enter func62,ntmps62
 go_wp2;go_loopw [8] (λiv wr=>∃k:Nat,iv=A0 k/\k<=segs.length/\Hid ((segs.take k).find? (λs=>decide (s.2=l))=none/\A3 Aa w wr)) (λiv _=>segs.length-(intOf iv).toNat)
 case atStart=>exact⟨0,rfl,by omega,by simp,A3.I _ _⟩
 case round=>
  obtain⟨k,rfl,hk,hI⟩:=hrel;obtain⟨Y,I⟩:=hI.o;by_cases z:k<segs.length
  ·(have E:k<W.length:=by omega);obtain⟨g,rfl⟩:=G.o (by omega);have hc:A6 w g k (A5 (W[k]'E)):=BF aQ.o rfl (by simp[Gl,E]);have O:=aO.o k E z;have aB:segs=segs.take k++(segs[k]'z):: segs.drop (k+1):=by
    conv=>lhs;rw[<-DO k segs,Fm z]
   have aA:segs.take (k+1)=segs.take k++[segs[k]'z]:=Dl z;generalize aJ:(W[k]'E)=gb at hc O;have e1:=I.ao hc;have SI:=A1 (WL wr gb pb (segs[k]'z) (O.aJ I) pv l (I.ao aN.o) (Ay aL.o λg hg=>I.Al g (Az aL.o hg) (λh=>h)));have aD:=A1 I;have aK:Hid (decide ((segs[k]'z).2=l)=false->(segs.take (k+1)).find? (λs=>decide (s.2=l))=none):=λh=>by
    rw[aA,A3a,Y,List.find?_cons_of_neg (by rw[h];simp)];rfl
   have aG:Hid (decide ((segs[k]'z).2=l)=true->segs.find? (λs=>decide (s.2=l))=some (segs[k]'z)):=λh=>by
    have e:(segs.take k++(segs[k]'z):: segs.drop (k+1)).find? (λs=>decide (s.2=l))=some (segs[k]'z):=by
     rw[A3a,Y,List.find?_cons_of_pos (by exact h)];rfl
    rwa [<-aB]at e
   generalize hd:decide ((segs[k]'z).2=l)=d at SI aK aG;(have aE:(k:Int)<(segs.length:Int):=by omega);have hk0:=Ce k;clear hI Y I hc O aB aA aJ hd;cases d with
   | true=>
    have aH:=A1 (aG.o rfl);clear aK aG;go_wp2_with (fail);refine SI.m ?_;rintro e w6⟨rfl,H⟩;have L:=A1 H;go_wp2;go_ret;exact⟨.inr ⟨k,z,rfl,aH.o⟩,aD.o.tr L.o⟩
   | false=>
    have aI:=A1 (aK.o rfl);go_wp2_with (fail);refine SI.m ?_;rintro e w6⟨rfl,H⟩;have L:=A1 H;clear H SI;go_wp2;go_roundw
    case rel=>exact⟨k+1,by go_num,by omega,aI.o,aD.o.tr L.o⟩
    case measure=>simp[intOf];omega
  ·(have aF:k=segs.length:=by omega);subst aF;rw[C9]at Y;have aM:=A1 Y;have aD:=A1 I;(have aE:¬((segs.length:Int)<(segs.length:Int)):=by omega);clear hI Y I;go_wp2;go_ret;exact⟨.inl ⟨rfl,by simpa using aM.o⟩,aD.o⟩
end
end
end Go.Proofs.YtodcnkbblippnabGreatDoor
