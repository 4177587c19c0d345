/- Part 42 of a proof: walks of the program. -/
import Derived.Test.YtodcnkbblippnabGreatDoorPart40
namespace Go.Proofs.YtodcnkbblippnabGreatDoor
set_option maxRecDepth 100000
set_option maxHeartbeats 32000000
set_option linter.defProp false
open Go.Proofs.Tryz
section
open Go.RowKit
attribute [local go_sem ↓] Cz
def Tc(segs:List (Int×List Pu))(oldest:Int)(l:List Pu)(r:List (List Pu)):C3 segs oldest (l::r)=if l.any (λp=>decide (oldest<=p.2.1))=false then C3 segs oldest r else
 match segs.find? λs=>decide (s.2=l) with
 | none=>((C3 segs oldest r).1,l::(C3 segs oldest r).2)
 | some s=>(s.1::(C3 segs oldest r).1,(C3 segs oldest r).2):=rfl
def Tb(segs:List (Int×List Pu))(oldest:Int):∀ws:List (List Pu),(C3 segs oldest ws).1.length+(C3 segs oldest ws).2.length<=ws.length/\(∀n∈(C3 segs oldest ws).1,∃s∈segs,s.1=n)/\(∀l∈(C3 segs oldest ws).2,l∈ws)/\Df (C3 segs oldest ws).2<=Df ws
 | []=>⟨Aq _,(λn z=>absurd z A2S),(λl H=>H),Aq _⟩
 | l::r=>by
  have⟨h1,h2,h3,h4⟩:=Tb segs oldest r;rw[Tc,Ni];split
  ·exact⟨by simp;omega,h2,λx h=>Bn _ (h3 x h),by omega⟩
  ·split
   ·refine⟨by simp;omega,h2,λx h=>?_,by rw[Ni];omega⟩;rcases BF.1 h with rfl|h
    ·exact Bp
    ·exact Bn _ (h3 x h)
   ·rename_i s I;refine⟨by simp;omega,λn z=>?_,λx h=>Bn _ (h3 x h),by dsimp only;omega⟩;rcases BF.1 z with rfl|z
    ·exact⟨s,A2U I,rfl⟩
    ·exact h2 n z
def Np{P:PD}:∀(I:List Int) (l:List (Int×List Pu)),P.segs I=some l->∀x∈l,x.1∈I
 | [],l,h=>by cases h;exact λx H=>by cases H
 | n::r,l,h=>by
  unfold PD.segs at h;cases H:P.BT n with
  | none=>rw[H]at h;cases h
  | some q=>
   rw[H]at h;dsimp only at h;cases hy:P.segs r with
   | none=>rw[hy]at h;cases h
   | some y=>
    rw[hy]at h;cases h;intro x z;rcases BF.1 z with rfl|z
    ·exact Bp
    ·exact Bn _ (Np r y hy x z)
section
variable{N ab b a c m B:Nat}{A:Ar}{P:PD}{FT:Nat->Prop}
structure Hu (w5 w:World) (B0:Nat) (vk vf:Value) (kk:List Int) (ff:List (List Pu)):Prop where
 An:A5 (λ_=>False) w5 w
 Hk:DF w vk kk
 JI:∀g,vk.ownBlock=some g->w5.heap.size<=g
 AS:∃fvs:List Value,fvs.length=ff.length/\w.ownsRow 0 72 1 vf ff.length fvs/\(∀g,vf.ownBlock=some g->w5.heap.size<=g)/\(∀k (h1:k<fvs.length) (h2:k<ff.length),AZ w5 (fvs[k]'h1) (ff[k]'h2))/\∀x∈fvs,∀g,x.ownBlock=some g->B0<=g
def Hu.aP{w5 w w':World}{I:Nat}{W O:Value}{X:List Int}{Y:List (List Pu)}(h:Hu w5 w I W O X Y)(H:A5 Ab w w'):Hu w5 w' I W O X Y:=by
 have⟨fvs,f1,f2,f3,f4,f5⟩:=h.AS;exact⟨h.An.tr H,AA h.Hk λg z=>H.Ao g (AG h.Hk z) (λh=>h),h.JI,fvs,f1,AA f2 λg z=>H.Ao g (AG f2 z) (λh=>h),f3,f4,f5⟩
def Hu.fD{w5 w w':World}{aA:Nat}{X I vf:Value}{H:List Int}{ff:List (List Pu)}{n:Int}(h:Hu w5 w aA X vf H ff)(W:App w w' 3 1 X I (H.length+1) (DR H++DR [n])):Hu w5 w' aA I vf (H++[n]) ff:=by
 have hc:=W.An (S:=λk=>X.oB k) λ_ h=>h;have⟨fvs,f1,f2,f3,f4,f5⟩:=h.AS;refine⟨h.An.AJ hc λx Y hlt=>by have:=h.JI x Y;omega,?_,λg z=>?_,fvs,f1,AA f2 λg z=>hc.Ao g (AG f2 z) λY=>Im f2 h.Hk (by decide) z Y,f3,f4,f5⟩
 ·have e:(H++[n]).length=H.length+1:=by simp
  unfold DF;rw[KK,e];exact W.AP
 ·rcases W.Cu with O|O
  ·rw[O]at z;exact h.JI g z
  ·rw[O]at z;cases z;exact h.An.Am
def Hu.addF{w5 w w':World}{aA:Nat}{vk W Y x:Value}{kk:List Int}{H:List (List Pu)}{l:List Pu}(h:Hu w5 w aA vk W kk H)(hx:AZ w5 x l)(aD:∀g,x.ownBlock=some g->aA<=g)(z:List Value)(f1:z.length=H.length)(f2:w.ownsRow 0 72 1 W H.length z)(f3:∀g,W.ownBlock=some g->w5.heap.size<=g)(f4:∀k (O:k<z.length) (h2:k<H.length),AZ w5 (z[k]'O) (H[k]'h2))(f5:∀x∈z,∀g,x.ownBlock=some g->aA<=g)(hA:App w w' 72 1 W Y (H.length+1) (z++[x])):Hu w5 w' aA vk Y kk (H++[l]):=by
 have hc:=hA.An (S:=λk=>W.oB k) λ_ h=>h;refine⟨h.An.AJ hc λx hx hlt=>by have:=f3 x hx;omega,AA h.Hk λg I=>hc.Ao g (AG h.Hk I) λhx=>Im h.Hk f2 (by decide) I hx,h.JI,z++[x],by simp[f1],?_,λg I=>?_,λk O h2=>?_,λy X g I=>?_⟩
 ·have e:(H++[l]).length=H.length+1:=by simp
  rw[e];exact hA.AP
 ·rcases hA.Cu with O|O
  ·rw[O]at I;exact f3 g I
  ·rw[O]at I;cases I;exact h.An.Am
 ·by_cases hk:k<H.length
  ·rw[F9 (show k<z.length by omega),F9 hk];exact f4 k (by omega) hk
  ·(have aB:k=H.length:=by simp at h2;omega);have e1:(z++[x])[k]'O=x:=by
    (have:k=z.length:=by omega);subst this;simp
   (have e2:(H++[l])[k]'h2=l:=by subst aB;simp);rw[e1,e2];exact hx
 ·rcases AU.1 X with X|X
  ·exact f5 y X g I
  ·rw[Hr.1 X]at I;exact aD g I
end
section
variable{N ab b a c m B:Nat}{A:Ar}{P:PD}{FT:Nat->Prop}
def A2d(hS:FN N)(hN:N<=134217728)(w:World)(h:AD w ab b A P FT)(dB:∀k,FT k->k<w.heap.size)(Ay oldest:Int)(hw:1<=Ay/\Ay<=4611686018427387904)(hall:∀segs,P.segs A.ix.segs=some segs->(segs.flatMap (·.2)++(P.puts A.j.Al).1).length<=N/\∀p∈segs.flatMap (·.2)++(P.puts A.j.Al).1,B8 p)(aI:A.ix.segs.length<=1073741824/\A.ix.segs.length*m<=4398046511104)(cP:0<=A.A8/\A.A8+N<=9223372036854775807)(bS:AY (A.j.A8+1))(a7:∀x∈A.ix.segs,AY x)(hF:Fit P a c m)(hl:CN (a+N+2) (c+2*a+2*N+4) (m+37*N+12))(hm:A.j.Al.length*m<=70368744177664)(hn:∀n∈A.ix.segs,Cv n)(bJ:∀n∈A.j.Al,Cv n)(cX:A.j.Al.length<=1073741824)(hL:Lets B w)(bV:∀k,FT k->B<=k):
 Aj 38 #[A7 ab,A0 Ay,A0 oldest] w (Au (A0 (A.aX P Ay oldest).1) λw'=>Ax w FT w' (λw' aK=>AD w' ab b (A.aX P Ay oldest).2.1 (A.aX P Ay oldest).2.2 aK)):=by
 have⟨i0,hi,hz0,hz1,hz2⟩:=Eb Ig;obtain⟨j0,hj,eK,dL,dX⟩:=Oi;obtain⟨s0,hs,dT,eT,dK⟩:=RB;have⟨xb,jb,sv,ov,lv,jo,Ft,hv,hsub⟩:=id h;have a6:CN a c m:=⟨by have:=hl.a;omega,by have:=hl.c;omega,by have:=hl.m;omega⟩;have k0:A5 Ab w (w.aC #[A0 oldest] 3):=(A5.C _ w).aj _;have b5:(w.aC #[A0 oldest] 3).heap[w.heap.size]?=some (.cells #[A0 oldest] 3 (0,0)):=BN w _;have dE:Hid (P.segs A.ix.segs=none->A.aX P Ay oldest=(7,A,P)):=λh=>by unfold Ar.aX;rw[h]
 have dG:Hid (∀segs,P.segs A.ix.segs=some segs->(P.puts A.j.Al).2≠0->A.aX P Ay oldest=((P.puts A.j.Al).2,A,P)):=λsegs h hp=>by unfold Ar.aX;rw[h];dsimp only;rw[Ah hp]
 have dI:Hid (∀segs,P.segs A.ix.segs=some segs->(P.puts A.j.Al).2=0->A.aX P Ay oldest=A.ay P ((C3 segs oldest (Dd Ay (segs.flatMap (·.2)++(P.puts A.j.Al).1))).1.mergeSort λx y=>decide (x<=y)) (C3 segs oldest (Dd Ay (segs.flatMap (·.2)++(P.puts A.j.Al).1))).2):=λsegs h hp=>by
  unfold Ar.aX;rw[h];dsimp only;rw[Ae (by simp[hp])]
 obtain⟨R,hR⟩:∃R,A.aX P Ay oldest=R:=⟨_,rfl⟩;rw[hR]at dE dG dI ⊢;have H:=A4 h;have aM:=A4 dB;have aD:Hid (∀I n,A5 Ab w I->R=(n,A,P)->R.1=n/\Ax w FT I (λw' aK=>AD w' ab b R.2.1 R.2.2 aK)):=λI n hc he=>by
  subst he;exact⟨rfl,hc.aZ,FT,H.o.aJ hc,λk hk=>Bm (aM.o k hk) hc.Am,λk hk=>.inl hk⟩
 have dU:=A4 (X9 _ (hv.aJ k0) hF a6 hn aI.1 (hL.aP k0));have eD:Hid (∀I,A5 Ab w I->_):=λI hc=>NB I (hv.aJ hc).dk (hv.aJ hc).lt (hv.aJ hc).jn hF a6 hm bJ (hL.aP hc);have e4:Hid (∀I,A5 Ab w I->I.cell? (Ad ab 2)=some (A7 jb)):=λI hc=>(hv.aJ hc).Ai.c2
 have eM:Hid (∀segs,P.segs A.ix.segs=some segs->∀I dQ v,Gh I dQ b v segs->Aj 53 #[v] I λe w'=>∃v',e=.returned v'/\AZ w' v' (segs.flatMap (·.2))/\(∀g,v'.oB g->I.heap.size<=g)/\A5 Ab I w'):=λsegs hs I dQ v z=>by
  have⟨q1,q2⟩:=Nq hF A.ix.segs segs hs;exact RM I dQ v segs z (by rw[q1];exact aI.1) q2 (by rw[q1];exact aI.2)
 have bB:Hid (∀segs,P.segs A.ix.segs=some segs->∀I v,AZ I v (segs.flatMap (·.2)++(P.puts A.j.Al).1)->_):=λsegs hs I v z=>Tx hS hN I v Ay _ (hall segs hs).1 z (λp hp=>((hall segs hs).2 p hp).2.1) hw
 have bL:Hid (∀segs,P.segs A.ix.segs=some segs->(P.puts A.j.Al).2=0->∀I kv fv,A5 Ab w I->DF I kv ((C3 segs oldest (Dd Ay (segs.flatMap (·.2)++(P.puts A.j.Al).1))).1.mergeSort λx y=>decide (x<=y))->(∀g,kv.oB g->w.heap.size<=g)->P4 I fv (C3 segs oldest (Dd Ay (segs.flatMap (·.2)++(P.puts A.j.Al).1))).2 FT->
  Aj 66 #[A7 ab,kv,fv] I (Au (A0 R.1) λw'=>Ax w FT w' (λw' aK=>AD w' ab b R.2.1 R.2.2 aK))):=λsegs hs hp I kv fv hc hk bN hf=>by
  have⟨z1,z2,z3⟩:=On Ay (segs.flatMap (·.2)++(P.puts A.j.Al).1);have⟨y1,y2,y3,y4⟩:=Tb segs oldest (Dd Ay (segs.flatMap (·.2)++(P.puts A.j.Al).1));have⟨n1,n2⟩:=hall segs hs;have aZ:∀n∈(C3 segs oldest (Dd Ay (segs.flatMap (·.2)++(P.puts A.j.Al).1))).1.mergeSort (λx y=>decide (x<=y)),n∈A.ix.segs:=λn hn=>by
   obtain⟨s,eG,rfl⟩:=y2 n (A2V.1 hn);exact Np _ _ hs s eG
  rw[dI.o segs hs hp];have b9:((C3 segs oldest (Dd Ay (segs.flatMap (·.2)++(P.puts A.j.Al).1))).1.mergeSort (λx y=>decide (x<=y))).length=(C3 segs oldest (Dd Ay (segs.flatMap (·.2)++(P.puts A.j.Al).1))).1.length:=V7 _
  refine(R0 I (H.o.aJ hc) (λk hk=>Bm (aM.o k hk) hc.Am) kv _ hk (λg W=>⟨λz=>by have:=bN g W;have:=aM.o g z;omega,AH hL.1 (bN g W)⟩) fv _ hf
   (λl hl=>⟨λp hp=>n2 p ((z3 l (y3 l hl)).1 p hp),by have:=(z3 l (y3 l hl)).2;omega⟩) ⟨cP.1,by omega⟩ bS (λx z=>a7 x (aZ x z)) hF ⟨by have:=hl.a;omega,by have:=hl.c;omega,by have:=hl.m;rw[b9];omega⟩ (by rw[b9];omega) hn bJ (λx z=>hn x (aZ x z)) aI.1 cX (hL.aP hc) bV).mono ?_
  rintro e w'⟨h1,h2⟩;exact⟨h1,Ax.a8 (hc.aZ) (λk hk=>hk.elim .inl λh=>.inr (bN k h)) h2⟩
 have a0:Hid (∀segs,P.segs A.ix.segs=some segs->(segs.flatMap (·.2)++(P.puts A.j.Al).1).length<=134217728/\(Dd Ay (segs.flatMap (·.2)++(P.puts A.j.Al).1)).length<=134217728):=λsegs hs=>by
  have h1:=(hall segs hs).1;have h2:=(On Ay (segs.flatMap (·.2)++(P.puts A.j.Al).1)).1;omega
 have dS:Hid (∀segs,P.segs A.ix.segs=some segs->∀x∈segs,AY x.1):=λsegs hs x z=>a7 _ (Np _ _ hs x z);have dN:=A4 k0;have cI:=A4 b5;clear hR h hv dB hsub hall aI cP bS a7 hF hl hm hn bJ cX hL bV a6 k0 b5 hw hS
 go_enter func38,ntmps38
 go_wp2_with (fail);refine dU.m ?_;rintro e w1 (⟨hs,rfl,hc1⟩|⟨segs,v1,hs,rfl,hv1,hc1⟩)
 ·have cS:=A4 (aD.o w1 7 (dN.o.tr hc1) (dE.o hs));clear hs hc1 dU dE dG dI aD eD eM bB bL;go_wp2;go_ret;exact⟨by rw[cS.o.1];rfl,cS.o.2⟩
 have aJ:=A4 hs;have cV:=A4 hv1;have dH:Hid (A5 Ab w w1):=dN.o.tr hc1;have cT:Hid (w1.cell? (Ad w.heap.size 0)=some (A0 oldest)):=hc1.an (by simp only[World.cell?,cI.o];rfl);have aL:=A4 (eD.o w1 dH.o);have d2:=e4.o w1 dH.o;have aT:=A4 (dG.o segs aJ.o);have O:=A4 (bL.o segs aJ.o);have aA:=A4 (bB.o segs aJ.o);have X:=A4 (a0.o segs aJ.o);have aO:=A4 (eM.o segs aJ.o);clear hs hv1 hc1 dU dE dG dI eD eM bB bL a0 dS dN cI;obtain⟨ps,cB⟩:∃ps,(P.puts A.j.Al).1=ps:=⟨_,rfl⟩;obtain⟨pe,cY⟩:∃pe,(P.puts A.j.Al).2=pe:=⟨_,rfl⟩;rw[cB]at aL O aA X;rw[cY]at aL O aT;clear cB cY;go_wp2_with (fail);refine aL.m ?_;rintro e w2⟨v2,rfl,aU,cF,aG⟩;by_cases hp:pe=0
 case neg=>
  have hpb:(pe !=0)=true:=by simpa using hp
  have cS:=A4 (aD.o w2 pe (dH.o.tr aG) (aT.o hp));clear aU cF aG aL O aA aO aD aT hp;go_wp2;go_ret;exact⟨by rw[cS.o.1];rfl,cS.o.2⟩
 case pos=>
 subst hp;obtain⟨pl,cJ⟩:∃pl,segs.flatMap (·.2)=pl:=⟨_,rfl⟩;rw[cJ]at O aA X aO;have e6:Hid (A5 Ab w w2):=dH.o.tr aG;have bA:=A4 (cV.o.aJ aG);have bX:=A4 (aG.an cT.o);have bU:=A4 (aO.o w2 _ v1 bA.o);obtain⟨v2a,v2c,rfl,v21,eU,-⟩:=Bb aU;unfold maxLen at eU;have cN:=A4 aU;clear cJ aU cF aG aL aD aT aO cV cT d2;go_wp2_with (fail);refine bU.m ?_;rintro e w3⟨v3,rfl,bF,cZ,bD⟩;obtain⟨cG,cO,rfl,v31,dJ,-⟩:=Bb bF;unfold maxLen at dJ;have bQ:=A4 bF;have dA:=A4 cZ;have b2:=A4 bD;have a3:=A4 (Src.bM underlying72 (AA cN.o λg W=>bD.Ao g (AG cN.o W) (λh=>h)) (I6 ps));have bP:Hid ((pl.length+ps.length)*24<=140737488355328):=by have:=X.o.1;rw[AX]at this;unfold Hid;omega
 clear bF cZ bD bU;go_wp2_with (at_builtin;refine De rfl (.tmp 35) (.tmp 36) 72 72 rfl 90 i0 _ 3 24 underlying72 hi hz0 hz1 hz2 rfl (by decide) (.slice cG pl.length cO) pl.length (Ba pl) (by rfl) bQ.o _ ps.length _ (by rfl) a3.o bP.o ?_;intro a4 cM w4 hA;have dP:=A4 hA;clear hA);have bW:=dP.o.An (S:=λk=>(Value.slice cG pl.length cO).oB k) λ_ h=>h;have cC:AZ w4 (.slice a4 (pl.length+ps.length) cM) (pl++ps):=by
  have e:(pl++ps).length=pl.length+ps.length:=by simp
  unfold AZ;rw[IJ,e];exact dP.o.AP
 have aN:A5 Ab w2 w4:=b2.o.AJ bW λx z dV=>by have:=dA.o x z;omega
 have eX:=A4 (aA.o w4 _ cC);have b8:=A4 (bA.o.aJ aN);have cD:=A4 (aN.an bX.o);have eW:Hid (A5 Ab w w4):=e6.o.tr aN;clear bW cC aN aA bA bX dP a3 bP b2 dA bQ;refine eX.m ?_;rintro e w5⟨v5,vs,rfl,aQ,aW⟩;obtain⟨ws,cH⟩:∃ws,Dd Ay (pl++ps)=ws:=⟨_,rfl⟩;rw[cH]at aQ O X;obtain⟨v5a,v5c,rfl,v51,eC,cA,-⟩:=Bb aQ.Bx;unfold maxLen at eC;have aV:=A4 aQ;have e3:=A4 cA;have cL:=A4 (b8.o.aJ aW);have b6:=A4 (aW.an cD.o);have eQ:Hid (A5 Ab w w5):=eW.o.tr aW;have a9:Hid (ws.length<=134217728):=X.o.2;obtain⟨ob,b0⟩:∃ob,w.heap.size=ob:=⟨_,rfl⟩;rw[b0]at b6 ⊢;clear cH aQ cA aW eX b8 cD b0;go_wp2;go_loopw [10,11,41] (λvk vf iv wr=>∃(k:Nat) (kk:List Int) (ff:List (List Pu)),iv=A0 k/\k<=ws.length/\kk.length+ff.length<=k/\Hid (Hu w5 wr w4.heap.size vk vf kk ff/\C3 segs oldest ws=(kk++(C3 segs oldest (ws.drop k)).1,ff++(C3 segs oldest (ws.drop k)).2))) (λ_ _ iv _=>ws.length-(intOf iv).toNat)
 ·exact⟨0,[],[],rfl,by omega,by simp,⟨A5.C _ _,CL _ _ _ _,λg W=>by simp[Value.ownBlock]at W,[],rfl,CL _ _ _ _,λg W=>by simp[Value.ownBlock]at W,λk h1=>by simp at h1,λx z=>by cases z⟩,by simp⟩
 ·obtain⟨k,kk,ff,rfl,hk,bG,hI⟩:=hrel;have⟨i1,i2⟩:=hI.o;obtain⟨ka,kc,rfl,kc1,eL,-⟩:=Bb i1.Hk;have⟨fvs,f1,f2,f3,f4,f5⟩:=i1.AS;obtain⟨fa,fc,rfl,fc1,dR,-⟩:=Bb f2;unfold maxLen at eL dR;by_cases aH:k<ws.length
  ·(have aF:k<vs.length:=by have:=aV.o.Bi;omega);obtain⟨g,rfl⟩:=e3.o (by omega);have hc:=BB aV.o.Bx (g:=g) rfl (show vs[k]?=some (vs[k]'aF) from Ef aF);have z:=aV.o.ls k aF aH;have bC:=aV.o.li (vs[k]'aF) (BS aF);have bM:=Fy aH;obtain⟨x,bY⟩:∃x,(vs[k]'aF)=x:=⟨_,rfl⟩;obtain⟨l,cE⟩:∃l,(ws[k]'aH)=l:=⟨_,rfl⟩;rw[bY]at hc z bC;rw[cE]at z bM;rw[bM,Tc]at i2;obtain⟨xa,xc,rfl,x1,x2,-⟩:=Bb z;have e1:=i1.An.an hc;have kA:A5 Ab wr (wr.aC #[.slice xa l.length xc] 72):=(A5.C _ wr).aj _;have aR:A5 Ab w5 (wr.aC #[.slice xa l.length xc] 72):=i1.An.tr kA;have pA:(wr.aC #[.slice xa l.length xc] 72).heap[wr.heap.size]?=some (.cells #[.slice xa l.length xc] 72 (0,0)):=BN wr _;have pc:(wr.aC #[.slice xa l.length xc] 72).cell? (Ad wr.heap.size 0)=some (.slice xa l.length xc):=Gg pA;have b3:=A4 (A1E _ _ l (AA z λg W=>aR.Ao g (AG z W) (λh=>h)) ob oldest (aR.an b6.o));have aY:=A4 i1;have eS:=A4 i2;have dZ:=A4 f1;have bO:=A4 f2;have eJ:=A4 f3;have dF:=A4 f4;have eN:=A4 f5;have eV:=A4 z;have dO:=A4 bC;have e7:=A4 aR;have bT:=A4 kA;have eZ:=A4 pc;(have dW:(k:Int)<(ws.length:Int):=by omega);have hk0:=Cd k;obtain⟨d,hd⟩:∃d,l.any (λp=>decide (oldest<=p.2.1))=d:=⟨_,rfl⟩;rw[hd]at b3 eS;clear hI i1 i2 f1 f2 f3 f4 f5 hc z bC bM bY cE kA aR pA hd;cases d with
   | false=>
    (have a2:Hid (C3 segs oldest ws=(kk++(C3 segs oldest (ws.drop (k+1))).1,ff++(C3 segs oldest (ws.drop (k+1))).2)):=by have:=eS.o;rwa [Ah rfl]at this);go_wp2_with (fail);refine b3.k ?_;rintro w6 aB;have eP:=A4 (aY.o.aP (bT.o.tr aB));clear aB b3 pc;go_wp2;go_roundw
    ·exact⟨k+1,kk,ff,by go_num,aH,Pf bG,eP.o,a2.o⟩
    ·simp[intOf];omega
   | true=>
    have a2:=A4 eS.o;rw[Ae (by simp)]at a2;have⟨gbs,g1,g2,g3,g4⟩:=cL.o;obtain⟨va,vc,rfl,va1,eB,cQ,-⟩:=Bb g2;unfold maxLen at eB;have e2:=A4 cQ;have eI:=A4 g1;have eF:=A4 g2;have eH:=A4 g4;clear cQ g1 g2 g3 g4;go_wp2_with (fail);refine b3.k ?_;rintro w6 aB;have aP:A5 Ab w5 w6:=e7.o.tr aB;have dY:=A4 (A0w w6 _ segs (cL.o.aJ aP) wr.heap.size (.slice xa l.length xc) l (aB.an eZ.o) (AA eV.o λg W=>aP.Ao g (AG eV.o W) (λh=>h)));have b1:Hid (A5 Ab wr w6):=bT.o.tr aB;have eR:=A4 aP;have eA:=A4 (aB.an eZ.o);clear aB b3 aP pc;go_wp2_with (fail);refine dY.m ?_;rintro e w7⟨(⟨rfl,hf⟩|⟨k2,bZ,rfl,hf⟩),Y⟩
    ·rw[hf]at a2;(have eE:Hid (C3 segs oldest ws=(kk++(C3 segs oldest (ws.drop (k+1))).1,(ff++[l])++(C3 segs oldest (ws.drop (k+1))).2)):=by have:=a2.o;unfold Hid;rw[this];simp);have pc7:=Y.an eA.o;have k7:A5 Ab wr (w7.aC #[.slice xa l.length xc] 72):=(b1.o.tr Y).aj _;have aS:=A4 (aY.o.aP k7);have a1:=A4 (AA bO.o λg W=>k7.Ao g (AG bO.o W) (λh=>h));have bH:=A4 (Src.ba (size:=1) (B:=w7.heap.size) underlying131 w7 #[.slice xa l.length xc] 72 (by simp) 1 1 rfl (by simp[Value.oneCell']));(have bK:Hid ((ff.length+1)*24<=140737488355328):=by have:=a9.o;unfold Hid;omega);clear hf Y k7 dY;go_wp2_with (at_builtin;refine De rfl (.tmp 54) (.tmp 56) 131 131 rfl 72 s0 _ 1 24 underlying131 hs dT eT dK rfl (by decide) (.slice fa ff.length fc) ff.length fvs (by rfl) a1.o _ 1 _ (by rfl) bH.o bK.o ?_;intro a8 dD w8 hA;have a5:=A4 hA;clear hA);have bE:=A4 (aS.o.addF eV.o dO.o fvs dZ.o a1.o eJ.o dF.o eN.o a5.o);go_roundw
     ·exact⟨k+1,kk,ff++[l],by go_num,aH,by rw[AX];exact Pa bG,bE.o,eE.o⟩
     ·simp[intOf];omega
    ·rw[hf]at a2;obtain⟨gv,rfl⟩:=e2.o (by omega);(have aX:k2<gbs.length:=by have:=eI.o;omega);have aE:A5 Ab w5 w7:=eR.o.tr Y;have bI:=(eH.o k2 aX bZ).aJ aE;have eO:=aE.an (BB eF.o (g:=gv) rfl (show (Gr gbs)[k2]?=some (A7 (gbs[k2]'aX)) by simp[Gr,aX]));obtain⟨gb,dC⟩:∃gb,(gbs[k2]'aX)=gb:=⟨_,rfl⟩;rw[dC]at bI eO;obtain⟨sg,b7⟩:∃sg,(segs[k2]'bZ)=sg:=⟨_,rfl⟩;rw[b7]at bI a2;obtain⟨n,sl⟩:=sg;obtain⟨pv,hb,-,-,-⟩:=bI;have c3:=hb.c3;dsimp only at c3;(have eE:Hid (C3 segs oldest ws=((kk++[n])++(C3 segs oldest (ws.drop (k+1))).1,ff++(C3 segs oldest (ws.drop (k+1))).2)):=by have:=a2.o;unfold Hid;rw[this];simp);have k7:A5 Ab wr (w7.aC #[A0 n] 3):=(b1.o.tr Y).aj _;have aS:=A4 (aY.o.aP k7);have bH:=A4 (Src.ba (size:=1) (B:=w7.heap.size) underlying120 w7 #[A0 n] 3 (by simp) 1 1 rfl (JJ [n]));(have bK:Hid ((kk.length+1)*8<=140737488355328):=by have:=a9.o;unfold Hid;omega);(have hk2i:(k2:Int)<(segs.length:Int):=by omega);have hk20:=Cd k2;clear hf Y k7 dY hb dC b7 aE;go_wp2_with (at_builtin;refine De rfl (.tmp 58) (.tmp 66) 120 120 rfl 3 j0 _ 1 8 underlying120 hj eK dL dX rfl (by decide) (.slice ka kk.length kc) kk.length (DR kk) (by rfl) aS.o.Hk _ 1 _ (by rfl) bH.o bK.o ?_;intro a8 dD w8 hA;have a5:=A4 hA;clear hA);have bE:=A4 (aS.o.fD a5.o);go_roundw
     ·exact⟨k+1,kk++[n],ff,by go_num,aH,by rw[AX,Nat.add_right_comm];exact Pa bG,bE.o,eE.o⟩
     ·simp[intOf];omega
  ·(have dM:k=ws.length:=by omega);subst dM;rw[Gm]at i2;(have b4:C3 segs oldest ws=(kk,ff):=by simpa[C3] using i2);rw[b4]at O;(have dW:¬((ws.length:Int)<(ws.length:Int)):=by omega);have e0:=A4 (WY wr _ kk i1.Hk (by have:=a9.o;omega));have aY:=A4 i1;have dZ:=A4 f1;have bO:=A4 f2;have eJ:=A4 f3;have dF:=A4 f4;have eN:=A4 f5;clear hI i1 i2 f1 f2 f3 f4 f5 b4;go_wp2_with (fail);refine e0.k ?_;rintro w7⟨bR,Y⟩;(have aE:A5 Ab w5 w7:=aY.o.An.AJ Y λx z dV=>by have:=aY.o.JI x z;omega);have cU:A5 Ab w w7:=eQ.o.tr aE
   have eY:=A4 (O.o trivial w7 _ (.slice fa ff.length fc) cU bR (λg W=>AH eQ.o.Am (aY.o.JI g W))
    ⟨fvs,dZ.o,AA bO.o λg W=>Y.Ao g (AG bO.o W) (λz=>Im bO.o aY.o.Hk (by decide) W z),
     λk h1 h2=>AA (dF.o k h1 h2) λg W=>aE.Ao g (AG (dF.o k h1 h2) W) (λh=>h),
     λg W z=>by have:=eJ.o g W;have:=aM.o g z;have:=eQ.o.Am;omega,
     λx z g W hf=>by have:=eN.o x z g W;have:=aM.o g hf;have:=eW.o.Am;omega⟩)
   clear bR Y aE cU e0 O;go_wp2_with (fail);refine eY.k ?_;rintro w8 hI;have e5:=A4 hI;clear hI eY;go_wp2;go_ret;exact⟨rfl,e5.o⟩
end
end
section
open Go.RowKit
structure SV (w:World) (sb ab b:Nat) (mu aA Ak Ac:Int) (ro:Bool) (lv:Nat->Value) (L:Nat->List Pt) (A:Ar) (P:PD) (F0:Nat->Prop):Prop where
 Ai:Bz w sb mu (.pointer (some ⟨ab,0,none⟩)) aA Ak Ac ro lv
 FH:Ei w lv L
 ar:AD w ab b A P F0
 lt:∀k,F0 k->k<w.heap.size
 ns:¬F0 sb
 nr:∀k,ED lv k->¬F0 k
def SF(w:World)(sb ab b:Nat)(mu aA Ak Ac:Int)(ro:Bool)(L:Nat->List Pt)(A:Ar)(P:PD)(FT:Nat->Prop):Prop:=
 ∃lv F0,SV w sb ab b mu aA Ak Ac ro lv L A P F0/\∀k,F0 k\/Own sb lv k->FT k
section
variable{w w' w2:World}{sb ab b:Nat}{mu aD aA Ak Ac aB:Int}{ro aE:Bool}{lv lv':Nat->Value}{L L':Nat->List Pt}{A A':Ar}{P P':PD}{F0 FT:Nat->Prop}
def SV.e2(h:SV w sb ab b mu aA Ak Ac ro lv L A P F0){k:Nat}(z:F0 k\/Own sb lv k):k<w.heap.size:=by
 rcases z with z|rfl|z
 ·exact h.lt k z
 ·exact h.Ai.lt
 ·exact h.FH.lt z
def SV.nb(h:SV w sb ab b mu aA Ak Ac ro lv L A P F0):¬ED lv sb:=h.FH.ne h.Ai (by decide)
def SV.An(h:SV w sb ab b mu aA Ak Ac ro lv L A P F0){S:Nat->Prop}(H:A5 S w w')(I:∀k,F0 k\/Own sb lv k->¬S k):SV w' sb ab b mu aA Ak Ac ro lv L A P F0:=
 ⟨h.Ai.An H (I sb (.inr (.inl rfl))),h.FH.An H λg O=>I g (.inr (.inr O)),h.ar.aM (H.az (λk z=>h.lt k z) λk z=>I k (.inl z)) H.Am,
  λk z=>Bm (h.lt k z) H.Am,h.ns,h.nr⟩
def SV.aJ(h:SV w sb ab b mu aA Ak Ac ro lv L A P F0)(z:A5 Ab w w'):SV w' sb ab b mu aA Ak Ac ro lv L A P F0:=h.An z λ_ _ h=>h
def SF.aJ(h:SF w sb ab b mu aA Ak Ac ro L A P FT)(I:A5 Ab w w'):SF w' sb ab b mu aA Ak Ac ro L A P FT:=by
 obtain⟨lv,F0,H,z⟩:=h;exact⟨lv,F0,H.aJ I,z⟩
def SV.bI(h:SV w' sb ab b mu aA Ak Ac ro lv' L' A' P' F0){S:Nat->Prop}(W:A5 S w w')(I:∀k,k<w.heap.size->S k->FT k)(O:∀k,F0 k\/Own sb lv' k->FT k\/w.heap.size<=k):
 Ax w FT w' (λw' z=>SF w' sb ab b mu aA Ak Ac ro L' A' P' z):=
 ⟨W.ae I,λk=>F0 k\/Own sb lv' k,⟨lv',F0,h,λ_ h=>h⟩,λ_ H=>h.e2 H,O⟩
def SV.ai(h:SV w sb ab b mu aA Ak Ac ro lv L A P F0)(H:L8 w w' sb aD (.pointer (some ⟨ab,0,none⟩)) aA Ak aB aE lv lv' L'):
 SV w' sb ab b aD aA Ak aB aE lv' L' A P F0:=
 ⟨H.Ai,H.FH,h.ar.aM (H.An.az (λk z=>h.lt k z) λk z I=>by
  rcases I with rfl|I
  ·exact h.ns z
  ·exact h.nr k I z) H.An.Am,λk z=>Bm (h.lt k z) H.An.Am,h.ns,λk z I=>by
  rcases H.AP k z with O|O
  ·exact h.nr k O I
  ·have:=h.lt k I;omega⟩
def SV.dK(h:SV w sb ab b mu aA Ak Ac ro lv L A P F0)(z:∀k,F0 k\/Own sb lv k->FT k)(O:L8 w w' sb aD (A7 ab) aA Ak aB aE lv lv' L'):
 Ax w FT w' (λw' I=>SF w' sb ab b aD aA Ak aB aE L' A P I):=
 (h.ai O).bI O.An (λk _ H=>z k (.inr H)) λk H=>by
  rcases H with H|rfl|H
  ·exact .inl (z k (.inl H))
  ·exact .inl (z _ (.inr (.inl rfl)))
  ·exact(O.AP k H).imp (λh=>z k (.inr (.inr h))) id
def SV.dS(h:SV w sb ab b mu aA Ak Ac ro lv L A P F0)(z:∀k,F0 k\/Own sb lv k->FT k)(hI:Ax w F0 w' (λw' I=>AD w' ab b A' P' I)):
 Ax w FT w' (λw' I=>SF w' sb ab b mu aA Ak Ac ro L A' P' I):=by
 obtain⟨X,aF,h1,h2,W⟩:=hI;have hb:=h.Ai.lt;refine(SV.bI (w':=w') (lv':=lv) (F0:=aF) ⟨h.Ai.An X h.ns,h.FH.An X h.nr,h1,h2,λY=>?_,λk H Y=>?_⟩ X (λk _ H=>z k (.inl H)) λk H=>?_)
 ·rcases W _ Y with O|O
  ·exact h.ns O
  ·omega
 ·rcases W _ Y with O|O
  ·exact h.nr k H O
  ·have:=h.FH.lt H;omega
 ·rcases H with H|H
  ·exact(W k H).imp (λh=>z k (.inl h)) id
  ·exact .inl (z k (.inr H))
def SF.Ek(h:SF w sb ab b mu aA Ak Ac ro L A P FT)(o:Nat)(u:Value)(O:∀lv,Bz w sb mu (.pointer (some ⟨ab,0,none⟩)) aA Ak Ac ro lv->Bz (w.setCell ⟨sb,o,none⟩ u) sb aD (.pointer (some ⟨ab,0,none⟩)) aA Ak aB aE lv):
 Ax w FT (w.setCell ⟨sb,o,none⟩ u) (λw' H=>SF w' sb ab b aD aA Ak aB aE L A P H):=by
 obtain⟨lv,F0,z,I⟩:=h;exact z.dK I (L8.of (O lv z.Ai) z.FH ((A5.C (One sb) w).ao rfl o u) z.nb)
def SFto.Ek(h:Ax w FT w' (λw' z=>SF w' sb ab b mu aA Ak Ac ro L A P z))(o:Nat)(u:Value)(I:∀lv,Bz w' sb mu (.pointer (some ⟨ab,0,none⟩)) aA Ak Ac ro lv->Bz (w'.setCell ⟨sb,o,none⟩ u) sb aD (.pointer (some ⟨ab,0,none⟩)) aA Ak aB aE lv):
 Ax w FT (w'.setCell ⟨sb,o,none⟩ u) (λw' z=>SF w' sb ab b aD aA Ak aB aE L A P z):=
 h.AJ λ_ H _ _=>H.Ek o u I
def FL(L:Nat->List Pt)(o:Int)(k:Nat)(t v:Int):Nat->List Pt:=if o<=t then I3 L k (CT (L k) t v) else L
def Td(L:Nat->List Pt)(o:Int)(n:Nat)(t v:Int)(k:Nat):(FL L o n t v k).length<=(L k).length+1:=by
 unfold FL;split
 ·unfold I3;split
  ·rename_i e;subst e;exact(Oj _ _ _).2
  ·omega
 ·omega
def Te(w:World)(p:Pu)(h:SF w sb ab b mu aA Ak Ac ro L A P FT)(hp:0<=p.1/\p.1<8)(I:∀k,k<8->(L k).length<1099511627000)(hl:1<=aA/\aA<=4611686018427387904)(hc:AY Ac):
 Aj 30 #[A7 sb,DB p] w (Au (.tuple #[]) λw'=>Ax w FT w' (λw' X=>SF w' sb ab b mu aA Ak Ac ro (FL L (Bu Ac aA) p.1.toNat p.2.1 p.2.2) A P X)):=by
 obtain⟨k,t,v⟩:=p;obtain⟨lv,F0,z,Y⟩:=h;unfold DB;dsimp only at hp ⊢;obtain⟨W,hk2⟩:=hp;obtain⟨n,rfl⟩:=Lq W;have O:n<8:=by omega
 refine(ZT w sb n _ _ (by decide) Ac aA t v (L n) (lv n) O (z.FH.ez z.Ai O) (by have:=I n O;omega) rfl rfl hl hc).k ?_;rintro w' h3;refine⟨rfl,?_⟩;unfold FL;rw[EA];rcases h3 with⟨ho,lv',hR⟩|⟨ho,H⟩
 ·rw[Ah ho];have hlen:=(Oj (L n) t v).2;have⟨b1,b2,b3,b4⟩:=z.FH.ai z.Ai O hR rfl (by have:=I n O;omega);exact z.dK Y ⟨b1,b2,b3,b4⟩
 ·rw[Ae (by omega)];exact(z.aJ H).bI H (λ_ _ h=>h.elim) λk hk=>.inl (Y k hk)
end
end
section
open Go.MuLone Go.RowKit
attribute [local go_sem ↓] Go.wp_at_zero Go.wp_at_succ Cz
section
variable{w w' w2:World}{sb ab b B:Nat}{mu aA Ak Ac:Int}{ro:Bool}{lv:Nat->Value}{L L':Nat->List Pt}{A A':Ar}{P P':PD}{F0 FT:Nat->Prop}{a c m N:Nat}
def A2x(w:World)(p:Pu)(h:SF w sb ab b mu aA Ak Ac ro L A P FT)(_hFT:∀k,FT k->k<w.heap.size)(hp:B8 p)(hn:A.j.AP=none->Cv (A.j.A8+1)/\AY (A.j.A8+1)/\AY A.j.puts)(aG:A.j.Al.length<=1073741824)(hL:Lets B w)(aH:∀k,FT k->B<=k)(hF:Fit P a c m)(aI:CN (a+1) (c+1) (m+33))(aJ:∀k,k<8->(L k).length<1099511627000)(hl:1<=aA/\aA<=4611686018427387904)(hc:AY Ac):
 Aj 36 #[A7 sb,DB p] w (Au (A0 (A.I P p).2.1) λw'=>
  Ax w FT w' (λw' z=>SF w' sb ab b mu aA Ak Ac ro (if (A.I P p).1=true then FL L (Bu Ac aA) p.1.toNat p.2.1 p.2.2 else L) (A.I P p).2.2.1 (A.I P p).2.2.2 z)):=by
 have hA:A5 Ab w (w.alloc (.cells #[A0 p.1,A0 p.2.1,A0 p.2.2] 90)):=(A5.C _ w).aj _;have I:=BN w (.cells #[A0 p.1,A0 p.2.1,A0 p.2.2] 90);have aB:w.heap.size<(w.alloc (.cells #[A0 p.1,A0 p.2.1,A0 p.2.2] 90)).heap.size:=by simp
 generalize aK:(w.alloc (.cells #[A0 p.1,A0 p.2.1,A0 p.2.2] 90))=w0 at hA I aB;have W:A5 Ab w w0.drew:=hA.ad;obtain⟨lv,F0,h1,h2⟩:=h;have hV:=h1.aJ W;have nx:¬F0 w.heap.size:=λhx=>Gj _ (h1.lt _ hx)
 have aD:Hid (Aj 57 #[A7 ab,DB p] w0.drew (Au (.tuple #[.bool (A.I P p).1,A0 (A.I P p).2.1]) λH=>
  (Aa H sb 2 (A7 ab)/\H.heap[w.heap.size]?=some (.cells #[A0 p.1,A0 p.2.1,A0 p.2.2] 90 (0,0)))/\
  Ax w FT H (λw' z=>SF w' sb ab b mu aA Ak Ac ro L (A.I P p).2.2.1 (A.I P p).2.2.2 z))):=by
  refine(A2e w0.drew p hV.ar hV.lt hp hn aG (hL.aP W) (λk hk=>aH k (h2 k (.inl hk))) hF aI).k ?_;rintro H O;exact⟨rfl,⟨(hV.Ai.An O.1 hV.ns).c2,(O.1.Ao _ aB nx).trans I⟩,(hV.dS h2 O).a7 W⟩
 have X:Hid (∀H,Ax w FT H (λw' z=>SF w' sb ab b mu aA Ak Ac ro L (A.I P p).2.2.1 (A.I P p).2.2.2 z)->Aj 30 #[A7 sb,DB p] H (Au (.tuple #[]) λw'=>
  Ax w FT w' (λw' z=>SF w' sb ab b mu aA Ak Ac ro (FL L (Bu Ac aA) p.1.toNat p.2.1 p.2.2) (A.I P p).2.2.1 (A.I P p).2.2.2 z))):=λH O=>by
  obtain⟨c1,F1,h3,h4,h5⟩:=O;refine(Te H p h3 hp.1 aJ hl hc).k ?_;rintro w' h6;exact⟨rfl,Ax.a8 c1 h5 h6⟩
 have c2:Aa w0 sb 2 (A7 ab):=(h1.aJ hA).Ai.c2;obtain⟨p1,p2,Y⟩:=p;unfold DB at aD X ⊢;dsimp only at aD X I aK ⊢;have q0:Aa w0 w.heap.size 0 (A0 p1):=Gg I;have q1:Aa w0 w.heap.size 1 (A0 p2):=Gg I;have q2:Aa w0 w.heap.size 2 (A0 Y):=Gg I;generalize hR:A.I P (p1,p2,Y)=R at aD X ⊢;obtain⟨aE,R2,R3,R4⟩:=R;dsimp only at aD X ⊢;generalize hL2:FL L (Bu Ac aA) p1.toNat p2 Y=L2 at X ⊢;have tail:∀aE:Bool,aE=true\/aE=false:=by intro x;cases x<;>simp
 go_enter func36,ntmps36
 go_wp2;refine Ce (λw'=>Aa w' sb 2 (A7 ab)/\Aa w' w.heap.size 0 (A0 p1)/\Aa w' w.heap.size 1 (A0 p2)/\Aa w' w.heap.size 2 (A0 Y)) 10
  (BD [0,1,2,3,4,5,6,7,8,9] [5]) ⟨c2,q0,q1,q2⟩ ?_
 iterate 5 refine Bq ?_
 refine By λK hK=>?_;go_simp;refine aD.k ?_;rintro H⟨⟨y2,hh⟩,O⟩;have r0:Aa H w.heap.size 0 (A0 p1):=Gg hh;have r1:Aa H w.heap.size 1 (A0 p2):=Gg hh;have r2:Aa H w.heap.size 2 (A0 Y):=Gg hh;refine hK _ _ ⟨y2,r0,r1,r2⟩ (λhS=>?_);have aF:=A4 (X.o H O);have aM:=A4 O
 iterate 4 refine Bq ?_
 refine Cc ?_;cases aE
 ·go_wp2;go_ret;exact⟨rfl,by simpa using aM.o⟩
 ·go_wp2_with (go_at_call 30;refine aF.k ?_;rintro w2 hS;have aL:=A4 hS);go_ret;exact⟨rfl,by simpa using aL.o⟩
def Uf(w:World)(z:Value)(h:Bz w sb mu (A7 ab) aA Ak Ac true lv):
 Aj 34 #[A7 sb,z] w (Au (A0 4) λw'=>w=w'):=by
 have c6:=h.cR
 go_enter func34,ntmps34
 go_wp2;go_ret;exact⟨rfl,rfl⟩
def A1R(w:World)(x:Nat)(n:Int)(h:SF w sb ab b mu aA Ak Ac false L A P FT)(aD:Aj 35 #[A7 x,A7 (x+1),A7 (x+2),A7 (x+3)] w (Au (A0 n) λw'=>Ax w FT w' (λw' z=>SF w' sb ab b mu aA Ak Ac false L' A' P' z))):
 Aj 34 #[A7 sb,.func (Fn.func 35) #[] #[A7 x,A7 (x+1),A7 (x+2),A7 (x+3)]] w (Au (A0 n) λw'=>Ax w FT w' (λw' z=>SF w' sb ab b mu aA Ak Ac (decide (n≠0)) L' A' P' z)):=by
 obtain⟨lv,F0,h1,h2⟩:=h;have c6:=h1.Ai.cR;have Y:=A4 aD;by_cases X:n=0
 ·subst X
  go_enter func34,ntmps34
  go_wp2_with (go_at_call 35;refine Y.k ?_;rintro w2 I;have W:=A4 I;obtain⟨-,aB,⟨O,aE,H,-⟩,-,-⟩:=I;have y6:=H.Ai.cR;have f6:=H.Ai.fz 6);go_ret;exact⟨rfl,SFto.Ek W.o 6 _ λlv h=>h.sR false⟩
 ·have hb:(n !=0)=true:=by simpa using X
  have e0:decide (n≠0)=true:=by simpa using X
  rw[e0]
  go_enter func34,ntmps34
  go_wp2_with (go_at_call 35;refine Y.k ?_;rintro w2 I;have W:=A4 I;obtain⟨-,aB,⟨O,aE,H,-⟩,-,-⟩:=I;have y6:=H.Ai.cR;have f6:=H.Ai.fz 6);go_ret;exact⟨rfl,SFto.Ek W.o 6 _ λlv h=>h.sR true⟩
def A1S(w:World)(x:Nat)(n:Int)(h:SF w sb ab b mu aA Ak Ac false L A P FT)(aD:Aj 43 #[A7 x] w (Au (A0 n) λw'=>Ax w FT w' (λw' z=>SF w' sb ab b mu aA Ak Ac false L' A' P' z))):
 Aj 34 #[A7 sb,.func (Fn.func 43) #[] #[A7 x]] w (Au (A0 n) λw'=>Ax w FT w' (λw' z=>SF w' sb ab b mu aA Ak Ac (decide (n≠0)) L' A' P' z)):=by
 obtain⟨lv,F0,h1,h2⟩:=h;have c6:=h1.Ai.cR;have Y:=A4 aD;by_cases X:n=0
 ·subst X
  go_enter func34,ntmps34
  go_wp2_with (go_at_call 43;refine Y.k ?_;rintro w2 I;have W:=A4 I;obtain⟨-,aB,⟨O,aE,H,-⟩,-,-⟩:=I;have y6:=H.Ai.cR;have f6:=H.Ai.fz 6);go_ret;exact⟨rfl,SFto.Ek W.o 6 _ λlv h=>h.sR false⟩
 ·have hb:(n !=0)=true:=by simpa using X
  have e0:decide (n≠0)=true:=by simpa using X
  rw[e0]
  go_enter func34,ntmps34
  go_wp2_with (go_at_call 43;refine Y.k ?_;rintro w2 I;have W:=A4 I;obtain⟨-,aB,⟨O,aE,H,-⟩,-,-⟩:=I;have y6:=H.Ai.cR;have f6:=H.Ai.fz 6);go_ret;exact⟨rfl,SFto.Ek W.o 6 _ λlv h=>h.sR true⟩
def A1T(w:World)(x:Nat)(n:Int)(h:SF w sb ab b mu aA Ak Ac false L A P FT)(aD:Aj 37 #[A7 x] w (Au (A0 n) λw'=>Ax w FT w' (λw' z=>SF w' sb ab b mu aA Ak Ac false L' A' P' z))):
 Aj 34 #[A7 sb,.func (Fn.func 37) #[] #[A7 x]] w (Au (A0 n) λw'=>Ax w FT w' (λw' z=>SF w' sb ab b mu aA Ak Ac (decide (n≠0)) L' A' P' z)):=by
 obtain⟨lv,F0,h1,h2⟩:=h;have c6:=h1.Ai.cR;have Y:=A4 aD;by_cases X:n=0
 ·subst X
  go_enter func34,ntmps34
  go_wp2_with (go_at_call 37;refine Y.k ?_;rintro w2 I;have W:=A4 I;obtain⟨-,aB,⟨O,aE,H,-⟩,-,-⟩:=I;have y6:=H.Ai.cR;have f6:=H.Ai.fz 6);go_ret;exact⟨rfl,SFto.Ek W.o 6 _ λlv h=>h.sR false⟩
 ·have hb:(n !=0)=true:=by simpa using X
  have e0:decide (n≠0)=true:=by simpa using X
  rw[e0]
  go_enter func34,ntmps34
  go_wp2_with (go_at_call 37;refine Y.k ?_;rintro w2 I;have W:=A4 I;obtain⟨-,aB,⟨O,aE,H,-⟩,-,-⟩:=I;have y6:=H.Ai.cR;have f6:=H.Ai.fz 6);go_ret;exact⟨rfl,SFto.Ek W.o 6 _ λlv h=>h.sR true⟩
end
end
end Go.Proofs.YtodcnkbblippnabGreatDoor
