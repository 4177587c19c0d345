/- Part 19 of a proof: walks of the program. -/
import Derived.Test.YtodcnkbblippnabGreatDoorPart18
namespace Go.Proofs.YtodcnkbblippnabGreatDoor
set_option maxRecDepth 100000
set_option maxHeartbeats 32000000
set_option linter.defProp false
open Go.Proofs.Tryz
section
open Go.RowKit
attribute [local go_sem ↓] CE
def SZ(segs:List (Int×List Pu))(oldest:Int)(l:List Pu)(r:List (List Pu)):BG segs oldest (l::r)=if l.any (λp=>decide (oldest<=p.2.1))=false then BG segs oldest r else
 match segs.find? λs=>decide (s.2=l) with
 | none=>((BG segs oldest r).1,l::(BG segs oldest r).2)
 | some s=>(s.1::(BG segs oldest r).1,(BG segs oldest r).2):=rfl
def SY(segs:List (Int×List Pu))(oldest:Int):∀ws:List (List Pu),(BG segs oldest ws).1.length+(BG segs oldest ws).2.length<=ws.length/\(∀n∈(BG segs oldest ws).1,∃s∈segs,s.1=n)/\(∀l∈(BG segs oldest ws).2,l∈ws)/\Da (BG segs oldest ws).2<=Da ws
 | []=>⟨Au _,(λn h=>absurd h List.not_mem_nil),(λl H=>H),Au _⟩
 | l::r=>by
  obtain⟨h1,z,E,h4⟩:=SY segs oldest r;rw[SZ,Nc];split
  ·exact⟨by simp;omega,z,λx d=>Br _ (E x d),by omega⟩
  ·split
   ·refine⟨by simp;omega,z,λx d=>?_,by rw[Nc];omega⟩;rcases BP.1 d with rfl|d
    ·exact BD
    ·exact Br _ (E x d)
   ·rename_i s I;refine⟨by simp;omega,λn h=>?_,λx d=>Br _ (E x d),by dsimp only;omega⟩;rcases BP.1 h with rfl|h
    ·exact⟨s,A20 I,rfl⟩
    ·exact z n h
def Nk{P:PD}:∀(E:List Int) (l:List (Int×List Pu)),P.segs E=some l->∀x∈l,x.1∈E
 | [],l,h=>by cases h;exact λx z=>by cases z
 | n::r,l,h=>by
  unfold PD.segs at h;cases z:P.Cq n with
  | none=>rw[z]at h;cases h
  | some q=>
   rw[z]at h;dsimp only at h;cases hy:P.segs r with
   | none=>rw[hy]at h;cases h
   | some y=>
    rw[hy]at h;cases h;intro x d;rcases BP.1 d with rfl|d
    ·exact BD
    ·exact Br _ (Nk r y hy x d)
section
variable {N ab b a c m B:Nat} {A:Ar} {P:PD} {FT:Nat->Prop}
structure Hm (w5 w:World) (B0:Nat) (vk vf:Value) (kk:List Int) (ff:List (List Pu)):Prop where
 An:A3 (λ_=>False) w5 w
 H8:Dw w vk kk
 Ju:∀g,vk.ownBlock=some g->w5.heap.size<=g
 AT:∃fvs:List Value,fvs.length=ff.length/\w.ownsRow 0 72 1 vf ff.length fvs/\(∀g,vf.ownBlock=some g->w5.heap.size<=g)/\(∀k (h1:k<fvs.length) (h2:k<ff.length),AY w5 (fvs[k]'h1) (ff[k]'h2))/\∀x∈fvs,∀g,x.ownBlock=some g->B0<=g
def Hm.aS{Y w w':World}{H:Nat}{L I:Value}{O:List Int}{W:List (List Pu)}(h:Hm Y w H L I O W)(E:A3 Aa w w'):Hm Y w' H L I O W:=by
 obtain⟨d,f1,f2,f3,f4,f5⟩:=h.AT;exact⟨h.An.tr E,Ay h.H8 λg z=>E.Al g (Az h.H8 z) (λh=>h),h.Ju,d,f1,Ay f2 λg z=>E.Al g (Az f2 z) (λh=>h),f3,f4,f5⟩
def Hm.fJ{w5 w w':World}{aA:Nat}{L E Y:Value}{z:List Int}{ff:List (List Pu)}{n:Int}(h:Hm w5 w aA L Y z ff)(I:App w w' 3 1 L E (z.length+1) (DF z++DF [n])):Hm w5 w' aA E Y (z++[n]) ff:=by
 have hc:=I.An (S:=λk=>L.oB k) λ_ h=>h;obtain⟨O,f1,f2,f3,f4,f5⟩:=h.AT;refine⟨h.An.Av hc λx W hlt=>by have:=h.Ju x W;omega,?_,λg d=>?_,O,f1,Ay f2 λg d=>hc.Al g (Az f2 d) λW=>I9 f2 h.H8 (by decide) d W,f3,f4,f5⟩
 ·have e:(z++[n]).length=z.length+1:=by simp
  unfold Dw;rw[Kz,e];exact I.AF
 ·rcases I.Cy with H|H
  ·rw[H]at d;exact h.Ju g d
  ·rw[H]at d;cases d;exact h.An.Ak
def Hm.addF{Y w w':World}{aA:Nat}{vk I O x:Value}{kk:List Int}{z:List (List Pu)}{l:List Pu}(h:Hm Y w aA vk I kk z)(W:AY Y x l)(aD:∀g,x.ownBlock=some g->aA<=g)(d:List Value)(f1:d.length=z.length)(f2:w.ownsRow 0 72 1 I z.length d)(f3:∀g,I.ownBlock=some g->Y.heap.size<=g)(f4:∀k (H:k<d.length) (h2:k<z.length),AY Y (d[k]'H) (z[k]'h2))(f5:∀x∈d,∀g,x.ownBlock=some g->aA<=g)(hA:App w w' 72 1 I O (z.length+1) (d++[x])):Hm Y w' aA vk O kk (z++[l]):=by
 have hc:=hA.An (S:=λk=>I.oB k) λ_ h=>h;refine⟨h.An.Av hc λx W hlt=>by have:=f3 x W;omega,Ay h.H8 λg E=>hc.Al g (Az h.H8 E) λW=>I9 h.H8 f2 (by decide) E W,h.Ju,d++[x],by simp[f1],?_,λg E=>?_,λk H h2=>?_,λy L g E=>?_⟩
 ·have e:(z++[l]).length=z.length+1:=by simp
  rw[e];exact hA.AF
 ·rcases hA.Cy with H|H
  ·rw[H]at E;exact f3 g E
  ·rw[H]at E;cases E;exact h.An.Ak
 ·by_cases hk:k<z.length
  ·rw[EZ (show k<d.length by omega),EZ hk];exact f4 k (by omega) hk
  ·(have aB:k=z.length:=by simp at h2;omega);have e1:(d++[x])[k]'H=x:=by
    (have:k=d.length:=by omega);subst this;simp
   (have e2:(z++[l])[k]'h2=l:=by subst aB;simp);rw[e1,e2];exact W
 ·rcases AV.1 L with L|L
  ·exact f5 y L g E
  ·rw[Ij.1 L]at E;exact aD g E
end
section
variable {N ab b a c m B:Nat} {A:Ar} {P:PD} {FT:Nat->Prop}
def A2e(hS:Fj N)(hN:N<=134217728)(w:World)(h:AD w ab b A P FT)(dG:∀k,FT k->k<w.heap.size)(Ai oldest:Int)(hw:1<=Ai/\Ai<=4611686018427387904)(hall:∀segs,P.segs A.ix.segs=some segs->(segs.flatMap (·.2)++(P.puts A.j.Aj).1).length<=N/\∀p∈segs.flatMap (·.2)++(P.puts A.j.Aj).1,Bg p)(aI:A.ix.segs.length<=1073741824/\A.ix.segs.length*m<=4398046511104)(cG:0<=A.A8/\A.A8+N<=9223372036854775807)(cJ:AW (A.j.A8+1))(bF:∀x∈A.ix.segs,AW x)(hF:Fit P a c m)(hl:CM (a+N+2) (c+2*a+2*N+4) (m+37*N+12))(hm:A.j.Aj.length*m<=70368744177664)(hn:∀n∈A.ix.segs,CD n)(bI:∀n∈A.j.Aj,CD n)(b2:A.j.Aj.length<=1073741824)(hL:Lets B w)(cY:∀k,FT k->B<=k):
 Ah 38 #[A5 ab,A0 Ai,A0 oldest] w (Am (A0 (A.aQ P Ai oldest).1) λw'=>Ap w FT w' (λw' aK=>AD w' ab b (A.aQ P Ai oldest).2.1 (A.aQ P Ai oldest).2.2 aK)):=by
 obtain⟨i0,hi,eZ,eI,eQ⟩:=E4 I4;obtain⟨j0,hj,e2,eW,eC⟩:=Oj;obtain⟨s0,Y,eX,dV,eV⟩:=Rq;obtain⟨xb,jb,sv,ov,lv,jo,Ft,hv,cT⟩:=id h;have bJ:CM a c m:=⟨by have:=hl.a;omega,by have:=hl.c;omega,by have:=hl.m;omega⟩;have k0:A3 Aa w (w.aC #[A0 oldest] 3):=(A3.I _ w).aj _;have cA:(w.aC #[A0 oldest] 3).heap[w.heap.size]?=some (.cells #[A0 oldest] 3 (0,0)):=BK w _;have dJ:Hid (P.segs A.ix.segs=none->A.aQ P Ai oldest=(7,A,P)):=λh=>by unfold Ar.aQ;rw[h]
 have dH:Hid (∀segs,P.segs A.ix.segs=some segs->(P.puts A.j.Aj).2≠0->A.aQ P Ai oldest=((P.puts A.j.Aj).2,A,P)):=λsegs h hp=>by unfold Ar.aQ;rw[h];dsimp only;rw[Af hp]
 have dL:Hid (∀segs,P.segs A.ix.segs=some segs->(P.puts A.j.Aj).2=0->A.aQ P Ai oldest=A.ay P ((BG segs oldest (Bx Ai (segs.flatMap (·.2)++(P.puts A.j.Aj).1))).1.mergeSort λx y=>decide (x<=y)) (BG segs oldest (Bx Ai (segs.flatMap (·.2)++(P.puts A.j.Aj).1))).2):=λsegs h hp=>by
  unfold Ar.aQ;rw[h];dsimp only;rw[Ac (by simp[hp])]
 obtain⟨R,hR⟩:∃R,A.aQ P Ai oldest=R:=⟨_,rfl⟩;rw[hR]at dJ dH dL ⊢;have H:=A1 h;have aJ:=A1 dG;have aB:Hid (∀E n,A3 Aa w E->R=(n,A,P)->R.1=n/\Ap w FT E (λw' aK=>AD w' ab b R.2.1 R.2.2 aK)):=λE n hc he=>by
  subst he;exact⟨rfl,hc.ad λ_ _ h=>h.elim,FT,H.o.aJ hc,λk hk=>Bm (aJ.o k hk) hc.Ak,λk hk=>.inl hk⟩
 have eY:=A1 (Wz _ (hv.aJ k0) hF bJ hn aI.1 (hL.aS k0));have eD:Hid (∀E,A3 Aa w E->_):=λE hc=>ND E (hv.aJ hc).dk (hv.aJ hc).lt (hv.aJ hc).jn hF bJ hm bI (hL.aS hc);have e9:Hid (∀E,A3 Aa w E->E.cell? (Ab ab 2)=some (A5 jb)):=λE hc=>(hv.aJ hc).Ag.c2
 have eF:Hid (∀segs,P.segs A.ix.segs=some segs->∀E eA v,Gd E eA b v segs->Ah 53 #[v] E λe w'=>∃v',e=.returned v'/\AY w' v' (segs.flatMap (·.2))/\(∀g,v'.oB g->E.heap.size<=g)/\A3 Aa E w'):=λsegs Y E eA v z=>by
  obtain⟨q1,q2⟩:=Nl hF A.ix.segs segs Y;exact RA E eA v segs z (by rw[q1];exact aI.1) q2 (by rw[q1];exact aI.2)
 have a9:Hid (∀segs,P.segs A.ix.segs=some segs->∀E v,AY E v (segs.flatMap (·.2)++(P.puts A.j.Aj).1)->_):=λsegs Y E v z=>Ti hS hN E v Ai _ (hall segs Y).1 z (λp hp=>((hall segs Y).2 p hp).2.1) hw
 have bD:Hid (∀segs,P.segs A.ix.segs=some segs->(P.puts A.j.Aj).2=0->∀E kv fv,A3 Aa w E->Dw E kv ((BG segs oldest (Bx Ai (segs.flatMap (·.2)++(P.puts A.j.Aj).1))).1.mergeSort λx y=>decide (x<=y))->(∀g,kv.oB g->w.heap.size<=g)->P8 E fv (BG segs oldest (Bx Ai (segs.flatMap (·.2)++(P.puts A.j.Aj).1))).2 FT->
  Ah 66 #[A5 ab,kv,fv] E (Am (A0 R.1) λw'=>Ap w FT w' (λw' aK=>AD w' ab b R.2.1 R.2.2 aK))):=λsegs Y hp E kv fv hc hk bP hf=>by
  obtain⟨z1,z2,z3⟩:=On Ai (segs.flatMap (·.2)++(P.puts A.j.Aj).1);obtain⟨y1,y2,y3,y4⟩:=SY segs oldest (Bx Ai (segs.flatMap (·.2)++(P.puts A.j.Aj).1));obtain⟨n1,n2⟩:=hall segs Y;have aZ:∀n∈(BG segs oldest (Bx Ai (segs.flatMap (·.2)++(P.puts A.j.Aj).1))).1.mergeSort (λx y=>decide (x<=y)),n∈A.ix.segs:=λn hn=>by
   obtain⟨s,dR,rfl⟩:=y2 n (A21.1 hn);exact Nk _ _ Y s dR
  rw[dL.o segs Y hp];have bT:((BG segs oldest (Bx Ai (segs.flatMap (·.2)++(P.puts A.j.Aj).1))).1.mergeSort (λx y=>decide (x<=y))).length=(BG segs oldest (Bx Ai (segs.flatMap (·.2)++(P.puts A.j.Aj).1))).1.length:=ME _
  refine(QR E (H.o.aJ hc) (λk hk=>Bm (aJ.o k hk) hc.Ak) kv _ hk (λg L=>⟨λz=>by have:=bP g L;have:=aJ.o g z;omega,AQ hL.1 (bP g L)⟩) fv _ hf
   (λl hl=>⟨λp hp=>n2 p ((z3 l (y3 l hl)).1 p hp),by have:=(z3 l (y3 l hl)).2;omega⟩) ⟨cG.1,by omega⟩ cJ (λx z=>bF x (aZ x z)) hF ⟨by have:=hl.a;omega,by have:=hl.c;omega,by have:=hl.m;rw[bT];omega⟩ (by rw[bT];omega) hn bI (λx z=>hn x (aZ x z)) aI.1 b2 (hL.aS hc) cY).mono ?_
  rintro e w'⟨h1,h2⟩;exact⟨h1,Ap.a8 (hc.ad λ_ _ h=>h.elim) (λk hk=>hk.elim .inl λh=>.inr (bP k h)) h2⟩
 have a5:Hid (∀segs,P.segs A.ix.segs=some segs->(segs.flatMap (·.2)++(P.puts A.j.Aj).1).length<=134217728/\(Bx Ai (segs.flatMap (·.2)++(P.puts A.j.Aj).1)).length<=134217728):=λsegs Y=>by
  have h1:=(hall segs Y).1;have h2:=(On Ai (segs.flatMap (·.2)++(P.puts A.j.Aj).1)).1;omega
 have dM:Hid (∀segs,P.segs A.ix.segs=some segs->∀x∈segs,AW x.1):=λsegs Y x z=>bF _ (Nk _ _ Y x z);have eK:=A1 k0;have dD:=A1 cA;clear hR h hv dG cT hall aI cG cJ bF hF hl hm hn bI b2 hL cY bJ k0 cA hw hS
 go_enter func38,ntmps38
 go_wp2_with (fail);refine eY.m ?_;rintro e w1 (⟨Y,rfl,hc1⟩|⟨segs,v1,Y,rfl,hv1,hc1⟩)
 ·have dE:=A1 (aB.o w1 7 (eK.o.tr hc1) (dJ.o Y));clear Y hc1 eY dJ dH dL aB eD eF a9 bD;go_wp2;go_ret;exact⟨by rw[dE.o.1];rfl,dE.o.2⟩
 have aL:=A1 Y;have dF:=A1 hv1;have dK:Hid (A3 Aa w w1):=eK.o.tr hc1;have b1:Hid (w1.cell? (Ab w.heap.size 0)=some (A0 oldest)):=hc1.ao (by simp only[World.cell?,dD.o];rfl);have aM:=A1 (eD.o w1 dK.o);have d2:=e9.o w1 dK.o;have aP:=A1 (dH.o segs aL.o);have I:=A1 (bD.o segs aL.o);have aA:=A1 (a9.o segs aL.o);have O:=A1 (a5.o segs aL.o);have aR:=A1 (eF.o segs aL.o);clear Y hv1 hc1 eY dJ dH dL eD eF a9 bD a5 dM eK dD;obtain⟨ps,bV⟩:∃ps,(P.puts A.j.Aj).1=ps:=⟨_,rfl⟩;obtain⟨pe,cU⟩:∃pe,(P.puts A.j.Aj).2=pe:=⟨_,rfl⟩;rw[bV]at aM I aA O;rw[cU]at aM I aP;clear bV cU;go_wp2_with (fail);refine aM.m ?_;rintro e w2⟨v2,rfl,aQ,dC,aH⟩;by_cases hp:pe=0
 case neg=>
  have hpb:(pe !=0)=true:=by simpa using hp
  have dE:=A1 (aB.o w2 pe (dK.o.tr aH) (aP.o hp));clear aQ dC aH aM I aA aR aB aP hp;go_wp2;go_ret;exact⟨by rw[dE.o.1];rfl,dE.o.2⟩
 case pos=>
 subst hp;obtain⟨pl,bY⟩:∃pl,segs.flatMap (·.2)=pl:=⟨_,rfl⟩;rw[bY]at I aA O aR;have fD:Hid (A3 Aa w w2):=dK.o.tr aH;have bG:=A1 (dF.o.aJ aH);have bS:=A1 (aH.ao b1.o);have b6:=A1 (aR.o w2 _ v1 bG.o);obtain⟨v2a,v2c,rfl,v21,eJ,-⟩:=B9 aQ;unfold maxLen at eJ;have bZ:=A1 aQ;clear bY aQ dC aH aM aB aP aR dF b1 d2;go_wp2_with (fail);refine b6.m ?_;rintro e w3⟨v3,rfl,bM,cV,bH⟩;obtain⟨cD,cF,rfl,v31,dW,-⟩:=B9 bM;unfold maxLen at dW;have cI:=A1 bM;have b3:=A1 cV;have cN:=A1 bH;have a2:=A1 (Src.bN underlying72 (Ay bZ.o λg L=>bH.Al g (Az bZ.o L) (λh=>h)) (HS ps));have bR:Hid ((pl.length+ps.length)*24<=140737488355328):=by have:=O.o.1;rw[AZ]at this;unfold Hid;omega
 clear bM cV bH b6;go_wp2_with (at_builtin;refine D9 rfl (.tmp 35) (.tmp 36) 72 72 rfl 90 i0 _ 3 24 underlying72 hi eZ eI eQ rfl (by decide) (.slice cD pl.length cF) pl.length (Ba pl) (by rfl) cI.o _ ps.length _ (by rfl) a2.o bR.o ?_;intro a4 cS w4 hA;have dZ:=A1 hA;clear hA);have b7:=dZ.o.An (S:=λk=>(Value.slice cD pl.length cF).oB k) λ_ h=>h;have bW:AY w4 (.slice a4 (pl.length+ps.length) cS) (pl++ps):=by
  have e:(pl++ps).length=pl.length+ps.length:=by simp
  unfold AY;rw[Iz,e];exact dZ.o.AF
 have aY:A3 Aa w2 w4:=cN.o.Av b7 λx z eL=>by have:=b3.o x z;omega
 have e6:=A1 (aA.o w4 _ bW);have cB:=A1 (bG.o.aJ aY);have cQ:=A1 (aY.ao bS.o);have e3:Hid (A3 Aa w w4):=fD.o.tr aY;clear b7 bW aY aA bG bS dZ a2 bR cN b3 cI;refine e6.m ?_;rintro e w5⟨v5,vs,rfl,aS,aV⟩;obtain⟨ws,bX⟩:∃ws,Bx Ai (pl++ps)=ws:=⟨_,rfl⟩;rw[bX]at aS I O;obtain⟨v5a,v5c,rfl,v51,eP,bU,-⟩:=B9 aS.Bu;unfold maxLen at eP;have aU:=A1 aS;have fC:=A1 bU;have cE:=A1 (cB.o.aJ aV);have dA:=A1 (aV.ao cQ.o);have dU:Hid (A3 Aa w w5):=e3.o.tr aV;have bK:Hid (ws.length<=134217728):=O.o.2;obtain⟨ob,b9⟩:∃ob,w.heap.size=ob:=⟨_,rfl⟩;rw[b9]at dA ⊢;clear bX aS bU aV e6 cB cQ b9;go_wp2;go_loopw [10,11,41] (λvk vf iv wr=>∃(k:Nat) (kk:List Int) (ff:List (List Pu)),iv=A0 k/\k<=ws.length/\kk.length+ff.length<=k/\Hid (Hm w5 wr w4.heap.size vk vf kk ff/\BG segs oldest ws=(kk++(BG segs oldest (ws.drop k)).1,ff++(BG segs oldest (ws.drop k)).2))) (λ_ _ iv _=>ws.length-(intOf iv).toNat)
 case atStart=>exact⟨0,[],[],rfl,by omega,by simp,⟨A3.I _ _,CL _ _ _ _,λg L=>by simp[Value.ownBlock]at L,[],rfl,CL _ _ _ _,λg L=>by simp[Value.ownBlock]at L,λk h1=>by simp at h1,λx z=>by cases z⟩,by simp⟩
 case round=>
  obtain⟨k,kk,ff,rfl,hk,a6,hI⟩:=hrel;obtain⟨i1,i2⟩:=hI.o;obtain⟨ka,kc,rfl,kc1,eS,-⟩:=B9 i1.H8;obtain⟨bL,f1,f2,f3,f4,f5⟩:=i1.AT;obtain⟨fa,fc,rfl,fc1,eB,-⟩:=B9 f2;unfold maxLen at eS eB;by_cases aG:k<ws.length
  ·(have aF:k<vs.length:=by have:=aU.o.B8;omega);obtain⟨g,rfl⟩:=fC.o (by omega);have hc:=BF aU.o.Bu (g:=g) rfl (show vs[k]?=some (vs[k]'aF) from E2 aF);have z:=aU.o.ls k aF aG;have bA:=aU.o.li (vs[k]'aF) (BV aF);have a7:=Fm aG;obtain⟨x,cM⟩:∃x,(vs[k]'aF)=x:=⟨_,rfl⟩;obtain⟨l,cC⟩:∃l,(ws[k]'aG)=l:=⟨_,rfl⟩;rw[cM]at hc z bA;rw[cC]at z a7;rw[a7,SZ]at i2;obtain⟨xa,xc,rfl,x1,x2,-⟩:=B9 z;have e1:=i1.An.ao hc;have kA:A3 Aa wr (wr.aC #[.slice xa l.length xc] 72):=(A3.I _ wr).aj _;have aO:A3 Aa w5 (wr.aC #[.slice xa l.length xc] 72):=i1.An.tr kA;have pA:(wr.aC #[.slice xa l.length xc] 72).heap[wr.heap.size]?=some (.cells #[.slice xa l.length xc] 72 (0,0)):=BK wr _;have pc:(wr.aC #[.slice xa l.length xc] 72).cell? (Ab wr.heap.size 0)=some (.slice xa l.length xc):=FN pA;have cO:=A1 (A1o _ _ l (Ay z λg L=>aO.Al g (Az z L) (λh=>h)) ob oldest (aO.ao dA.o));have a3:=A1 i1;have eT:=A1 i2;have eN:=A1 f1;have bQ:=A1 f2;have eR:=A1 f3;have dI:=A1 f4;have dS:=A1 f5;have eU:=A1 z;have dY:=A1 bA;have fB:=A1 aO;have cL:=A1 kA;have e5:=A1 pc;(have dN:(k:Int)<(ws.length:Int):=by omega);have hk0:=Ce k;obtain⟨d,hd⟩:∃d,l.any (λp=>decide (oldest<=p.2.1))=d:=⟨_,rfl⟩;rw[hd]at cO eT;clear hI i1 i2 f1 f2 f3 f4 f5 hc z bA a7 cM cC kA aO pA hd;cases d with
   | false=>
    (have a1:Hid (BG segs oldest ws=(kk++(BG segs oldest (ws.drop (k+1))).1,ff++(BG segs oldest (ws.drop (k+1))).2)):=by have:=eT.o;rwa [Af rfl]at this);go_wp2_with (fail);refine cO.m ?_;rintro e w6⟨rfl,aD⟩;have eG:=A1 (a3.o.aS (cL.o.tr aD));clear aD cO pc;go_wp2;go_roundw
    case rel=>exact⟨k+1,kk,ff,by go_num,aG,My a6,eG.o,a1.o⟩
    case measure=>simp[intOf];omega
   | true=>
    have a1:=A1 eT.o;rw[Ac (by simp)]at a1;obtain⟨aX,g1,g2,g3,g4⟩:=cE.o;obtain⟨va,vc,rfl,va1,dO,b0,-⟩:=B9 g2;unfold maxLen at dO;have e8:=A1 b0;have eE:=A1 g1;have dQ:=A1 g2;have e0:=A1 g4;clear b0 g1 g2 g3 g4;go_wp2_with (fail);refine cO.m ?_;rintro e w6⟨rfl,aD⟩;have aN:A3 Aa w5 w6:=fB.o.tr aD;have eM:=A1 (ZV w6 _ segs (cE.o.aJ aN) wr.heap.size (.slice xa l.length xc) l (aD.ao e5.o) (Ay eU.o λg L=>aN.Al g (Az eU.o L) (λh=>h)));have cZ:Hid (A3 Aa wr w6):=cL.o.tr aD;have eH:=A1 aN;have eO:=A1 (aD.ao e5.o);clear aD cO aN pc;go_wp2_with (fail);refine eM.m ?_;rintro e w7⟨(⟨rfl,hf⟩|⟨k2,b8,rfl,hf⟩),W⟩
    ·rw[hf]at a1;(have dP:Hid (BG segs oldest ws=(kk++(BG segs oldest (ws.drop (k+1))).1,(ff++[l])++(BG segs oldest (ws.drop (k+1))).2)):=by have:=a1.o;unfold Hid;rw[this];simp);have pc7:=W.ao eO.o;have k7:A3 Aa wr (w7.aC #[.slice xa l.length xc] 72):=(cZ.o.tr W).aj _;have aT:=A1 (a3.o.aS k7);have a0:=A1 (Ay bQ.o λg L=>k7.Al g (Az bQ.o L) (λh=>h));have bC:=A1 (Src.bc (size:=1) (B:=w7.heap.size) underlying131 w7 #[.slice xa l.length xc] 72 (by simp) 1 1 rfl (by simp[Value.oneCell']));(have bO:Hid ((ff.length+1)*24<=140737488355328):=by have:=bK.o;unfold Hid;omega);clear hf W k7 eM;go_wp2_with (at_builtin;refine D9 rfl (.tmp 54) (.tmp 56) 131 131 rfl 72 s0 _ 1 24 underlying131 Y eX dV eV rfl (by decide) (.slice fa ff.length fc) ff.length bL (by rfl) a0.o _ 1 _ (by rfl) bC.o bO.o ?_;intro a8 cX w8 hA;have bE:=A1 hA;clear hA);have bB:=A1 (aT.o.addF eU.o dY.o bL eN.o a0.o eR.o dI.o dS.o bE.o);go_roundw
     case rel=>exact⟨k+1,kk,ff++[l],by go_num,aG,by rw[AZ];exact Pe a6,bB.o,dP.o⟩
     case measure=>simp[intOf];omega
    ·rw[hf]at a1;obtain⟨gv,rfl⟩:=e8.o (by omega);(have aW:k2<aX.length:=by have:=eE.o;omega);have aE:A3 Aa w5 w7:=eH.o.tr W;have bN:=(e0.o k2 aW b8).aJ aE;have dT:=aE.ao (BF dQ.o (g:=gv) rfl (show (Gl aX)[k2]?=some (A5 (aX[k2]'aW)) by simp[Gl,aW]));obtain⟨gb,b4⟩:∃gb,(aX[k2]'aW)=gb:=⟨_,rfl⟩;rw[b4]at bN dT;obtain⟨sg,dB⟩:∃sg,(segs[k2]'b8)=sg:=⟨_,rfl⟩;rw[dB]at bN a1;obtain⟨n,sl⟩:=sg;obtain⟨pv,hb,-,-,-⟩:=bN;have c3:=hb.c3;dsimp only at c3;(have dP:Hid (BG segs oldest ws=((kk++[n])++(BG segs oldest (ws.drop (k+1))).1,ff++(BG segs oldest (ws.drop (k+1))).2)):=by have:=a1.o;unfold Hid;rw[this];simp);have k7:A3 Aa wr (w7.aC #[A0 n] 3):=(cZ.o.tr W).aj _;have aT:=A1 (a3.o.aS k7);have bC:=A1 (Src.bc (size:=1) (B:=w7.heap.size) underlying120 w7 #[A0 n] 3 (by simp) 1 1 rfl (Jv [n]));(have bO:Hid ((kk.length+1)*8<=140737488355328):=by have:=bK.o;unfold Hid;omega);(have hk2i:(k2:Int)<(segs.length:Int):=by omega);have hk20:=Ce k2;clear hf W k7 eM hb b4 dB aE;go_wp2_with (at_builtin;refine D9 rfl (.tmp 58) (.tmp 66) 120 120 rfl 3 j0 _ 1 8 underlying120 hj e2 eW eC rfl (by decide) (.slice ka kk.length kc) kk.length (DF kk) (by rfl) aT.o.H8 _ 1 _ (by rfl) bC.o bO.o ?_;intro a8 cX w8 hA;have bE:=A1 hA;clear hA);have bB:=A1 (aT.o.fJ bE.o);go_roundw
     case rel=>exact⟨k+1,kk++[n],ff,by go_num,aG,by rw[AZ,Nat.add_right_comm];exact Pe a6,bB.o,dP.o⟩
     case measure=>simp[intOf];omega
  ·(have dX:k=ws.length:=by omega);subst dX;rw[Gg]at i2;(have cP:BG segs oldest ws=(kk,ff):=by simpa[BG] using i2);rw[cP]at I;(have dN:¬((ws.length:Int)<(ws.length:Int)):=by omega);have e4:=A1 (Wr wr _ kk i1.H8 (by have:=bK.o;omega));have a3:=A1 i1;have eN:=A1 f1;have bQ:=A1 f2;have eR:=A1 f3;have dI:=A1 f4;have dS:=A1 f5;clear hI i1 i2 f1 f2 f3 f4 f5 cP;go_wp2_with (fail);refine e4.m ?_;rintro e w7⟨rfl,b5,W⟩;(have aE:A3 Aa w5 w7:=a3.o.An.Av W λx z eL=>by have:=a3.o.Ju x z;omega);have cH:A3 Aa w w7:=dU.o.tr aE
   have e7:=A1 (I.o trivial w7 _ (.slice fa ff.length fc) cH b5 (λg L=>AQ dU.o.Ak (a3.o.Ju g L))
    ⟨bL,eN.o,Ay bQ.o λg L=>W.Al g (Az bQ.o L) (λz=>I9 bQ.o a3.o.H8 (by decide) L z),
     λk h1 h2=>Ay (dI.o k h1 h2) λg L=>aE.Al g (Az (dI.o k h1 h2) L) (λh=>h),
     λg L z=>by have:=eR.o g L;have:=aJ.o g z;have:=dU.o.Ak;omega,
     λx z g L hf=>by have:=dS.o x z g L;have:=aJ.o g hf;have:=e3.o.Ak;omega⟩)
   clear b5 W aE cH e4 I;go_wp2_with (fail);refine e7.m ?_;rintro e w8⟨rfl,hI⟩;have fA:=A1 hI;clear hI e7;go_wp2;go_ret;exact⟨rfl,fA.o⟩
end
end
section
open Go.RowKit
structure SV (w:World) (sb ab b:Nat) (mu aA aD A9:Int) (ro:Bool) (lv:Nat->Value) (L:Nat->List Pt) (A:Ar) (P:PD) (F0:Nat->Prop):Prop where
 Ag:BB w sb mu (.pointer (some ⟨ab,0,none⟩)) aA aD A9 ro lv
 Fu:E5 w lv L
 ar:AD w ab b A P F0
 lt:∀k,F0 k->k<w.heap.size
 ns:¬F0 sb
 nr:∀k,Et lv k->¬F0 k
def SF(w:World)(sb ab b:Nat)(mu aA aD A9:Int)(ro:Bool)(L:Nat->List Pt)(A:Ar)(P:PD)(FT:Nat->Prop):Prop:=
 ∃lv F0,SV w sb ab b mu aA aD A9 ro lv L A P F0/\∀k,F0 k\/Own sb lv k->FT k
section
variable {w w' w2:World} {sb ab b:Nat} {mu aE aA aD A9 aB:Int} {ro aF:Bool} {lv lv':Nat->Value} {L L':Nat->List Pt} {A A':Ar} {P P':PD} {F0 FT:Nat->Prop}
def SV.e4(h:SV w sb ab b mu aA aD A9 ro lv L A P F0){k:Nat}(d:F0 k\/Own sb lv k):k<w.heap.size:=by
 rcases d with d|rfl|d
 ·exact h.lt k d
 ·exact h.Ag.lt
 ·exact h.Fu.lt d
def SV.nb(h:SV w sb ab b mu aA aD A9 ro lv L A P F0):¬Et lv sb:=h.Fu.ne h.Ag (by decide)
def SV.An(h:SV w sb ab b mu aA aD A9 ro lv L A P F0){S:Nat->Prop}(z:A3 S w w')(E:∀k,F0 k\/Own sb lv k->¬S k):SV w' sb ab b mu aA aD A9 ro lv L A P F0:=
 ⟨h.Ag.An z (E sb (.inr (.inl rfl))),h.Fu.An z λg H=>E g (.inr (.inr H)),h.ar.aP (z.aI (λk d=>h.lt k d) λk d=>E k (.inl d)) z.Ak,
  λk d=>Bm (h.lt k d) z.Ak,h.ns,h.nr⟩
def SV.aJ(h:SV w sb ab b mu aA aD A9 ro lv L A P F0)(d:A3 Aa w w'):SV w' sb ab b mu aA aD A9 ro lv L A P F0:=h.An d λ_ _ h=>h
def SF.aJ(h:SF w sb ab b mu aA aD A9 ro L A P FT)(E:A3 Aa w w'):SF w' sb ab b mu aA aD A9 ro L A P FT:=by
 obtain⟨lv,F0,z,d⟩:=h;exact⟨lv,F0,z.aJ E,d⟩
def SV.bL(h:SV w' sb ab b mu aA aD A9 ro lv' L' A' P' F0){S:Nat->Prop}(I:A3 S w w')(E:∀k,k<w.heap.size->S k->FT k)(H:∀k,F0 k\/Own sb lv' k->FT k\/w.heap.size<=k):
 Ap w FT w' (λw' d=>SF w' sb ab b mu aA aD A9 ro L' A' P' d):=
 ⟨I.ad E,λk=>F0 k\/Own sb lv' k,⟨lv',F0,h,λ_ h=>h⟩,λ_ z=>h.e4 z,H⟩
def SV.ag(h:SV w sb ab b mu aA aD A9 ro lv L A P F0)(z:KZ w w' sb aE (.pointer (some ⟨ab,0,none⟩)) aA aD aB aF lv lv' L'):
 SV w' sb ab b aE aA aD aB aF lv' L' A P F0:=
 ⟨z.Ag,z.Fu,h.ar.aP (z.An.aI (λk d=>h.lt k d) λk d E=>by
  rcases E with rfl|E
  ·exact h.ns d
  ·exact h.nr k E d) z.An.Ak,λk d=>Bm (h.lt k d) z.An.Ak,h.ns,λk d E=>by
  rcases z.AF k d with H|H
  ·exact h.nr k H E
  ·have:=h.lt k E;omega⟩
def SV.dV(h:SV w sb ab b mu aA aD A9 ro lv L A P F0)(d:∀k,F0 k\/Own sb lv k->FT k)(H:KZ w w' sb aE (A5 ab) aA aD aB aF lv lv' L'):
 Ap w FT w' (λw' E=>SF w' sb ab b aE aA aD aB aF L' A P E):=
 (h.ag H).bL H.An (λk _ z=>d k (.inr z)) λk z=>by
  rcases z with z|rfl|z
  ·exact .inl (d k (.inl z))
  ·exact .inl (d _ (.inr (.inl rfl)))
  ·exact(H.AF k z).imp (λh=>d k (.inr (.inr h))) id
def SV.ea(h:SV w sb ab b mu aA aD A9 ro lv L A P F0)(d:∀k,F0 k\/Own sb lv k->FT k)(Y:Ap w F0 w' (λw' E=>AD w' ab b A' P' E)):
 Ap w FT w' (λw' E=>SF w' sb ab b mu aA aD A9 ro L A' P' E):=by
 obtain⟨O,aG,h1,h2,I⟩:=Y;have hb:=h.Ag.lt;refine(SV.bL (w':=w') (lv':=lv) (F0:=aG) ⟨h.Ag.An O h.ns,h.Fu.An O h.nr,h1,h2,λW=>?_,λk z W=>?_⟩ O (λk _ z=>d k (.inl z)) λk z=>?_)
 ·rcases I _ W with H|H
  ·exact h.ns H
  ·omega
 ·rcases I _ W with H|H
  ·exact h.nr k z H
  ·have:=h.Fu.lt z;omega
 ·rcases z with z|z
  ·exact(I k z).imp (λh=>d k (.inl h)) id
  ·exact .inl (d k (.inr z))
def SF.DW(h:SF w sb ab b mu aA aD A9 ro L A P FT)(o:Nat)(u:Value)(H:∀lv,BB w sb mu (.pointer (some ⟨ab,0,none⟩)) aA aD A9 ro lv->BB (w.setCell ⟨sb,o,none⟩ u) sb aE (.pointer (some ⟨ab,0,none⟩)) aA aD aB aF lv):
 Ap w FT (w.setCell ⟨sb,o,none⟩ u) (λw' z=>SF w' sb ab b aE aA aD aB aF L A P z):=by
 obtain⟨lv,F0,d,E⟩:=h;exact d.dV E (KZ.of (H lv d.Ag) d.Fu ((A3.I (One sb) w).aq rfl o u) d.nb)
def SFto.DW(h:Ap w FT w' (λw' d=>SF w' sb ab b mu aA aD A9 ro L A P d))(o:Nat)(u:Value)(E:∀lv,BB w' sb mu (.pointer (some ⟨ab,0,none⟩)) aA aD A9 ro lv->BB (w'.setCell ⟨sb,o,none⟩ u) sb aE (.pointer (some ⟨ab,0,none⟩)) aA aD aB aF lv):
 Ap w FT (w'.setCell ⟨sb,o,none⟩ u) (λw' d=>SF w' sb ab b aE aA aD aB aF L A P d):=
 h.Av λ_ z _ _=>z.DW o u E
def Fc(L:Nat->List Pt)(o:Int)(k:Nat)(t v:Int):Nat->List Pt:=if o<=t then HN L k (Cs (L k) t v) else L
def Ob(L:Nat->List Pt)(o:Int)(n:Nat)(t v:Int)(k:Nat):(Fc L o n t v k).length<=(L k).length+1:=by
 unfold Fc;split
 ·unfold HN;split
  ·rename_i e;subst e;exact(Ol _ _ _).2
  ·omega
 ·omega
def T0(w:World)(p:Pu)(h:SF w sb ab b mu aA aD A9 ro L A P FT)(Y:0<=p.1/\p.1<8)(E:∀k,k<8->(L k).length<1099511627000)(hl:1<=aA/\aA<=4611686018427387904)(hc:AW A9):
 Ah 30 #[A5 sb,Dr p] w (Am (.tuple #[]) λw'=>Ap w FT w' (λw' O=>SF w' sb ab b mu aA aD A9 ro (Fc L (Bv A9 aA) p.1.toNat p.2.1 p.2.2) A P O)):=by
 obtain⟨k,t,v⟩:=p;obtain⟨lv,F0,d,W⟩:=h;unfold Dr;dsimp only at Y ⊢;obtain⟨I,hk2⟩:=Y;obtain⟨n,rfl⟩:=Lk I;have H:n<8:=by omega
 refine(Zp w sb n _ _ (by decide) A9 aA t v (L n) (lv n) H (d.Fu.eE d.Ag H) (by have:=E n H;omega) rfl rfl hl hc).mono ?_;rintro e w'⟨rfl,h3⟩;refine⟨rfl,?_⟩;unfold Fc;rw[En];rcases h3 with⟨ho,lv',hR⟩|⟨ho,z⟩
 ·rw[Af ho];have hlen:=(Ol (L n) t v).2;obtain⟨b1,b2,b3,b4⟩:=d.Fu.ag d.Ag H hR rfl (by have:=E n H;omega);exact d.dV W ⟨b1,b2,b3,b4⟩
 ·rw[Ac (by omega)];exact(d.aJ z).bL z (λ_ _ h=>h.elim) λk hk=>.inl (W k hk)
end
def Rel(L:Nat->List Pt)(puts:List Pu)(d A9:Int):Prop:=∀k:Nat,k<8->(L k).filter (λx=>decide (Bv A9 d<=x.1))=refQ puts k (-9223372036854775808) 9223372036854775807 d A9
def Xq(puts:List Pu)(s a b l c a' H l' E:Int)(g:Int->Bool)(h:∀p∈puts,G0 s a' H l' E p=(G0 s a b l c p&&g p.2.1)):
 refQ puts s a' H l' E=(refQ puts s a b l c).filter (λx=>g x.1):=by
 have key:∀(I:List Pu) (d:List Pt),DM d->(∀p∈I,G0 s a' H l' E p=(G0 s a b l c p&&g p.2.1))->
  I.foldl (Ea s a' H l' E) (d.filter λx=>g x.1)=(I.foldl (Ea s a b l c) d).filter (λx=>g x.1):=by
  intro I
  induction I with
  | nil=>intro d _ _;rfl
  | cons p r ih=>
   intro d Y W;have L:=W p (by simp);simp only[MG];by_cases q:G0 s a b l c p=true
   ·(have e1:Ea s a b l c d p=Cs d p.2.1 p.2.2:=by unfold Ea;rw[Af q]);have O:Ea s a' H l' E (d.filter λx=>g x.1) p=(Cs d p.2.1 p.2.2).filter (λx=>g x.1):=by
     unfold Ea;rw[L,q,MT,Tf Y]
    rw[e1,O];exact ih _ (KB Y _ _) λp z=>W p (Br _ z)
   ·(have q':G0 s a b l c p=false:=by simpa using q);(have e1:Ea s a b l c d p=d:=by unfold Ea;rw[q'];rfl);have O:Ea s a' H l' E (d.filter λx=>g x.1) p=d.filter λx=>g x.1:=by
     unfold Ea;rw[L,q',Ve];rfl
    rw[e1,O];exact ih _ Y λp z=>W p (Br _ z)
 exact key puts [] List.Pairwise.nil h
def Ur{t d A9:Int}(h:AW t):Gv t d A9=decide (Bv A9 d<=t):=(Yq A9 d t h).symm
def Rel.bR{L:Nat->List Pt}{puts:List Pu}{d A9:Int}(h:Rel L puts d A9)(E:∀p∈puts,AW p.2.1){k:Nat}(H:k<8)(a b:Int):
 piece (L k) (max a (Bv A9 d)) b=refQ puts k a b d A9:=by
 have e:=Xq puts k (-9223372036854775808) 9223372036854775807 d A9 a b d A9 (λt=>decide (a<=t)&&decide (t<=b)) λp z=>by
  obtain⟨O,I⟩:=E p z;unfold G0;have d1:=Cv O;have d2:=Cv I;rw[d1,d2];cases decide (p.1=(k:Int))<;>cases decide (a<=p.2.1)<;>cases decide (p.2.1<=b)<;>cases Gv p.2.1 d A9<;>rfl
 rw[e,<-h k H,A3b];unfold piece
 congr 1
 funext x
 apply Vf.2;simp only[FV,DG];omega
def Rel.b9(d A9:Int):Rel (λ_=>[]) [] d A9:=λ_ _=>by simp[refQ]
def Rel.aw{L:Nat->List Pt}{puts:List Pu}{d A9:Int}(h:Rel L puts d A9)(O:∀k,k<8->DM (L k)){s:Nat}(hs8:s<8){t v:Int}(H:AW t):
 Rel (Fc L (Bv A9 d) s t v) (puts++[((s:Int),t,v)]) d A9:=by
 intro k E;have W:refQ (puts++[((s:Int),t,v)]) k (-9223372036854775808) 9223372036854775807 d A9=Ea k (-9223372036854775808) 9223372036854775807 d A9 (refQ puts k (-9223372036854775808) 9223372036854775807 d A9) ((s:Int),t,v):=by
  unfold refQ;rw[Lf];rfl
 rw[W,<-h k E];obtain⟨t1,t2⟩:=H;have d1:=Cv t1;have d2:=Cv t2;unfold Ea G0;simp only[d1,d2,Bool.and_true,Ur (⟨t1,t2⟩:AW t)];unfold Fc;by_cases z:Bv A9 d<=t
 ·rw[Af z];unfold HN;by_cases e:k=s
  ·subst e;have f:=Tf (O k E) (λx=>decide (Bv A9 d<=x)) t v;simp only[Cv z]at f ⊢;simp only[Cg]at f ⊢;simpa using f
  ·have I:¬(s:Int)=(k:Int):=λx=>e (by omega);simp[e,I]
 ·rw[Ac z];have:decide (Bv A9 d<=t)=false:=D4 z;simp[this]

def Xm{L:Nat->List Pt}{a b:List Pu}{d A9:Int}(h:Rel L a d A9)(_ha:∀p∈b,Bg p)(O:C8 (Bv A9 d) a b):Rel L b d A9:=λk E=>by
 rw[h k E];refine Xs λt I H z=>O.1 _ _ ?_;rw[Ur ⟨I,H⟩]at z;exact NU z
section
variable {P:PD} {A:Ar} {a c m:Nat}
def Fit.ah:∀(fresh:List (List Pu)) (last:Int) (kept:List Int) (P:PD) (a c m:Nat),Fit P a c m->Fit (PD.ah fresh last kept P).2.2.2 (a+fresh.length) (c+fresh.length) (m+Dg fresh)/\(PD.ah fresh last kept P).2.2.1.length<=kept.length+fresh.length
 | [],last,kept,P,a,c,m,h=>⟨h,by simp[PD.ah]⟩
 | l::r,last,kept,P,a,c,m,h=>by
  have z:=h.aL (last+1) l;have d:Dg (l::r)=(17*l.length+4)+Dg r:=by simp[Dg]
  rw[Sb];split
  ·exact⟨z.ad (by simp) (by simp) (by rw[d];omega),by simp⟩
  ·obtain⟨E,H⟩:=Fit.ah r (last+1) (kept++[last+1]) _ _ _ _ z;exact⟨E.ad (by simp;omega) (by simp;omega) (by rw[d];omega),by simp at H ⊢;omega⟩
def Fit.ay(h:Fit P a c m)(kept:List Int)(fresh:List (List Pu)):Fit (A.ay P kept fresh).2.2 (a+fresh.length+2) (c+2*a+2*fresh.length+4) (m+Dg fresh+12+8*(kept.length+fresh.length)):=by
 rw[QQ];have E:=h.aN (A:=A);split
 ·exact E.ad (by omega) (by omega) (by omega)
 ·obtain⟨z,h3⟩:=Fit.ah fresh (A.aN P).2.1.A8 kept _ _ _ _ E;split
  ·exact z.ad (by omega) (by omega) (by omega)
  ·have d:=z.cw (A:={ (A.aN P).2.1 with A8:=(PD.ah fresh (A.aN P).2.1.A8 kept (A.aN P).2.2).2.1}) (PD.ah fresh (A.aN P).2.1.A8 kept (A.aN P).2.2).2.2.1;split
   ·exact d.ad (by omega) (by omega) (by omega)
   ·unfold Ar.aZ;have H:=Fit.au (A:=(({ (A.aN P).2.1 with A8:=(PD.ah fresh (A.aN P).2.1.A8 kept (A.aN P).2.2).2.1}:Ar).ag (PD.ah fresh (A.aN P).2.1.A8 kept (A.aN P).2.2).2.2.2 (PD.ah fresh (A.aN P).2.1.A8 kept (A.aN P).2.2).2.2.1).2.1) d;split
    ·exact H.ad (by omega) (by omega) (by omega)
    ·exact H.aK.ad (by omega) (by omega) (by omega)
def Fit.bY(h:Fit P a c m)(nm:ByteArray)(s:Nat)(l:Bs):Fit (P.aa nm s l).2.2 a c (m+(l.length+4)):=by
 have:=h.an nm (AR s l);rw[Eu]at this;exact this
def Fit.dT{J:Jn}(h:Fit P a c m):Fit (J.av P).2.2 (a+1) (c+1) (m+12):=by
 unfold Jn.av;have z:=h.ai (A7 (Ae (J.A8+1)));have d:=z.bY (A7 (Ae (J.A8+1))) (AE (Ae (J.A8+1))) (AO J.puts);rw[CJ]at d;split
 ·exact z.ad (Au _) (Au _) (by omega)
 ·dsimp only
  split
  ·exact d
  ·exact d
def Fit.dK{J:Jn}(h:Fit P a c m)(p:Pu):Fit (J.aw P p).2.2.2 a c (m+21):=by
 unfold Jn.aw;cases J.AF with
 | none=>exact h.ad (Au _) (Au _) (by omega)
 | some x=>
  obtain⟨n,s⟩:=x;have d:=h.bY (A7 (Ae n)) s (Bb p.1 p.2.1 p.2.2);rw[EP]at d;exact d
def Fit.fy{J:Jn}(h:Fit P a c m)(p:Pu):Fit (J.aa P p).2.2.2 (a+1) (c+1) (m+33):=by
 unfold Jn.aa;split
 ·split
  ·exact h.dT.ad (Au _) (Au _) (by omega)
  ·exact(h.dT.dK p).ad (Au _) (Au _) (by omega)
 ·exact(h.dK p).ad (by omega) (by omega) (by omega)
def Fit.fp(h:Fit P a c m)(p:Pu):Fit (A.aa P p).2.2.2 (a+1) (c+1) (m+33):=by
 unfold Ar.aa;split
 ·exact h.C.ad (by omega) (by omega) (by omega)
 ·exact h.C.fy p
def Fit.fF(h:Fit P a c m):Fit (A.ae P).2.2 a c m:=by
 have d:=h.C (A:=A);have z:∀J:Jn,Fit (J.ae (A.C P).2.2).2 a c m:=λJ=>by
  unfold Jn.ae;cases J.AF with
  | none=>exact d
  | some x=>exact d.ae _
 unfold Ar.ae;split
 ·exact d
 ·split
  ·exact z _
  ·exact(z _).aK
end
structure Wd (P:PD) (a m:Nat):Prop where
 A4:P.D.A4.length<=a
 AM:P.D.AM.length<=a
 Fi:∀l∈P.D.As,l.length<=a
 B8:∀f,P.D.Aq f->(P.F f).1.length<=m
def Fit.wd{P:PD}{a c m:Nat}(h:Fit P a c m):Wd P a m:=⟨h.A4,h.AM,h.Fi,h.B8⟩
def Wd.CT{P:PD}{a c m a' m':Nat}(h:Wd P a m)(d:Fit P a' c m'):Fit P a c m:=⟨h.A4,h.AM,h.Fi,d.An,h.B8,d.AB,d.Bq⟩
def Bn(P:PD)(k:Nat):Prop:=∀f,P.D.Aq f->f<k
def Bn.ad{P:PD}{k d:Nat}(h:Bn P k)(z:k<=d):Bn P d:=λf E=>Bm (h f E) z
def M0{k:Nat}:∀ {es:List AL},(∀e∈es,e.2<k)->I8 es<=k
 | [],_=>Cz _
 | e::r,h=>by
  have:=h e (BD ..);have:=M0 λx d=>h x (Br _ d);unfold I8;omega
def TZ{k:Nat}:∀ {l:List (List AL)},(∀c∈l,∀e∈c,e.2<k)->JI l<=k
 | [],_=>Cz _
 | c::r,h=>by
  have:=M0 (h c (BD ..));have:=TZ λx d=>h x (Br _ d);unfold JI;omega
def Bn.AT{P:PD}{k:Nat}(h:Bn P k):P.D.AT<=k:=by
 have h1:=M0 λe d=>h _ (.inl ⟨e,d,rfl⟩);have h2:=M0 λe d=>h _ (.inr (.inl ⟨e,d,rfl⟩));have h3:=TZ λc z e d=>h _ (.inr (.inr ⟨c,z,e,d,rfl⟩));unfold DS.AT;omega
def Bn.A4{P:PD}{k:Nat}(h:Bn P k):∀e∈P.D.A4,e.2<k:=λe d=>h _ (.inl ⟨e,d,rfl⟩)
def Hw(P P':PD):Prop:=P'.D.AM=P.D.AM/\((P'.D.A4=P.D.A4/\P'.D.As=P.D.As)\/P'.D.As=P.D.As++[P'.D.A4])
def Hw.wd{P P':PD}{a m:Nat}(h:Hw P P')(z:Wd P a m)(E:P'.D.A4.length<=a)(H:∀f,P'.D.Aq f->(P'.F f).1.length<=m):Wd P' a m:=
 ⟨E,by rw[h.1];exact z.AM,λl d=>by
  rcases h.2 with⟨_,e⟩|e
  ·rw[e]at d;exact z.Fi l d
  ·rw[e]at d;rcases AV.1 d with d|d
   ·exact z.Fi l d
   ·simp at d;subst d;exact E,H⟩
def Hw.An{P P':PD}(h:Hw P P'):∀l∈P'.D.As,l∈P.D.As\/l=P'.D.A4:=λl d=>by
 rcases h.2 with⟨_,e⟩|e
 ·rw[e]at d;exact .inl d
 ·rw[e]at d;rcases AV.1 d with d|d
  ·exact .inl d
  ·exact .inr (by simpa using d)
def Hw.Aq{P P':PD}(h:Hw P P'){p:Nat->Prop}(E:∀f,P.D.Aq f->p f)(z:∀e∈P'.D.A4,p e.2):∀f,P'.D.Aq f->p f:=by
 rintro f (⟨e,he,rfl⟩|⟨e,he,rfl⟩|⟨l,d,e,he,rfl⟩)
 ·exact z e he
 ·rw[h.1]at he;exact E _ (.inr (.inl ⟨e,he,rfl⟩))
 ·rcases h.An l d with d|rfl
  ·exact E _ (.inr (.inr ⟨l,d,e,he,rfl⟩))
  ·exact z e he
section
variable {P P':PD} {A:Ar} {J:Jn} {a m k:Nat}
def Extra.dy{nm:Bs}(h:Extra P nm P'):Hw P P':=⟨h.AM,by
 rcases h.Hb with⟨d1,d2⟩|⟨_,d1,d2⟩
 ·exact .inl ⟨d1,d2⟩
 ·exact .inr (by rw[d2,d1])⟩
def Extra.EG{nm:Bs}(h:Extra P nm P'):∀e∈P'.D.A4,e∈P.D.A4\/e.2=P.D.AT:=λe d=>by
 rcases h.Hb with⟨d1,_⟩|⟨_,d1,_⟩
 ·rw[d1]at d;exact .inl d
 ·rw[d1]at d;rcases AV.1 d with d|d
  ·exact .inl d
  ·simp at d;subst d;exact .inr rfl
def Bn.bI{nm:Bs}(h:Bn P k)(z:Extra P nm P'):Bn P' (k+1):=by
 refine z.dy.Aq (λf E=>A2P (h f E)) λe d=>?_;rcases z.EG e d with d|d
 ·exact A2P (h.A4 e d)
 ·have:=h.AT;omega
def Wd.bI{nm:Bs}(h:Wd P a m)(d:Extra P nm P')(L:P.dl+1<=a)(O:(P'.F P.D.AT).1.length<=m):Wd P' a m:=by
 unfold PD.dl at L;have E:∀f,(f≠P.D.AT->P.D.Aq f)->(P'.F f).1.length<=m:=λf E=>by
  by_cases e:f=P.D.AT
  ·rw[e];exact O
  ·rw[d.Ee f e];exact h.B8 f (E e)
 refine d.dy.wd h ?_ (d.dy.Aq (λf I=>E f λ_=>I) λe z=>E _ λH=>?_)
 ·rcases d.Hb with⟨d1,_⟩|⟨_,d1,_⟩
  ·rw[d1];omega
  ·rw[d1];simp;omega
 ·rcases d.EG e z with z|z
  ·exact .inl ⟨e,z,rfl⟩
  ·exact absurd z H
def Vi(P:PD)(nm:Bs)(s:Nat)(l:Bs):((P.aH nm s l).2.F P.D.AT).1.length<=l.length+4:=by
 obtain⟨e1,I⟩:=JB P nm;have h:(P.ai (A7 nm)).2.F P.D.AT=([],0):=by unfold PD.ai;simp[upd]
 unfold PD.aH;split
 ·rw[h];simp
 ·rename_i H;have E:=I (Cu H);obtain⟨a1,a2,a3,z⟩:=Ie (AR s l) E;have d:(((P.ai (A7 nm)).2.aa (A7 nm) s l).2.2.F P.D.AT).1.length<=l.length+4:=by
   show (((P.ai (A7 nm)).2.an (A7 nm) (AR s l)).2.F P.D.AT).1.length<=l.length+4;rcases z with e|⟨j,e⟩
   ·rw[e,h];simp
   ·rw[e];simp only[upd,Cg,h,EY,BU,Eu];omega
  split
  ·exact d
  ·unfold PD.ae Cw;split
   ·exact d
   ·dsimp only
    split
    ·unfold upd;split
     ·rename_i e;rw[<-e];exact d
     ·exact d
    ·exact d
def Wd.aH(h:Wd P a m)(nm:Bs)(s:Nat)(l:Bs)(d:P.dl+1<=a)(z:l.length+4<=m):Wd (P.aH nm s l).2 a m:=h.bI (JA P nm s l).1 d (AQ (Vi P nm s l) z)
def Bn.aH(h:Bn P k)(nm:Bs)(s:Nat)(l:Bs):Bn (P.aH nm s l).2 (k+1):=h.bI (JA P nm s l).1
def Lv(P:PD)(x:ByteArray):(P.ae x).2.D.A4=P.D.A4/\(P.ae x).2.D.AM=P.D.AM/\(P.ae x).2.D.As=P.D.As/\∀f,((P.ae x).2.F f).1=(P.F f).1:=by
 cases hx:lookup P.D.A4 x with
 | none=>
  have e:(P.ae x).2=P:=by unfold PD.ae Cw;rw[hx]
  rw[e];exact⟨rfl,rfl,rfl,λ_=>rfl⟩
 | some g=>
  obtain⟨h,z,E,d⟩:=Iq hx;refine⟨h,z,E,λf=>?_⟩;rcases d with e|e
  ·rw[e]
  ·rw[e];unfold upd;split
   ·rename_i H;rw[H]
   ·rfl
def Ot(z:P'.D.A4=P.D.A4)(h:P'.D.AM=P.D.AM)(E:P'.D.As=P.D.As)(f:Nat)(d:P'.D.Aq f):P.D.Aq f:=by
 unfold DS.Aq at d ⊢;rwa [z,h,E]at d
def Wd.aI(h:Wd P a m)(z:P'.D.A4=P.D.A4)(d:P'.D.AM=P.D.AM)(E:P'.D.As=P.D.As)(I:∀f,(P'.F f).1=(P.F f).1):Wd P' a m:=
 ⟨by rw[z];exact h.A4,by rw[d];exact h.AM,by rw[E];exact h.Fi,λf H=>by rw[I];exact h.B8 f (Ot z d E f H)⟩
def Wd.ae(h:Wd P a m)(x:ByteArray):Wd (P.ae x).2 a m:=by
 obtain⟨E,d,H,z⟩:=Lv P x;exact h.aI E d H z
def Bn.ae(h:Bn P k)(x:ByteArray):Bn (P.ae x).2 k:=by
 obtain⟨E,z,H,_⟩:=Lv P x;exact λf d=>h f (Ot E z H f d)
def Wd.ax:∀(l:List Bs) {P:PD},Wd P a m->Wd (PD.ax l P).2 a m
 | [],_,h=>h
 | nm::r,P,h=>by
  unfold PD.ax;split
  ·exact h.ae _
  ·exact Wd.ax r (h.ae _)
def Bn.ax:∀(l:List Bs) {P:PD},Bn P k->Bn (PD.ax l P).2 k
 | [],_,h=>h
 | nm::r,P,h=>by
  unfold PD.ax;split
  ·exact h.ae _
  ·exact Bn.ax r (h.ae _)
def Wd.C(h:Wd P a m):Wd (A.C P).2.2 a m:=by unfold Ar.C;split<;>exact Wd.ax _ h
def Bn.C(h:Bn P k):Bn (A.C P).2.2 k:=by unfold Ar.C;split<;>exact Bn.ax _ h
def Wd.aK(h:Wd P a m):Wd P.aK.2 a m:=by
 unfold PD.aK DC;dsimp only
 split
 ·refine⟨h.A4,h.A4,λl d=>(by cases d),?_⟩;rintro f (hf|hf|⟨l,d,_⟩)
  ·exact h.B8 f (.inl hf)
  ·exact h.B8 f (.inl hf)
  ·cases d
 ·exact⟨h.A4,h.AM,h.Fi,h.B8⟩
def Bn.aK(h:Bn P k):Bn P.aK.2 k:=by
 unfold PD.aK DC;dsimp only
 split
 ·rintro f (hf|hf|⟨l,hl,_⟩)
  ·exact h f (.inl hf)
  ·exact h f (.inl hf)
  ·cases hl
 ·exact h
def Nz(P:PD)(x:ByteArray):Hw P (P.az x).2/\(P.az x).2.F=P.F/\(∀e∈(P.az x).2.D.A4,e∈P.D.A4)/\((P.az x).1=0->(P.az x).2.dl+1=P.dl):=by
 unfold PD.az Dd;by_cases E:B2 P.D.A4 x<0
 ·rw[Af E];exact⟨⟨rfl,.inl ⟨rfl,rfl⟩⟩,rfl,λ_ h=>h,λh=>(by cases h)⟩
 ·rw[Ac E];have hl:=Tu P.D.A4 x;dsimp only
  by_cases z:(bg P.D.n).1=true
  ·rw[Af z];refine⟨⟨rfl,.inr rfl⟩,rfl,λe d=>?_,λ_=>?_⟩
   ·rcases AV.1 d with d|d
    ·exact Ik d
    ·exact Lb d
   ·unfold PD.dl;simp;omega
  ·rw[Ac z];exact⟨⟨rfl,.inl ⟨rfl,rfl⟩⟩,rfl,λ_ h=>h,λh=>absurd (GG h) z⟩
def Wd.az(h:Wd P a m)(x:ByteArray):Wd (P.az x).2 a m:=by
 obtain⟨d,H,I,_⟩:=Nz P x;have:=Tz P x;refine d.wd h ?_ ?_
 ·have:=h.A4;unfold PD.dl at *;omega
 ·rw[H];exact d.Aq (λf z=>h.B8 f z) λe E=>h.B8 _ (.inl ⟨e,I e E,rfl⟩)
def Bn.az(h:Bn P k)(x:ByteArray):Bn (P.az x).2 k:=by
 obtain⟨E,_,H,_⟩:=Nz P x;exact E.Aq (λf d=>h f d) λe z=>h.A4 e (H e z)
def Wd.aM:∀(l:List Bs) {P:PD},Wd P a m->Wd (PD.aM l P).2 a m
 | [],_,h=>h
 | nm::r,P,h=>by
  unfold PD.aM;split
  ·exact h.az _
  ·exact Wd.aM r (h.az _)
def Bn.aM:∀(l:List Bs) {P:PD},Bn P k->Bn (PD.aM l P).2 k
 | [],_,h=>h
 | nm::r,P,h=>by
  unfold PD.aM;split
  ·exact h.az _
  ·exact Bn.aM r (h.az _)
def R7:∀(l:List Bs) (P:PD),(PD.aM l P).1=0->(PD.aM l P).2.dl+l.length=P.dl
 | [],_,_=>rfl
 | nm::r,P,h=>by
  unfold PD.aM at h ⊢;split at h
  ·rename_i d;exact absurd h d
  ·rename_i d;rw[Ac d];have:=R7 r _ h;have:=(Nz P (A7 nm)).2.2.2 (Cu d);simp only[CG];omega
def Tt{α:Type}(p:α->Bool):∀l:List α,(l.filter p).length+(l.filter λx=>!p x).length=l.length
 | []=>rfl
 | x::r=>by
  have:=Tt p r;cases hx:p x with
  | true=>simp[hx];omega
  | false=>simp[hx];omega
def Qi(H:FP P)(d:(A.au P).1=0):(A.au P).2.dl<=A.Ax.length:=by
 have h1:=R7 (A.aV P) P d;have h:=H.aR.cJ;have h2:(A.aY P).length<=A.Ax.length:=ID (h.filter _) λx E=>by
  have:=(GJ.1 E).2;simpa using this
 have z:(A.aY P).length+(A.aV P).length=P.Ax.length:=by
  unfold Ar.aY Ar.aV;exact Tt _ _
 rw[Ha]at z;have h4:(PD.aM (A.aV P) P).2.dl=(A.au P).2.dl:=rfl;omega
def O1:∀(fresh:List (List Pu)) (last:Int) (kept:List Int) {P:PD} {k:Nat},Wd P a m->Bn P k->P.dl+fresh.length<=a->(∀l∈fresh,17*l.length+4<=m)->
 Wd (PD.ah fresh last kept P).2.2.2 a m/\Bn (PD.ah fresh last kept P).2.2.2 (k+fresh.length)
 | [],_,_,_,_,h,hi,_,_=>⟨h,hi⟩
 | l::r,last,kept,P,k,h,hi,hd,hl=>by
  simp only[CG]at hd;have E:Wd (P.aL (last+1) l).2 a m:=h.aH _ _ _ (by omega) (by rw[HR];exact hl l (BD ..));have z:Bn (P.aL (last+1) l).2 (k+1):=hi.aH _ _ _;have hdl:(P.aL (last+1) l).2.dl<=P.dl+1:=KH P _ _ _;have d:PD.ah (l::r) last kept P=if (P.aL (last+1) l).1≠0 then ((P.aL (last+1) l).1,last+1,kept,(P.aL (last+1) l).2) else PD.ah r (last+1) (kept++[last+1]) (P.aL (last+1) l).2:=rfl
  rw[d];split
  ·exact⟨E,z.ad (by simp)⟩
  ·obtain⟨H,I⟩:=O1 r (last+1) (kept++[last+1]) E z (by omega) λx L=>hl x (Br _ L);exact⟨H,I.ad (by simp;omega)⟩
def QU(P:PD)(old nm:ByteArray):Hw P (P.aO old nm).2/\(P.aO old nm).2.F=P.F/\∀e∈(P.aO old nm).2.D.A4,∃d∈P.D.A4,d.2=e.2:=by
 unfold PD.aO CN;cases hx:lookup P.D.A4 old with
 | none=>exact⟨⟨rfl,.inl ⟨rfl,rfl⟩⟩,rfl,λe h=>⟨e,h,rfl⟩⟩
 | some f=>
  dsimp only
  split
  ·exact⟨⟨rfl,.inl ⟨rfl,rfl⟩⟩,rfl,λe h=>⟨e,h,rfl⟩⟩
  ·dsimp only
   split
   ·refine⟨⟨rfl,.inr rfl⟩,rfl,λe h=>?_⟩;rcases AV.1 h with h|h
    ·exact⟨e,LD _ _ _ _ e h,rfl⟩
    ·simp at h;subst h;exact⟨_,E1 hx,rfl⟩
   ·exact⟨⟨rfl,.inl ⟨rfl,rfl⟩⟩,rfl,λe h=>⟨e,h,rfl⟩⟩
def Wd.aO(h:Wd P a m)(old nm:ByteArray)(z:P.dl+1<=a):Wd (P.aO old nm).2 a m:=by
 obtain⟨E,L,O⟩:=QU P old nm;have:=Ty P old nm;refine E.wd h (by unfold PD.dl at *;omega) ?_;rw[L];exact E.Aq (λf H=>h.B8 f H) λe I=>by obtain⟨d,z,W⟩:=O e I;rw[<-W];exact h.B8 _ (.inl ⟨d,z,rfl⟩)
def Bn.aO(h:Bn P k)(old nm:ByteArray):Bn (P.aO old nm).2 k:=by
 obtain⟨I,_,L⟩:=QU P old nm;exact I.Aq (λf E=>h f E) λe H=>by obtain⟨d,z,O⟩:=L e H;rw[<-O];exact h.A4 d z
def XM(h:Wd P a m)(H:Bn P k)(d:Int)(segs:List Int)(hd:P.dl+2<=a)(hl:12+8*segs.length<=m):Wd (P.ag d segs).2 a m/\Bn (P.ag d segs).2 (k+1):=by
 have hlen:(Ch d segs).length=8+8*segs.length:=by unfold Ch;rw[AZ,CJ,IP]
 have E:Wd (P.aH Bk (AE AI) (Ch d segs)).2 a m:=h.aH _ _ _ (by omega) (by omega);have z:=H.aH Bk (AE AI) (Ch d segs);have:=KH P Bk (AE AI) (Ch d segs);unfold PD.ag;split
 ·exact⟨E,z⟩
 ·exact⟨E.aO _ _ (by omega),z.aO _ _⟩
def A2g(h:Wd P a m)(d:Bn P k)(segs:List Int)(z:P.dl+2<=a)(E:12+8*segs.length<=m):Wd (A.ag P segs).2.2 a m/\Bn (A.ag P segs).2.2 (k+1):=by
 have:=XM h d (A.j.A8+1) segs z E;unfold Ar.ag;split
 ·exact⟨h,d.ad (by omega)⟩
 ·split<;>exact this
def A1I(h:Wd P a m)(d:Bn P k):Wd (A.aZ P).2.2 a m/\Bn (A.aZ P).2.2 k:=by
 unfold Ar.aZ;split
 ·exact⟨Wd.aM _ h,Bn.aM _ d⟩
 ·exact⟨(Wd.aM _ h).aK,(Bn.aM _ d).aK⟩
def Sc(h:FP P)(d:P'.D.A4=P.D.A4):FP P':=⟨by rw[d];exact h.Aq,by rw[d];exact h.Cb⟩
def Ni(A:Ar)(P:PD):(A.C P).2.2.D.A4=P.D.A4:=by
 have key:∀(l:List Bs) (Q:PD),(PD.ax l Q).2.D.A4=Q.D.A4:=by
  intro l
  induction l with
  | nil=>intro Q;rfl
  | cons nm r ih=>
   intro Q;unfold PD.ax;split
   ·exact(Lv Q _).1
   ·rw[ih,(Lv Q _).1]
 unfold Ar.C;split<;>exact key _ _
def X7(h:Wd P a m)(hi:Bn P k)(hn:FP P)(kept:List Int)(fresh:List (List Pu))(hd:A.Ax.length+fresh.length+2<=a)(hl:∀l∈fresh,17*l.length+4<=m)(hk:12+8*(kept.length+fresh.length)<=m):
 Wd (A.ay P kept fresh).2.2 a m/\Bn (A.ay P kept fresh).2.2 (k+fresh.length+1):=by
 have H:Wd (A.C P).2.2 a m:=h.C;have Y:Bn (A.C P).2.2 k:=hi.C;have n1:FP (A.C P).2.2:=Sc hn (Ni A P);have z:(A.C P).2.1.Ax=A.Ax:=by unfold Ar.C;split<;>rfl
 unfold Ar.ay;dsimp only
 split
 ·exact⟨H,Y.ad (by omega)⟩
 ·have w2:Wd ((A.C P).2.1.au (A.C P).2.2).2 a m:=Wd.aM _ H;have L:Bn ((A.C P).2.1.au (A.C P).2.2).2 k:=Bn.aM _ Y;split
  ·exact⟨w2,L.ad (by omega)⟩
  ·rename_i h2;have d:=Qi n1 (Cu h2);rw[z]at d;obtain⟨I,O⟩:=O1 fresh (A.C P).2.1.A8 kept w2 L (by omega) hl;obtain⟨d3,d4⟩:=JC fresh (A.C P).2.1.A8 kept ((A.C P).2.1.au (A.C P).2.2).2;split
   ·exact⟨I,O.ad (by omega)⟩
   ·obtain⟨E,W⟩:=A2g (A:={ (A.C P).2.1 with A8:=(PD.ah fresh (A.C P).2.1.A8 kept ((A.C P).2.1.au (A.C P).2.2).2).2.1}) I O (PD.ah fresh (A.C P).2.1.A8 kept ((A.C P).2.1.au (A.C P).2.2).2).2.2.1 (by omega) (by omega);split
    ·exact⟨E,W⟩
    ·exact A1I E W
def Ub(h:Bn P k)(J:Jn):Bn (J.av P).2.2 (k+1):=h.bI (Mi P J).1
def A2o(h:Bn P k)(x:ByteArray)(l:Bs):Bn (P.an x l).2 k:=by
 cases hx:lookup P.D.A4 x with
 | none=>
  have e:(P.an x l).2=P:=by unfold PD.an Bl;rw[hx]
  rw[e];exact h
 | some g=>
  obtain⟨z,E,H,_⟩:=Ie l hx;exact λf d=>h f (Ot z E H f d)
def A2k(h:Bn P k)(p:Pu):Bn (A.aa P p).2.2.2 (k+1):=by
 have d:∀(J:Jn) {Q:PD} {k:Nat},Bn Q k->Bn (J.aw Q p).2.2.2 k:=λJ Q k z=>by
  unfold Jn.aw;split
  ·exact z
  ·exact A2o z _ _
 unfold Ar.aa;split
 ·exact h.C.ad (by omega)
 ·dsimp only
  unfold Jn.aa;split
  ·split
   ·exact Ub h.C _
   ·exact d _ (Ub h.C _)
  ·exact(d _ h.C).ad (by omega)
def A2j(h:Bn P k):Bn (A.ae P).2.2 k:=by
 have d:Bn (A.C P).2.2 k:=h.C;have z:∀J:Jn,Bn (J.ae (A.C P).2.2).2 k:=λJ=>by
  unfold Jn.ae;split
  ·exact d
  ·exact d.ae _
 unfold Ar.ae;split
 ·exact d
 ·split
  ·exact z _
  ·exact(z _).aK
end
def PD.aW(P:PD)(h:Int)(d:List Int):PD:=⟨(Fg P.D P.F h d).1,(Fg P.D P.F h d).2⟩
def OM{c:FC}(h:0<=c.2/\c.2<=c.1.length)(t:Int):∃j:Nat,c.2<=j/\j<=c.1.length/\Fh c t=(c.1.take j,(j:Int)):=by
 have hp:=Jl t (c.1.length-c.2.toNat);refine⟨c.2.toNat+Fa t (c.1.length-c.2.toNat),by omega,by omega,?_⟩;unfold Fh;dsimp only
 rw[BU,Mw (by omega)]
def A1i{c:FC}(h:0<=c.2/\c.2<=c.1.length)(t d:Int):Fh (Fh c t) d=Fh c t:=by
 obtain⟨j,h1,h2,E⟩:=OM h t;rw[E];unfold Fh;have z:(c.1.take j).length=j:=by rw[BU];omega
 have H:Fa d ((c.1.take j).length-((j:Int)).toNat)=0:=by
  have:=Jl d ((c.1.take j).length-((j:Int)).toNat);rw[z]at this ⊢;simp at this ⊢;omega
 dsimp only
 rw[H,Pj,En];have:(c.1.take j).take j=c.1.take j:=by rw[JO];simp
 rw[this,z]
section
variable {bd:Int×Int} {P P':PD} {V V':View} {ix:Ix} {sg cl:List (Int×List Pu)} {lo:Option (Int×List Pu)} {puts:List Pu} {Ad:Nat} {o:Int}
def TI(s:List AL)(H:List Int)(names:List ByteArray)(F:Nat->FC)(hr:∀e∈s,0<=(F e.2).2/\(F e.2).2<=(F e.2).1.length):∀k,∀e∈s,(DH s H names F k e.2=F e.2/\∀j,j<k->∀nm,names[j]?=some nm->lookup s nm≠some e.2)\/∃t,DH s H names F k e.2=Fh (F e.2) t:=by
 intro k
 induction k with
 | zero=>intro e _;exact .inl ⟨rfl,λj Y=>by omega⟩
 | succ k ih=>
  intro e he;have I:=ih e he;simp only[DH];cases hn:names[k]? with
  | none=>
   dsimp only
   rcases I with⟨z,O⟩|z
   ·refine .inl ⟨z,λj Y nm d=>?_⟩;by_cases E:j=k
    ·subst E;rw[hn]at d;cases d
    ·exact O j (by omega) nm d
   ·exact .inr z
  | some nm=>
   dsimp only
   cases hl:lookup s nm with
   | none=>
    dsimp only
    rcases I with⟨z,O⟩|z
    ·refine .inl ⟨z,λj Y L d=>?_⟩;by_cases E:j=k
     ·subst E;rw[hn]at d;cases d;rw[hl];simp
     ·exact O j (by omega) L d
    ·exact .inr z
   | some f=>
    dsimp only
    by_cases W:e.2=f
    ·subst W;refine .inr ?_;simp only[upd,Cg];rcases I with⟨z,_⟩|⟨t,z⟩
     ·exact⟨_,by rw[z]⟩
     ·exact⟨t,by rw[z,A1i (hr e he)]⟩
    ·simp only[upd,W,C4];rcases I with⟨z,O⟩|z
     ·refine .inl ⟨z,λj Y L d=>?_⟩;by_cases E:j=k
      ·subst E;rw[hn]at d;cases d;rw[hl];simp;exact λh=>W h.symm
      ·exact O j (by omega) L d
     ·exact .inr z
def A1c(s:List AL)(d:List Int)(F:Nat->FC)(L:∀e∈s,0<=(F e.2).2/\(F e.2).2<=(F e.2).1.length):HG (vw F s) (vw (DH s d (dList s) F s.length) s):=by
 intro m;unfold vw;cases hx:lookup s (A7 m) with
 | none=>exact .inl ⟨rfl,rfl⟩
 | some f=>
  have E:=E1 hx;have hlen:(dList s).length=s.length:=M6 s s.length (Au _);have h:A7 m∈dList s:=(KJ s).mem_iff.2 (CA.2 ⟨_,E,rfl⟩);obtain⟨k,Y,z⟩:=DQ h;rcases TI s d (dList s) F L s.length _ E with⟨_,W⟩|⟨t,I⟩
  ·exact absurd hx (W k (by omega) (A7 m) (by rw[E2 Y,z]))
  ·obtain⟨j,O,j2,H⟩:=OM (L _ E) t;refine .inr ⟨F f,j,rfl,O,j2,?_⟩;dsimp only at I H;simp[I,H]
def TK(D:DS)(d:Int):FM D d∈D.AM::D.As:=by
 unfold FM;have h:=Jl d D.As.length;cases hx:Fa d D.As.length with
 | zero=>exact BD ..
 | succ k=>
  rw[hx]at h;refine Br _ ?_;dsimp only
  rw[HC,E2 (by omega)];exact BV _
def CU.aZ(h:CU bd V ix sg cl lo)(H:∀nm c,V nm=some c->C2 c)(hl:(Aw cl).length<=1099511627776):CU bd V ix sg (cl++lo.toList) none:=by
 cases lo with
 | none=>simpa using h
 | some y=>
  obtain⟨n,l⟩:=y;obtain⟨W,E,c,z,O⟩:=h.A8 n l rfl;refine⟨h.Dz,h.I5,h.segs,h.Cq,λx d=>?_,h.Aj.bV ?_,λn' l' e=>(by cases e),by simpa using h.EE,λk I Y L=>by simpa using h.Cl k I Y L,h.Eb,h.DT⟩
  ·rcases AV.1 d with d|d
   ·exact h.CO x d
   ·simp at d;subst d;exact⟨W,E,c,z,H _ _ z⟩
  ·unfold II;rw[z];dsimp only
   rw[MQ];exact O.a1 (by constructor<;>omega) E
def DI.aW(h:DI bd P puts Ad o)(z:Int)(d:List Int)(hpl:puts.length<=1099511627776):
 DI bd (P.aW z d) puts Ad o/\∃n,Ad<=n/\n<=puts.length/\∀I q,o<=I->C8 I (puts.take n) q->DI bd (P.aW z d) q Ad I/\Reads bd (P.aW z d) q I:=by
 have W:=TK P.D z;generalize aA:FM P.D z=s at W;have hr:∀e∈s,0<=(P.F e.2).2/\(P.F e.2).2<=(P.F e.2).1.length:=λe he=>by
  obtain⟨ix,sg,cl,lo,nb,hL,_⟩:=h.Ds s W;have hv:vw P.F s e.1.data.toList=some (P.F e.2):=by
   unfold vw;rw[G3];cases hk:lookup s e.1 with
   | none=>exact absurd rfl (IG.1 hk e he)
   | some g=>
    obtain⟨i,hi,e1⟩:=DQ (E1 hk);obtain⟨j,hj,e2⟩:=DQ he;have:i=j:=Jp (h.Cb s W) (by simpa using hi) (by simpa using hj) (by simp[e1,e2]);subst this;rw[e1]at e2;rw[<-e2];rfl
  exact hL.DT _ _ hv
 have aF:=A1c s d P.F hr;have aG:(P.aW z d).fl=vw (DH s d (dList s) P.F s.length) s:=by
  funext m
  unfold PD.aW PD.fl Fg vw;dsimp only
  rw[aA]
 obtain⟨ix,sg,cl,lo,n,hL,hd,n1,n2,n3⟩:=(h.Ds s W).BT aF;rw[<-aG]at hL hd;have n4:=n3.2.2;rw[BU,AZ,AZ]at n4;have aD:(Aw cl).length<=1099511627776:=by omega
 have hC:=hL.aZ hd aD;have H:Aw (cl++lo.toList)=Aw cl++Ev lo:=by cases lo<;>simp[Aw,Ev]
 have hq:C8 o (Aw sg++Aw (cl++lo.toList)) (puts.take n):=by rw[H,<-Cc];exact n3
 have hH:Holds bd (P.aW z d).fl puts Ad o:=⟨ix,sg,_,none,n,hC,n2,hq,λn' l e=>(by cases e),λ_=>n1⟩;have L:Bp (P.aW z d)=[(P.aW z d).D.A4]:=by unfold Bp PD.aW Fg;rfl
 have O:(P.aW z d).D.A4=s:=by unfold PD.aW Fg;dsimp only;exact aA
 have mk:∀I q,Holds bd (P.aW z d).fl q Ad I->DI bd (P.aW z d) q Ad I:=λI q hq=>by
  refine⟨λx E=>?_,λx E=>?_,λx E=>?_,by rw[L];simp⟩
  ·rw[L]at E;simp at E;subst E;exact hq
  ·rw[L]at E;simp at E;subst E;rw[O];exact h.Aq s W
  ·rw[L]at E;simp at E;subst E;rw[O];exact h.Cb s W
 refine⟨mk o puts hH,n,n1,n2,λI q ho Y=>?_⟩;have aE:=(hq.bQ ho).Av Y;have aB:Ad<=q.length:=by
  have:=Y.2.2;rw[BU]at this;omega
 exact⟨mk I q (Holds.bB hC aE aB),Whole.bu ⟨ix,sg,_,none,hC,by rw[H,AZ];omega,by simpa[Ev] using aE⟩⟩
end
end
end Go.Proofs.YtodcnkbblippnabGreatDoor
