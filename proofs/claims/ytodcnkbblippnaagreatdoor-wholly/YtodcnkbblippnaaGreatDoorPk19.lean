/- Part 19 of a proof: walks of the program. -/
import Derived.Test.YtodcnkbblippnaaGreatDoorPk18
namespace Go.Proofs.YtodcnkbblippnaaGreatDoor
set_option maxRecDepth 100000
set_option maxHeartbeats 32000000
set_option linter.defProp false
open Go.Proofs.Tryz
section
open Go.RowKit
attribute [local go_sem ↓] CJ
def TC(segs:List (Int×List Pu))(oldest:Int)(l:List Pu)(r:List (List Pu)):BL segs oldest (l::r)=if l.any (λp=>decide (oldest<=p.2.1))=false then BL segs oldest r else
 match segs.find? λs=>decide (s.2=l) with
 | none=>((BL segs oldest r).1,l::(BL segs oldest r).2)
 | some s=>(s.1::(BL segs oldest r).1,(BL segs oldest r).2):=rfl
def TB(segs:List (Int×List Pu))(oldest:Int):∀ws:List (List Pu),(BL segs oldest ws).1.length+(BL segs oldest ws).2.length<=ws.length/\(∀n∈(BL segs oldest ws).1,∃s∈segs,s.1=n)/\(∀l∈(BL segs oldest ws).2,l∈ws)/\De (BL segs oldest ws).2<=De ws
 | []=>⟨As _,(λn h=>absurd h A4f),(λl H=>H),As _⟩
 | l::r=>by
  obtain⟨h1,z,E,h4⟩:=TB segs oldest r;rw[TC,NQ];split
  ·exact⟨by simp;omega,z,λx d=>Bw _ (E x d),by omega⟩
  ·split
   ·refine⟨by simp;omega,z,λx d=>?_,by rw[NQ];omega⟩;rcases BQ.1 d with rfl|d
    ·exact BC
    ·exact Bw _ (E x d)
   ·rename_i s I;refine⟨by simp;omega,λn h=>?_,λx d=>Bw _ (E x d),by dsimp only;omega⟩;rcases BQ.1 h with rfl|h
    ·exact⟨s,A4i I,rfl⟩
    ·exact z n h
def NY{P:PD}:∀(E:List Int) (l:List (Int×List Pu)),P.segs E=some l->∀x∈l,x.1∈E
 | [],l,h=>by cases h;exact λx z=>by cases z
 | n::r,l,h=>by
  unfold PD.segs at h;cases z:P.Cy n with
  | none=>rw[z]at h;cases h
  | some q=>
   rw[z]at h;dsimp only at h;cases hy:P.segs r with
   | none=>rw[hy]at h;cases h
   | some y=>
    rw[hy]at h;cases h;intro x d;rcases BQ.1 d with rfl|d
    ·exact BC
    ·exact Bw _ (NY r y hy x d)
section
variable {N ab b a c m B:Nat} {A:Ar} {P:PD} {FT:Nat->Prop}
structure Hy (w5 w:World) (B0:Nat) (vk vf:Value) (kk:List Int) (ff:List (List Pu)):Prop where
 Ak:A3 (λ_=>False) w5 w
 Hm:DD w vk kk
 JO:∀g,vk.ownBlock=some g->w5.heap.size<=g
 AU:∃fvs:List Value,fvs.length=ff.length/\w.ownsRow 0 97 1 vf ff.length fvs/\(∀g,vf.ownBlock=some g->w5.heap.size<=g)/\(∀k (h1:k<fvs.length) (h2:k<ff.length),AZ w5 (fvs[k]'h1) (ff[k]'h2))/\∀x∈fvs,∀g,x.ownBlock=some g->B0<=g
def Hy.aM{Y w w':World}{H:Nat}{L I:Value}{O:List Int}{W:List (List Pu)}(h:Hy Y w H L I O W)(E:A3 Ab w w'):Hy Y w' H L I O W:=by
 obtain⟨d,f1,f2,f3,f4,f5⟩:=h.AU;exact⟨h.Ak.tr E,Az h.Hm λg z=>E.Ap g (AI h.Hm z) (λh=>h),h.JO,d,f1,Az f2 λg z=>E.Ap g (AI f2 z) (λh=>h),f3,f4,f5⟩
def Hy.fZ{w5 w w':World}{aA:Nat}{L E Y:Value}{z:List Int}{ff:List (List Pu)}{n:Int}(h:Hy w5 w aA L Y z ff)(I:App w w' 3 1 L E (z.length+1) (DO z++DO [n])):Hy w5 w' aA E Y (z++[n]) ff:=by
 have hc:=I.Ak (S:=λk=>L.oB k) λ_ h=>h;obtain⟨O,f1,f2,f3,f4,f5⟩:=h.AU;refine⟨h.Ak.Aw hc λx W hlt=>by have:=h.JO x W;omega,?_,λg d=>?_,O,f1,Az f2 λg d=>hc.Ap g (AI f2 d) λW=>Ip f2 h.Hm (by decide) d W,f3,f4,f5⟩
 ·have e:(z++[n]).length=z.length+1:=by simp
  unfold DD;rw[L6,e];exact I.AB
 ·rcases I.Ck with H|H
  ·rw[H]at d;exact h.JO g d
  ·rw[H]at d;cases d;exact h.Ak.Ao
def Hy.addF{Y w w':World}{aA:Nat}{vk I O x:Value}{kk:List Int}{z:List (List Pu)}{l:List Pu}(h:Hy Y w aA vk I kk z)(W:AZ Y x l)(aD:∀g,x.ownBlock=some g->aA<=g)(d:List Value)(f1:d.length=z.length)(f2:w.ownsRow 0 97 1 I z.length d)(f3:∀g,I.ownBlock=some g->Y.heap.size<=g)(f4:∀k (H:k<d.length) (h2:k<z.length),AZ Y (d[k]'H) (z[k]'h2))(f5:∀x∈d,∀g,x.ownBlock=some g->aA<=g)(hA:App w w' 97 1 I O (z.length+1) (d++[x])):Hy Y w' aA vk O kk (z++[l]):=by
 have hc:=hA.Ak (S:=λk=>I.oB k) λ_ h=>h;refine⟨h.Ak.Aw hc λx W hlt=>by have:=f3 x W;omega,Az h.Hm λg E=>hc.Ap g (AI h.Hm E) λW=>Ip h.Hm f2 (by decide) E W,h.JO,d++[x],by simp[f1],?_,λg E=>?_,λk H h2=>?_,λy L g E=>?_⟩
 ·have e:(z++[l]).length=z.length+1:=by simp
  rw[e];exact hA.AB
 ·rcases hA.Ck with H|H
  ·rw[H]at E;exact f3 g E
  ·rw[H]at E;cases E;exact h.Ak.Ao
 ·by_cases hk:k<z.length
  ·rw[Fb (show k<d.length by omega),Fb hk];exact f4 k (by omega) hk
  ·(have aB:k=z.length:=by simp at h2;omega);have e1:(d++[x])[k]'H=x:=by
    (have:k=d.length:=by omega);subst this;simp
   (have e2:(z++[l])[k]'h2=l:=by subst aB;simp);rw[e1,e2];exact W
 ·rcases AV.1 L with L|L
  ·exact f5 y L g E
  ·rw[Iv.1 L]at E;exact aD g E
end
section
variable {N ab b a c m B:Nat} {A:Ar} {P:PD} {FT:Nat->Prop}
def A3s(hS:DU N)(hN:N<=134217728)(w:World)(h:AD w ab b A P FT)(dG:∀k,FT k->k<w.heap.size)(Al oldest:Int)(hw:1<=Al/\Al<=4611686018427387904)(hall:∀segs,P.segs A.ix.segs=some segs->(segs.flatMap (·.2)++(P.puts A.j.Am).1).length<=N/\∀p∈segs.flatMap (·.2)++(P.puts A.j.Am).1,Bh p)(aI:A.ix.segs.length<=1073741824/\A.ix.segs.length*m<=4398046511104)(cG:0<=A.Aa/\A.Aa+N<=9223372036854775807)(cJ:AE (A.j.Aa+1))(bF:∀x∈A.ix.segs,AE x)(hF:Fit P a c m)(hl:CU (a+N+2) (c+2*a+2*N+4) (m+37*N+12))(hm:A.j.Am.length*m<=70368744177664)(hn:∀n∈A.ix.segs,CM n)(bI:∀n∈A.j.Am,CM n)(b2:A.j.Am.length<=1073741824)(hL:Lets B w)(cY:∀k,FT k->B<=k):
 Af 70 #[A5 ab,A0 Al,A0 oldest] w (Aj (A0 (A.aQ P Al oldest).1) λw'=>Aq w FT w' (λw' aK=>AD w' ab b (A.aQ P Al oldest).2.1 (A.aQ P Al oldest).2.2 aK)):=by
 obtain⟨i0,hi,eZ,eI,eQ⟩:=E9 Ij;obtain⟨j0,hj,e2,eW,eC⟩:=OY;obtain⟨s0,Y,eX,dV,eV⟩:=S4;obtain⟨xb,jb,sv,ov,lv,jo,Ft,hv,cT⟩:=id h;have bJ:CU a c m:=⟨by have:=hl.a;omega,by have:=hl.c;omega,by have:=hl.m;omega⟩;have k0:A3 Ab w (w.aC #[A0 oldest] 3):=(A3.I _ w).ai _;have cA:(w.aC #[A0 oldest] 3).heap[w.heap.size]?=some (.cells #[A0 oldest] 3 (0,0)):=BO w _;have dJ:Hid (P.segs A.ix.segs=none->A.aQ P Al oldest=(7,A,P)):=λh=>by unfold Ar.aQ;rw[h]
 have dH:Hid (∀segs,P.segs A.ix.segs=some segs->(P.puts A.j.Am).2≠0->A.aQ P Al oldest=((P.puts A.j.Am).2,A,P)):=λsegs h hp=>by unfold Ar.aQ;rw[h];dsimp only;rw[Ai hp]
 have dL:Hid (∀segs,P.segs A.ix.segs=some segs->(P.puts A.j.Am).2=0->A.aQ P Al oldest=A.aG P ((BL segs oldest (BA Al (segs.flatMap (·.2)++(P.puts A.j.Am).1))).1.mergeSort λx y=>decide (x<=y)) (BL segs oldest (BA Al (segs.flatMap (·.2)++(P.puts A.j.Am).1))).2):=λsegs h hp=>by
  unfold Ar.aQ;rw[h];dsimp only;rw[Ae (by simp[hp])]
 obtain⟨R,hR⟩:∃R,A.aQ P Al oldest=R:=⟨_,rfl⟩;rw[hR]at dJ dH dL ⊢;have H:=A1 h;have aJ:=A1 dG;have aB:Hid (∀E n,A3 Ab w E->R=(n,A,P)->R.1=n/\Aq w FT E (λw' aK=>AD w' ab b R.2.1 R.2.2 aK)):=λE n hc he=>by
  subst he;exact⟨rfl,hc.aa λ_ _ h=>h.elim,FT,H.o.au hc,λk hk=>Bq (aJ.o k hk) hc.Ao,λk hk=>.inl hk⟩
 have eY:=A1 (Xz _ (hv.au k0) hF bJ hn aI.1 (hL.aM k0));have eD:Hid (∀E,A3 Ab w E->_):=λE hc=>Oh E (hv.au hc).dk (hv.au hc).lt (hv.au hc).jn hF bJ hm bI (hL.aM hc);have e9:Hid (∀E,A3 Ab w E->E.cell? (Ac ab 2)=some (A5 jb)):=λE hc=>(hv.au hc).Ag.c2
 have eF:Hid (∀segs,P.segs A.ix.segs=some segs->∀E eA v,Gr E eA b v segs->Af 101 #[v] E λe w'=>∃v',e=.returned v'/\AZ w' v' (segs.flatMap (·.2))/\(∀g,v'.oB g->E.heap.size<=g)/\A3 Ab E w'):=λsegs Y E eA v z=>by
  obtain⟨q1,q2⟩:=NZ hF A.ix.segs segs Y;exact Sf E eA v segs z (by rw[q1];exact aI.1) q2 (by rw[q1];exact aI.2)
 have a9:Hid (∀segs,P.segs A.ix.segs=some segs->∀E v,AZ E v (segs.flatMap (·.2)++(P.puts A.j.Am).1)->_):=λsegs Y E v z=>TV hS hN E v Al _ (hall segs Y).1 z (λp hp=>((hall segs Y).2 p hp).2.1) hw
 have bD:Hid (∀segs,P.segs A.ix.segs=some segs->(P.puts A.j.Am).2=0->∀E kv fv,A3 Ab w E->DD E kv ((BL segs oldest (BA Al (segs.flatMap (·.2)++(P.puts A.j.Am).1))).1.mergeSort λx y=>decide (x<=y))->(∀g,kv.oB g->w.heap.size<=g)->PM E fv (BL segs oldest (BA Al (segs.flatMap (·.2)++(P.puts A.j.Am).1))).2 FT->
  Af 107 #[A5 ab,kv,fv] E (Aj (A0 R.1) λw'=>Aq w FT w' (λw' aK=>AD w' ab b R.2.1 R.2.2 aK))):=λsegs Y hp E kv fv hc hk bP hf=>by
  obtain⟨z1,z2,z3⟩:=P4 Al (segs.flatMap (·.2)++(P.puts A.j.Am).1);obtain⟨y1,y2,y3,y4⟩:=TB segs oldest (BA Al (segs.flatMap (·.2)++(P.puts A.j.Am).1));obtain⟨n1,n2⟩:=hall segs Y;have aZ:∀n∈(BL segs oldest (BA Al (segs.flatMap (·.2)++(P.puts A.j.Am).1))).1.mergeSort (λx y=>decide (x<=y)),n∈A.ix.segs:=λn hn=>by
   obtain⟨s,dR,rfl⟩:=y2 n (A4j.1 hn);exact NY _ _ Y s dR
  rw[dL.o segs Y hp];have bT:((BL segs oldest (BA Al (segs.flatMap (·.2)++(P.puts A.j.Am).1))).1.mergeSort (λx y=>decide (x<=y))).length=(BL segs oldest (BA Al (segs.flatMap (·.2)++(P.puts A.j.Am).1))).1.length:=Nh _
  refine(Rz E (H.o.au hc) (λk hk=>Bq (aJ.o k hk) hc.Ao) kv _ hk (λg L=>⟨λz=>by have:=bP g L;have:=aJ.o g z;omega,AR hL.1 (bP g L)⟩) fv _ hf
   (λl hl=>⟨λp hp=>n2 p ((z3 l (y3 l hl)).1 p hp),by have:=(z3 l (y3 l hl)).2;omega⟩) ⟨cG.1,by omega⟩ cJ (λx z=>bF x (aZ x z)) hF ⟨by have:=hl.a;omega,by have:=hl.c;omega,by have:=hl.m;rw[bT];omega⟩ (by rw[bT];omega) hn bI (λx z=>hn x (aZ x z)) aI.1 b2 (hL.aM hc) cY).mono ?_
  rintro e w'⟨h1,h2⟩;exact⟨h1,Aq.a7 (hc.aa λ_ _ h=>h.elim) (λk hk=>hk.elim .inl λh=>.inr (bP k h)) h2⟩
 have a5:Hid (∀segs,P.segs A.ix.segs=some segs->(segs.flatMap (·.2)++(P.puts A.j.Am).1).length<=134217728/\(BA Al (segs.flatMap (·.2)++(P.puts A.j.Am).1)).length<=134217728):=λsegs Y=>by
  have h1:=(hall segs Y).1;have h2:=(P4 Al (segs.flatMap (·.2)++(P.puts A.j.Am).1)).1;omega
 have dM:Hid (∀segs,P.segs A.ix.segs=some segs->∀x∈segs,AE x.1):=λsegs Y x z=>bF _ (NY _ _ Y x z);have eK:=A1 k0;have dD:=A1 cA;clear hR h hv dG cT hall aI cG cJ bF hF hl hm hn bI b2 hL cY bJ k0 cA hw hS
 go_enter func70,ntmps70
 go_wp2_with (fail);refine eY.m ?_;rintro e w1 (⟨Y,rfl,hc1⟩|⟨segs,v1,Y,rfl,hv1,hc1⟩)
 ·have dE:=A1 (aB.o w1 7 (eK.o.tr hc1) (dJ.o Y));clear Y hc1 eY dJ dH dL aB eD eF a9 bD;go_wp2;go_ret;exact⟨by rw[dE.o.1];rfl,dE.o.2⟩
 have aL:=A1 Y;have dF:=A1 hv1;have dK:Hid (A3 Ab w w1):=eK.o.tr hc1;have b1:Hid (w1.cell? (Ac w.heap.size 0)=some (A0 oldest)):=hc1.ao (by simp only[World.cell?,dD.o];rfl);have aM:=A1 (eD.o w1 dK.o);have d2:=e9.o w1 dK.o;have aP:=A1 (dH.o segs aL.o);have I:=A1 (bD.o segs aL.o);have aA:=A1 (a9.o segs aL.o);have O:=A1 (a5.o segs aL.o);have aR:=A1 (eF.o segs aL.o);clear Y hv1 hc1 eY dJ dH dL eD eF a9 bD a5 dM eK dD;obtain⟨ps,bV⟩:∃ps,(P.puts A.j.Am).1=ps:=⟨_,rfl⟩;obtain⟨pe,cU⟩:∃pe,(P.puts A.j.Am).2=pe:=⟨_,rfl⟩;rw[bV]at aM I aA O;rw[cU]at aM I aP;clear bV cU;go_wp2_with (fail);refine aM.m ?_;rintro e w2⟨v2,rfl,aQ,dC,aH⟩;by_cases hp:pe=0
 case neg=>
  have hpb:(pe !=0)=true:=by simpa using hp
  have dE:=A1 (aB.o w2 pe (dK.o.tr aH) (aP.o hp));clear aQ dC aH aM I aA aR aB aP hp;go_wp2;go_ret;exact⟨by rw[dE.o.1];rfl,dE.o.2⟩
 case pos=>
 subst hp;obtain⟨pl,bY⟩:∃pl,segs.flatMap (·.2)=pl:=⟨_,rfl⟩;rw[bY]at I aA O aR;have fD:Hid (A3 Ab w w2):=dK.o.tr aH;have bG:=A1 (dF.o.au aH);have bS:=A1 (aH.ao b1.o);have b6:=A1 (aR.o w2 _ v1 bG.o);obtain⟨v2a,v2c,rfl,v21,eJ,-⟩:=B9 aQ;unfold maxLen at eJ;have bZ:=A1 aQ;clear bY aQ dC aH aM aB aP aR dF b1 d2;go_wp2_with (fail);refine b6.m ?_;rintro e w3⟨v3,rfl,bM,cV,bH⟩;obtain⟨cD,cF,rfl,v31,dW,-⟩:=B9 bM;unfold maxLen at dW;have cI:=A1 bM;have b3:=A1 cV;have cN:=A1 bH;have a2:=A1 (Src.bO underlying97 (Az bZ.o λg L=>bH.Ap g (AI bZ.o L) (λh=>h)) (I6 ps));have bR:Hid ((pl.length+ps.length)*24<=140737488355328):=by have:=O.o.1;rw[B1]at this;unfold Hid;omega
 clear bM cV bH b6;go_wp2_with (at_builtin;refine D5 rfl (.tmp 35) (.tmp 36) 97 97 rfl 113 i0 _ 3 24 underlying97 hi eZ eI eQ rfl (by decide) (.slice cD pl.length cF) pl.length (Ba pl) (by rfl) cI.o _ ps.length _ (by rfl) a2.o bR.o ?_;intro a4 cS w4 hA;have dZ:=A1 hA;clear hA);have b7:=dZ.o.Ak (S:=λk=>(Value.slice cD pl.length cF).oB k) λ_ h=>h;have bW:AZ w4 (.slice a4 (pl.length+ps.length) cS) (pl++ps):=by
  have e:(pl++ps).length=pl.length+ps.length:=by simp
  unfold AZ;rw[IL,e];exact dZ.o.AB
 have aY:A3 Ab w2 w4:=cN.o.Aw b7 λx z eL=>by have:=b3.o x z;omega
 have e6:=A1 (aA.o w4 _ bW);have cB:=A1 (bG.o.au aY);have cQ:=A1 (aY.ao bS.o);have e3:Hid (A3 Ab w w4):=fD.o.tr aY;clear b7 bW aY aA bG bS dZ a2 bR cN b3 cI;refine e6.m ?_;rintro e w5⟨v5,vs,rfl,aS,aV⟩;obtain⟨ws,bX⟩:∃ws,BA Al (pl++ps)=ws:=⟨_,rfl⟩;rw[bX]at aS I O;obtain⟨v5a,v5c,rfl,v51,eP,bU,-⟩:=B9 aS.By;unfold maxLen at eP;have aU:=A1 aS;have fC:=A1 bU;have cE:=A1 (cB.o.au aV);have dA:=A1 (aV.ao cQ.o);have dU:Hid (A3 Ab w w5):=e3.o.tr aV;have bK:Hid (ws.length<=134217728):=O.o.2;obtain⟨ob,b9⟩:∃ob,w.heap.size=ob:=⟨_,rfl⟩;rw[b9]at dA ⊢;clear bX aS bU aV e6 cB cQ b9;go_wp2;go_loopw [10,11,41] (λvk vf iv wr=>∃(k:Nat) (kk:List Int) (ff:List (List Pu)),iv=A0 k/\k<=ws.length/\kk.length+ff.length<=k/\Hid (Hy w5 wr w4.heap.size vk vf kk ff/\BL segs oldest ws=(kk++(BL segs oldest (ws.drop k)).1,ff++(BL segs oldest (ws.drop k)).2))) (λ_ _ iv _=>ws.length-(intOf iv).toNat)
 case atStart=>exact⟨0,[],[],rfl,by omega,by simp,⟨A3.I _ _,CL _ _ _ _,λg L=>by simp[Value.ownBlock]at L,[],rfl,CL _ _ _ _,λg L=>by simp[Value.ownBlock]at L,λk h1=>by simp at h1,λx z=>by cases z⟩,by simp⟩
 case round=>
  obtain⟨k,kk,ff,rfl,hk,a6,hI⟩:=hrel;obtain⟨i1,i2⟩:=hI.o;obtain⟨ka,kc,rfl,kc1,eS,-⟩:=B9 i1.Hm;obtain⟨bL,f1,f2,f3,f4,f5⟩:=i1.AU;obtain⟨fa,fc,rfl,fc1,eB,-⟩:=B9 f2;unfold maxLen at eS eB;by_cases aG:k<ws.length
  ·(have aF:k<vs.length:=by have:=aU.o.B5;omega);obtain⟨g,rfl⟩:=fC.o (by omega);have hc:=BF aU.o.By (g:=g) rfl (show vs[k]?=some (vs[k]'aF) from E5 aF);have z:=aU.o.ls k aF aG;have bA:=aU.o.li (vs[k]'aF) (BY aF);have a7:=Fy aG;obtain⟨x,cM⟩:∃x,(vs[k]'aF)=x:=⟨_,rfl⟩;obtain⟨l,cC⟩:∃l,(ws[k]'aG)=l:=⟨_,rfl⟩;rw[cM]at hc z bA;rw[cC]at z a7;rw[a7,TC]at i2;obtain⟨xa,xc,rfl,x1,x2,-⟩:=B9 z;have e1:=i1.Ak.ao hc;have kA:A3 Ab wr (wr.aC #[.slice xa l.length xc] 97):=(A3.I _ wr).ai _;have aO:A3 Ab w5 (wr.aC #[.slice xa l.length xc] 97):=i1.Ak.tr kA;have pA:(wr.aC #[.slice xa l.length xc] 97).heap[wr.heap.size]?=some (.cells #[.slice xa l.length xc] 97 (0,0)):=BO wr _;have pc:(wr.aC #[.slice xa l.length xc] 97).cell? (Ac wr.heap.size 0)=some (.slice xa l.length xc):=Gn pA;have cO:=A1 (A2A _ _ l (Az z λg L=>aO.Ap g (AI z L) (λh=>h)) ob oldest (aO.ao dA.o));have a3:=A1 i1;have eT:=A1 i2;have eN:=A1 f1;have bQ:=A1 f2;have eR:=A1 f3;have dI:=A1 f4;have dS:=A1 f5;have eU:=A1 z;have dY:=A1 bA;have fB:=A1 aO;have cL:=A1 kA;have e5:=A1 pc;(have dN:(k:Int)<(ws.length:Int):=by omega);have hk0:=C2 k;obtain⟨d,hd⟩:∃d,l.any (λp=>decide (oldest<=p.2.1))=d:=⟨_,rfl⟩;rw[hd]at cO eT;clear hI i1 i2 f1 f2 f3 f4 f5 hc z bA a7 cM cC kA aO pA hd;cases d with
   | false=>
    (have a1:Hid (BL segs oldest ws=(kk++(BL segs oldest (ws.drop (k+1))).1,ff++(BL segs oldest (ws.drop (k+1))).2)):=by have:=eT.o;rwa [Ai rfl]at this);go_wp2_with (fail);refine cO.m ?_;rintro e w6⟨rfl,aD⟩;have eG:=A1 (a3.o.aM (cL.o.tr aD));clear aD cO pc;go_wp2;go_roundw
    case rel=>exact⟨k+1,kk,ff,by go_num,aG,Nb a6,eG.o,a1.o⟩
    case measure=>simp[intOf];omega
   | true=>
    have a1:=A1 eT.o;rw[Ae (by simp)]at a1;obtain⟨aX,g1,g2,g3,g4⟩:=cE.o;obtain⟨va,vc,rfl,va1,dO,b0,-⟩:=B9 g2;unfold maxLen at dO;have e8:=A1 b0;have eE:=A1 g1;have dQ:=A1 g2;have e0:=A1 g4;clear b0 g1 g2 g3 g4;go_wp2_with (fail);refine cO.m ?_;rintro e w6⟨rfl,aD⟩;have aN:A3 Ab w5 w6:=fB.o.tr aD;have eM:=A1 (A1w w6 _ segs (cE.o.au aN) wr.heap.size (.slice xa l.length xc) l (aD.ao e5.o) (Az eU.o λg L=>aN.Ap g (AI eU.o L) (λh=>h)));have cZ:Hid (A3 Ab wr w6):=cL.o.tr aD;have eH:=A1 aN;have eO:=A1 (aD.ao e5.o);clear aD cO aN pc;go_wp2_with (fail);refine eM.m ?_;rintro e w7⟨(⟨rfl,hf⟩|⟨k2,b8,rfl,hf⟩),W⟩
    ·rw[hf]at a1;(have dP:Hid (BL segs oldest ws=(kk++(BL segs oldest (ws.drop (k+1))).1,(ff++[l])++(BL segs oldest (ws.drop (k+1))).2)):=by have:=a1.o;unfold Hid;rw[this];simp);have pc7:=W.ao eO.o;have k7:A3 Ab wr (w7.aC #[.slice xa l.length xc] 97):=(cZ.o.tr W).ai _;have aT:=A1 (a3.o.aM k7);have a0:=A1 (Az bQ.o λg L=>k7.Ap g (AI bQ.o L) (λh=>h));have bC:=A1 (Src.bb (size:=1) (B:=w7.heap.size) underlying174 w7 #[.slice xa l.length xc] 97 (by simp) 1 1 rfl (by simp[Value.oneCell']));(have bO:Hid ((ff.length+1)*24<=140737488355328):=by have:=bK.o;unfold Hid;omega);clear hf W k7 eM;go_wp2_with (at_builtin;refine D5 rfl (.tmp 54) (.tmp 56) 174 174 rfl 97 s0 _ 1 24 underlying174 Y eX dV eV rfl (by decide) (.slice fa ff.length fc) ff.length bL (by rfl) a0.o _ 1 _ (by rfl) bC.o bO.o ?_;intro a8 cX w8 hA;have bE:=A1 hA;clear hA);have bB:=A1 (aT.o.addF eU.o dY.o bL eN.o a0.o eR.o dI.o dS.o bE.o);go_roundw
     case rel=>exact⟨k+1,kk,ff++[l],by go_num,aG,by rw[B1];exact PU a6,bB.o,dP.o⟩
     case measure=>simp[intOf];omega
    ·rw[hf]at a1;obtain⟨gv,rfl⟩:=e8.o (by omega);(have aW:k2<aX.length:=by have:=eE.o;omega);have aE:A3 Ab w5 w7:=eH.o.tr W;have bN:=(e0.o k2 aW b8).au aE;have dT:=aE.ao (BF dQ.o (g:=gv) rfl (show (Gy aX)[k2]?=some (A5 (aX[k2]'aW)) by simp[Gy,aW]));obtain⟨gb,b4⟩:∃gb,(aX[k2]'aW)=gb:=⟨_,rfl⟩;rw[b4]at bN dT;obtain⟨sg,dB⟩:∃sg,(segs[k2]'b8)=sg:=⟨_,rfl⟩;rw[dB]at bN a1;obtain⟨n,sl⟩:=sg;obtain⟨pv,hb,-,-,-⟩:=bN;have c3:=hb.c3;dsimp only at c3;(have dP:Hid (BL segs oldest ws=((kk++[n])++(BL segs oldest (ws.drop (k+1))).1,ff++(BL segs oldest (ws.drop (k+1))).2)):=by have:=a1.o;unfold Hid;rw[this];simp);have k7:A3 Ab wr (w7.aC #[A0 n] 3):=(cZ.o.tr W).ai _;have aT:=A1 (a3.o.aM k7);have bC:=A1 (Src.bb (size:=1) (B:=w7.heap.size) underlying26 w7 #[A0 n] 3 (by simp) 1 1 rfl (JP [n]));(have bO:Hid ((kk.length+1)*8<=140737488355328):=by have:=bK.o;unfold Hid;omega);(have hk2i:(k2:Int)<(segs.length:Int):=by omega);have hk20:=C2 k2;clear hf W k7 eM hb b4 dB aE;go_wp2_with (at_builtin;refine D5 rfl (.tmp 58) (.tmp 66) 26 26 rfl 3 j0 _ 1 8 underlying26 hj e2 eW eC rfl (by decide) (.slice ka kk.length kc) kk.length (DO kk) (by rfl) aT.o.Hm _ 1 _ (by rfl) bC.o bO.o ?_;intro a8 cX w8 hA;have bE:=A1 hA;clear hA);have bB:=A1 (aT.o.fZ bE.o);go_roundw
     case rel=>exact⟨k+1,kk++[n],ff,by go_num,aG,by rw[B1,Nat.add_right_comm];exact PU a6,bB.o,dP.o⟩
     case measure=>simp[intOf];omega
  ·(have dX:k=ws.length:=by omega);subst dX;rw[Gu]at i2;(have cP:BL segs oldest ws=(kk,ff):=by simpa[BL] using i2);rw[cP]at I;(have dN:¬((ws.length:Int)<(ws.length:Int)):=by omega);have e4:=A1 (Xr wr _ kk i1.Hm (by have:=bK.o;omega));have a3:=A1 i1;have eN:=A1 f1;have bQ:=A1 f2;have eR:=A1 f3;have dI:=A1 f4;have dS:=A1 f5;clear hI i1 i2 f1 f2 f3 f4 f5 cP;go_wp2_with (fail);refine e4.m ?_;rintro e w7⟨rfl,b5,W⟩;(have aE:A3 Ab w5 w7:=a3.o.Ak.Aw W λx z eL=>by have:=a3.o.JO x z;omega);have cH:A3 Ab w w7:=dU.o.tr aE
   have e7:=A1 (I.o trivial w7 _ (.slice fa ff.length fc) cH b5 (λg L=>AR dU.o.Ao (a3.o.JO g L))
    ⟨bL,eN.o,Az bQ.o λg L=>W.Ap g (AI bQ.o L) (λz=>Ip bQ.o a3.o.Hm (by decide) L z),
     λk h1 h2=>Az (dI.o k h1 h2) λg L=>aE.Ap g (AI (dI.o k h1 h2) L) (λh=>h),
     λg L z=>by have:=eR.o g L;have:=aJ.o g z;have:=dU.o.Ao;omega,
     λx z g L hf=>by have:=dS.o x z g L;have:=aJ.o g hf;have:=e3.o.Ao;omega⟩)
   clear b5 W aE cH e4 I;go_wp2_with (fail);refine e7.m ?_;rintro e w8⟨rfl,hI⟩;have fA:=A1 hI;clear hI e7;go_wp2;go_ret;exact⟨rfl,fA.o⟩
end
end
section
open Go.RowKit
structure SV (w:World) (sb ab b:Nat) (mu Ad aB A6:Int) (ro:Bool) (lv:Nat->Value) (L:Nat->List Pt) (A:Ar) (P:PD) (F0:Nat->Prop):Prop where
 Ag:Bt w sb mu (.pointer (some ⟨ab,0,none⟩)) Ad aB A6 ro lv
 Ej:Eb w lv L
 ar:AD w ab b A P F0
 lt:∀k,F0 k->k<w.heap.size
 ns:¬F0 sb
 nr:∀k,ED lv k->¬F0 k
def SF(w:World)(sb ab b:Nat)(mu Ad aB A6:Int)(ro:Bool)(L:Nat->List Pt)(A:Ar)(P:PD)(FT:Nat->Prop):Prop:=
 ∃lv F0,SV w sb ab b mu Ad aB A6 ro lv L A P F0/\∀k,F0 k\/Own sb lv k->FT k
section
variable {w w' w2:World} {sb ab b:Nat} {mu aD Ad aB A6 aA:Int} {ro aE:Bool} {lv lv':Nat->Value} {L L':Nat->List Pt} {A A':Ar} {P P':PD} {F0 FT:Nat->Prop}
def SV.fm(h:SV w sb ab b mu Ad aB A6 ro lv L A P F0){k:Nat}(d:F0 k\/Own sb lv k):k<w.heap.size:=by
 rcases d with d|rfl|d
 ·exact h.lt k d
 ·exact h.Ag.lt
 ·exact h.Ej.lt d
def SV.nb(h:SV w sb ab b mu Ad aB A6 ro lv L A P F0):¬ED lv sb:=h.Ej.ne h.Ag (by decide)
def SV.Ak(h:SV w sb ab b mu Ad aB A6 ro lv L A P F0){S:Nat->Prop}(z:A3 S w w')(E:∀k,F0 k\/Own sb lv k->¬S k):SV w' sb ab b mu Ad aB A6 ro lv L A P F0:=
 ⟨h.Ag.Ak z (E sb (.inr (.inl rfl))),h.Ej.Ak z λg H=>E g (.inr (.inr H)),h.ar.aP (z.ay (λk d=>h.lt k d) λk d=>E k (.inl d)) z.Ao,
  λk d=>Bq (h.lt k d) z.Ao,h.ns,h.nr⟩
def SV.au(h:SV w sb ab b mu Ad aB A6 ro lv L A P F0)(d:A3 Ab w w'):SV w' sb ab b mu Ad aB A6 ro lv L A P F0:=h.Ak d λ_ _ h=>h
def SF.au(h:SF w sb ab b mu Ad aB A6 ro L A P FT)(E:A3 Ab w w'):SF w' sb ab b mu Ad aB A6 ro L A P FT:=by
 obtain⟨lv,F0,z,d⟩:=h;exact⟨lv,F0,z.au E,d⟩
def SV.bN(h:SV w' sb ab b mu Ad aB A6 ro lv' L' A' P' F0){S:Nat->Prop}(I:A3 S w w')(E:∀k,k<w.heap.size->S k->FT k)(H:∀k,F0 k\/Own sb lv' k->FT k\/w.heap.size<=k):
 Aq w FT w' (λw' d=>SF w' sb ab b mu Ad aB A6 ro L' A' P' d):=
 ⟨I.aa E,λk=>F0 k\/Own sb lv' k,⟨lv',F0,h,λ_ h=>h⟩,λ_ z=>h.fm z,H⟩
def SV.ag(h:SV w sb ab b mu Ad aB A6 ro lv L A P F0)(z:Ef w w' sb aD (.pointer (some ⟨ab,0,none⟩)) Ad aB aA aE lv lv' L'):
 SV w' sb ab b aD Ad aB aA aE lv' L' A P F0:=
 ⟨z.Ag,z.Ej,h.ar.aP (z.Ak.ay (λk d=>h.lt k d) λk d E=>by
  rcases E with rfl|E
  ·exact h.ns d
  ·exact h.nr k E d) z.Ak.Ao,λk d=>Bq (h.lt k d) z.Ak.Ao,h.ns,λk d E=>by
  rcases z.AB k d with H|H
  ·exact h.nr k H E
  ·have:=h.lt k E;omega⟩
def SV.dm(h:SV w sb ab b mu Ad aB A6 ro lv L A P F0)(d:∀k,F0 k\/Own sb lv k->FT k)(H:Ef w w' sb aD (A5 ab) Ad aB aA aE lv lv' L'):
 Aq w FT w' (λw' E=>SF w' sb ab b aD Ad aB aA aE L' A P E):=
 (h.ag H).bN H.Ak (λk _ z=>d k (.inr z)) λk z=>by
  rcases z with z|rfl|z
  ·exact .inl (d k (.inl z))
  ·exact .inl (d _ (.inr (.inl rfl)))
  ·exact(H.AB k z).imp (λh=>d k (.inr (.inr h))) id
def SV.ej(h:SV w sb ab b mu Ad aB A6 ro lv L A P F0)(d:∀k,F0 k\/Own sb lv k->FT k)(Y:Aq w F0 w' (λw' E=>AD w' ab b A' P' E)):
 Aq w FT w' (λw' E=>SF w' sb ab b mu Ad aB A6 ro L A' P' E):=by
 obtain⟨O,aF,h1,h2,I⟩:=Y;have hb:=h.Ag.lt;refine(SV.bN (w':=w') (lv':=lv) (F0:=aF) ⟨h.Ag.Ak O h.ns,h.Ej.Ak O h.nr,h1,h2,λW=>?_,λk z W=>?_⟩ O (λk _ z=>d k (.inl z)) λk z=>?_)
 ·rcases I _ W with H|H
  ·exact h.ns H
  ·omega
 ·rcases I _ W with H|H
  ·exact h.nr k z H
  ·have:=h.Ej.lt z;omega
 ·rcases z with z|z
  ·exact(I k z).imp (λh=>d k (.inl h)) id
  ·exact .inl (d k (.inr z))
def SF.Di(h:SF w sb ab b mu Ad aB A6 ro L A P FT)(o:Nat)(u:Value)(H:∀lv,Bt w sb mu (.pointer (some ⟨ab,0,none⟩)) Ad aB A6 ro lv->Bt (w.setCell ⟨sb,o,none⟩ u) sb aD (.pointer (some ⟨ab,0,none⟩)) Ad aB aA aE lv):
 Aq w FT (w.setCell ⟨sb,o,none⟩ u) (λw' z=>SF w' sb ab b aD Ad aB aA aE L A P z):=by
 obtain⟨lv,F0,d,E⟩:=h;exact d.dm E (Ef.of (H lv d.Ag) d.Ej ((A3.I (One sb) w).aq rfl o u) d.nb)
def SFto.Di(h:Aq w FT w' (λw' d=>SF w' sb ab b mu Ad aB A6 ro L A P d))(o:Nat)(u:Value)(E:∀lv,Bt w' sb mu (.pointer (some ⟨ab,0,none⟩)) Ad aB A6 ro lv->Bt (w'.setCell ⟨sb,o,none⟩ u) sb aD (.pointer (some ⟨ab,0,none⟩)) Ad aB aA aE lv):
 Aq w FT (w'.setCell ⟨sb,o,none⟩ u) (λw' d=>SF w' sb ab b aD Ad aB aA aE L A P d):=
 h.Aw λ_ z _ _=>z.Di o u E
def Fm(L:Nat->List Pt)(o:Int)(k:Nat)(t v:Int):Nat->List Pt:=if o<=t then H3 L k (CA (L k) t v) else L
def OP(L:Nat->List Pt)(o:Int)(n:Nat)(t v:Int)(k:Nat):(Fm L o n t v k).length<=(L k).length+1:=by
 unfold Fm;split
 ·unfold H3;split
  ·rename_i e;subst e;exact(OZ _ _ _).2
  ·omega
 ·omega
def TD(w:World)(p:Pu)(h:SF w sb ab b mu Ad aB A6 ro L A P FT)(Y:0<=p.1/\p.1<8)(E:∀k,k<8->(L k).length<1099511627000)(hl:1<=Ad/\Ad<=4611686018427387904)(hc:AE A6):
 Af 60 #[A5 sb,Dv p] w (Aj (.tuple #[]) λw'=>Aq w FT w' (λw' O=>SF w' sb ab b mu Ad aB A6 ro (Fm L (Bc A6 Ad) p.1.toNat p.2.1 p.2.2) A P O)):=by
 obtain⟨k,t,v⟩:=p;obtain⟨lv,F0,d,W⟩:=h;unfold Dv;dsimp only at Y ⊢;obtain⟨I,hk2⟩:=Y;obtain⟨n,rfl⟩:=LN I;have H:n<8:=by omega
 refine(A00 w sb n _ _ (by decide) A6 Ad t v (L n) (lv n) H (d.Ej.dO d.Ag H) (by have:=E n H;omega) rfl rfl hl hc).mono ?_;rintro e w'⟨rfl,h3⟩;refine⟨rfl,?_⟩;unfold Fm;rw[Ez];rcases h3 with⟨ho,lv',hR⟩|⟨ho,z⟩
 ·rw[Ai ho];have hlen:=(OZ (L n) t v).2;obtain⟨b1,b2,b3,b4⟩:=d.Ej.ag d.Ag H hR rfl (by have:=E n H;omega);exact d.dm W ⟨b1,b2,b3,b4⟩
 ·rw[Ae (by omega)];exact(d.au z).bN z (λ_ _ h=>h.elim) λk hk=>.inl (W k hk)
end
def Rel(L:Nat->List Pt)(puts:List Pu)(Ad A6:Int):Prop:=∀k:Nat,k<8->(L k).filter (λx=>decide (Bc A6 Ad<=x.1))=refQ puts k (-9223372036854775808) 9223372036854775807 Ad A6
def RN(puts:List Pu)(s a b l c a' H l' E:Int)(g:Int->Bool)(h:∀p∈puts,FV s a' H l' E p=(FV s a b l c p&&g p.2.1)):
 refQ puts s a' H l' E=(refQ puts s a b l c).filter (λx=>g x.1):=by
 have key:∀(I:List Pu) (d:List Pt),Dz d->(∀p∈I,FV s a' H l' E p=(FV s a b l c p&&g p.2.1))->
  I.foldl (E0 s a' H l' E) (d.filter λx=>g x.1)=(I.foldl (E0 s a b l c) d).filter (λx=>g x.1):=by
  intro I
  induction I with
  | nil=>intro d _ _;rfl
  | cons p r ih=>
   intro d Y W;have L:=W p (by simp);simp only[LG];by_cases q:FV s a b l c p=true
   ·(have e1:E0 s a b l c d p=CA d p.2.1 p.2.2:=by unfold E0;rw[Ai q]);have O:E0 s a' H l' E (d.filter λx=>g x.1) p=(CA d p.2.1 p.2.2).filter (λx=>g x.1):=by
     unfold E0;rw[L,q,LP,TS Y]
    rw[e1,O];exact ih _ (L8 Y _ _) λp z=>W p (Bw _ z)
   ·(have q':FV s a b l c p=false:=by simpa using q);(have e1:E0 s a b l c d p=d:=by unfold E0;rw[q'];rfl);have O:E0 s a' H l' E (d.filter λx=>g x.1) p=d.filter λx=>g x.1:=by
     unfold E0;rw[L,q',VT];rfl
    rw[e1,O];exact ih _ Y λp z=>W p (Bw _ z)
 exact key puts [] List.Pairwise.nil h
def N0{t Ad A6:Int}(d:AE t):FM t Ad A6=decide (Bc A6 Ad<=t):=(Zu A6 Ad t d).symm
def Rel.b6{L:Nat->List Pt}{puts:List Pu}{Ad A6:Int}(h:Rel L puts Ad A6)(z:∀p∈puts,AE p.2.1){k:Nat}(E:k<8)(a b:Int):
 piece (L k) (max a (Bc A6 Ad)) b=refQ puts k a b Ad A6:=by
 have e:=RN puts k (-9223372036854775808) 9223372036854775807 Ad A6 a b Ad A6 (λt=>decide (a<=t)&&decide (t<=b)) λp d=>by
  obtain⟨I,H⟩:=z p d;unfold FV;have d1:=CE I;have d2:=CE H;rw[d1,d2];cases decide (p.1=(k:Int))<;>cases decide (a<=p.2.1)<;>cases decide (p.2.1<=b)<;>cases FM p.2.1 Ad A6<;>rfl
 rw[e,<-h k E,VD];unfold piece
 congr 1
 funext x
 apply Nu.2;simp only[FE,Dn];omega
def Rel.bT(Ad A6:Int):Rel (λ_=>[]) [] Ad A6:=λ_ _=>by simp[refQ]
def Rel.aw{L:Nat->List Pt}{puts:List Pu}{Ad A6:Int}(h:Rel L puts Ad A6)(I:∀k,k<8->Dz (L k)){s:Nat}(hs8:s<8){t v:Int}(E:AE t):
 Rel (Fm L (Bc A6 Ad) s t v) (puts++[((s:Int),t,v)]) Ad A6:=by
 intro k z;have O:refQ (puts++[((s:Int),t,v)]) k (-9223372036854775808) 9223372036854775807 Ad A6=E0 k (-9223372036854775808) 9223372036854775807 Ad A6 (refQ puts k (-9223372036854775808) 9223372036854775807 Ad A6) ((s:Int),t,v):=by
  unfold refQ;rw[Kj];rfl
 rw[O,<-h k z];obtain⟨t1,t2⟩:=E;have d1:=CE t1;have d2:=CE t2;unfold E0 FV;simp only[d1,d2,Bool.and_true,N0 (⟨t1,t2⟩:AE t)];unfold Fm;by_cases d:Bc A6 Ad<=t
 ·rw[Ai d];unfold H3;by_cases e:k=s
  ·subst e;have f:=TS (I k z) (λx=>decide (Bc A6 Ad<=x)) t v;simp only[CE d]at f ⊢;simp only[Ch]at f ⊢;simpa using f
  ·have H:¬(s:Int)=(k:Int):=λx=>e (by omega);simp[e,H]
 ·rw[Ae d];have:decide (Bc A6 Ad<=t)=false:=D2 d;simp[this]
def Oy{c d Ad:Int}(h:c<=d):Bc c Ad<=Bc d Ad:=by
 unfold Bc;split<;>split<;>omega
def Rel.dd{L H:Nat->List Pt}{puts:List Pu}{Ad A6 d:Int}(h:Rel L puts Ad A6)(O:∀p∈puts,AE p.2.1)(hc:A6<=d)(hf:HT L H (Bc d Ad)):Rel H puts Ad d:=by
 intro k I;have ho:Bc A6 Ad<=Bc d Ad:=Oy hc;have e:=RN puts k (-9223372036854775808) 9223372036854775807 Ad A6 (-9223372036854775808) 9223372036854775807 Ad d (λt=>decide (Bc d Ad<=t)) λp E=>by
  unfold FV;rw[N0 (O p E),N0 (O p E)];have:decide (Bc d Ad<=p.2.1)=(decide (Bc A6 Ad<=p.2.1)&&decide (Bc d Ad<=p.2.1)):=by
   apply Nu.2;simp only[FE,Dn];omega
  rw[this];simp[Bool.and_assoc]
 have W:(L k).filter (λx=>decide (Bc d Ad<=x.1))=refQ puts k (-9223372036854775808) 9223372036854775807 Ad d:=by
  rw[e,<-h k I,VD]
  congr 1
  funext x
  apply Nu.2;simp only[FE,Dn];omega
 rw[<-W];rcases hf k I with q|q
 ·rw[q]
 ·rw[q];have z:L k=(L k).take (BH (L k) (Bc d Ad))++(L k).drop (BH (L k) (Bc d Ad)):=(DM _ _).symm;have Y:((L k).take (BH (L k) (Bc d Ad))).filter (λx=>decide (Bc d Ad<=x.1))=[]:=by
   rw[VE];intro x hx;obtain⟨i,hi,rfl⟩:=List.mem_iff_getElem.1 hx;rw[BW]at hi;have:=JE (l:=L k) (t:=Bc d Ad) (i:=i) (by omega) (by omega);rw[Vy];simp;omega
  conv=>rhs;rw[z,LH,Y,Et]
def HT.B5{L d:Nat->List Pt}{o:Int}(h:HT L d o){k:Nat}(z:k<8):(d k).length<=(L k).length:=by
 rcases h k z with e|e
 ·rw[e];exact As _
 ·rw[e,Cw];omega

def Yp{L:Nat->List Pt}{a b:List Pu}{Ad A6:Int}(h:Rel L a Ad A6)(_ha:∀p∈b,Bh p)(I:Cb (Bc A6 Ad) a b):Rel L b Ad A6:=λk z=>by
 rw[h k z];refine Yu λt H E d=>I.1 _ _ ?_;rw[N0 ⟨H,E⟩]at d;exact I8 d
section
variable {P:PD} {A:Ar} {a c m:Nat}
def Fit.ah:∀(fresh:List (List Pu)) (last:Int) (kept:List Int) (P:PD) (a c m:Nat),Fit P a c m->Fit (PD.ah fresh last kept P).2.2.2 (a+fresh.length) (c+fresh.length) (m+Dk fresh)/\(PD.ah fresh last kept P).2.2.1.length<=kept.length+fresh.length
 | [],last,kept,P,a,c,m,h=>⟨h,by simp[PD.ah]⟩
 | l::r,last,kept,P,a,c,m,h=>by
  have z:=h.aK (last+1) l;have d:Dk (l::r)=(17*l.length+4)+Dk r:=by simp[Dk]
  rw[SX];split
  ·exact⟨z.aa (by simp) (by simp) (by rw[d];omega),by simp⟩
  ·obtain⟨E,H⟩:=Fit.ah r (last+1) (kept++[last+1]) _ _ _ _ z;exact⟨E.aa (by simp;omega) (by simp;omega) (by rw[d];omega),by simp at H ⊢;omega⟩
def Fit.aG(h:Fit P a c m)(kept:List Int)(fresh:List (List Pu)):Fit (A.aG P kept fresh).2.2 (a+fresh.length+2) (c+2*a+2*fresh.length+4) (m+Dk fresh+12+8*(kept.length+fresh.length)):=by
 rw[Ry];have E:=h.aN (A:=A);split
 ·exact E.aa (by omega) (by omega) (by omega)
 ·obtain⟨z,h3⟩:=Fit.ah fresh (A.aN P).2.1.Aa kept _ _ _ _ E;split
  ·exact z.aa (by omega) (by omega) (by omega)
  ·have d:=z.cB (A:={ (A.aN P).2.1 with Aa:=(PD.ah fresh (A.aN P).2.1.Aa kept (A.aN P).2.2).2.1}) (PD.ah fresh (A.aN P).2.1.Aa kept (A.aN P).2.2).2.2.1;split
   ·exact d.aa (by omega) (by omega) (by omega)
   ·unfold Ar.aZ;have H:=Fit.av (A:=(({ (A.aN P).2.1 with Aa:=(PD.ah fresh (A.aN P).2.1.Aa kept (A.aN P).2.2).2.1}:Ar).ag (PD.ah fresh (A.aN P).2.1.Aa kept (A.aN P).2.2).2.2.2 (PD.ah fresh (A.aN P).2.1.Aa kept (A.aN P).2.2).2.2.1).2.1) d;split
    ·exact H.aa (by omega) (by omega) (by omega)
    ·exact H.aJ.aa (by omega) (by omega) (by omega)
def Fit.bW(h:Fit P a c m)(nm:ByteArray)(s:Nat)(l:Bs):Fit (P.ad nm s l).2.2 a c (m+(l.length+4)):=by
 have:=h.an nm (AT s l);rw[EE]at this;exact this
def Fit.ee{J:Jn}(h:Fit P a c m):Fit (J.ax P).2.2 (a+1) (c+1) (m+12):=by
 unfold Jn.ax;have z:=h.ak (A9 (Ah (J.Aa+1)));have d:=z.bW (A9 (Ah (J.Aa+1))) (AH (Ah (J.Aa+1))) (AS J.puts);rw[CP]at d;split
 ·exact z.aa (As _) (As _) (by omega)
 ·dsimp only
  split
  ·exact d
  ·exact d
def Fit.dV{J:Jn}(h:Fit P a c m)(p:Pu):Fit (J.aw P p).2.2.2 a c (m+21):=by
 unfold Jn.aw;cases J.AB with
 | none=>exact h.aa (As _) (As _) (by omega)
 | some x=>
  obtain⟨n,s⟩:=x;have d:=h.bW (A9 (Ah n)) s (Bb p.1 p.2.1 p.2.2);rw[EY]at d;exact d
def Fit.fP{J:Jn}(h:Fit P a c m)(p:Pu):Fit (J.ad P p).2.2.2 (a+1) (c+1) (m+33):=by
 unfold Jn.ad;split
 ·split
  ·exact h.ee.aa (As _) (As _) (by omega)
  ·exact(h.ee.dV p).aa (As _) (As _) (by omega)
 ·exact(h.dV p).aa (by omega) (by omega) (by omega)
def Fit.fH(h:Fit P a c m)(p:Pu):Fit (A.ad P p).2.2.2 (a+1) (c+1) (m+33):=by
 unfold Ar.ad;split
 ·exact h.C.aa (by omega) (by omega) (by omega)
 ·exact h.C.fP p
def Fit.fV(h:Fit P a c m):Fit (A.ae P).2.2 a c m:=by
 have d:=h.C (A:=A);have z:∀J:Jn,Fit (J.ae (A.C P).2.2).2 a c m:=λJ=>by
  unfold Jn.ae;cases J.AB with
  | none=>exact d
  | some x=>exact d.ae _
 unfold Ar.ae;split
 ·exact d
 ·split
  ·exact z _
  ·exact(z _).aJ
end
structure Wd (P:PD) (a m:Nat):Prop where
 A4:P.D.A4.length<=a
 AP:P.D.AP.length<=a
 Fs:∀l∈P.D.Av,l.length<=a
 B5:∀f,P.D.Au f->(P.F f).1.length<=m
def Fit.wd{P:PD}{a c m:Nat}(h:Fit P a c m):Wd P a m:=⟨h.A4,h.AP,h.Fs,h.B5⟩
def Wd.CQ{P:PD}{a c m a' m':Nat}(h:Wd P a m)(d:Fit P a' c m'):Fit P a c m:=⟨h.A4,h.AP,h.Fs,d.Ak,h.B5,d.AG,d.Bv⟩
def Bu(P:PD)(k:Nat):Prop:=∀f,P.D.Au f->f<k
def Bu.aa{P:PD}{k d:Nat}(h:Bu P k)(z:k<=d):Bu P d:=λf E=>Bq (h f E) z
def MD{k:Nat}:∀ {es:List AO},(∀e∈es,e.2<k)->Io es<=k
 | [],_=>Cq _
 | e::r,h=>by
  have:=h e (BC ..);have:=MD λx d=>h x (Bw _ d);unfold Io;omega
def UF{k:Nat}:∀ {l:List (List AO)},(∀c∈l,∀e∈c,e.2<k)->K3 l<=k
 | [],_=>Cq _
 | c::r,h=>by
  have:=MD (h c (BC ..));have:=UF λx d=>h x (Bw _ d);unfold K3;omega
def Bu.AU{P:PD}{k:Nat}(h:Bu P k):P.D.AU<=k:=by
 have h1:=MD λe d=>h _ (.inl ⟨e,d,rfl⟩);have h2:=MD λe d=>h _ (.inr (.inl ⟨e,d,rfl⟩));have h3:=UF λc z e d=>h _ (.inr (.inr ⟨c,z,e,d,rfl⟩));unfold DS.AU;omega
def Bu.A4{P:PD}{k:Nat}(h:Bu P k):∀e∈P.D.A4,e.2<k:=λe d=>h _ (.inl ⟨e,d,rfl⟩)
def HL(P P':PD):Prop:=P'.D.AP=P.D.AP/\((P'.D.A4=P.D.A4/\P'.D.Av=P.D.Av)\/P'.D.Av=P.D.Av++[P'.D.A4])
def HL.wd{P P':PD}{a m:Nat}(h:HL P P')(z:Wd P a m)(E:P'.D.A4.length<=a)(H:∀f,P'.D.Au f->(P'.F f).1.length<=m):Wd P' a m:=
 ⟨E,by rw[h.1];exact z.AP,λl d=>by
  rcases h.2 with⟨_,e⟩|e
  ·rw[e]at d;exact z.Fs l d
  ·rw[e]at d;rcases AV.1 d with d|d
   ·exact z.Fs l d
   ·simp at d;subst d;exact E,H⟩
def HL.Ak{P P':PD}(h:HL P P'):∀l∈P'.D.Av,l∈P.D.Av\/l=P'.D.A4:=λl d=>by
 rcases h.2 with⟨_,e⟩|e
 ·rw[e]at d;exact .inl d
 ·rw[e]at d;rcases AV.1 d with d|d
  ·exact .inl d
  ·exact .inr (by simpa using d)
def HL.Au{P P':PD}(h:HL P P'){p:Nat->Prop}(E:∀f,P.D.Au f->p f)(z:∀e∈P'.D.A4,p e.2):∀f,P'.D.Au f->p f:=by
 rintro f (⟨e,he,rfl⟩|⟨e,he,rfl⟩|⟨l,d,e,he,rfl⟩)
 ·exact z e he
 ·rw[h.1]at he;exact E _ (.inr (.inl ⟨e,he,rfl⟩))
 ·rcases h.Ak l d with d|rfl
  ·exact E _ (.inr (.inr ⟨l,d,e,he,rfl⟩))
  ·exact z e he
section
variable {P P':PD} {A:Ar} {J:Jn} {a m k:Nat}
def Extra.dF{nm:Bs}(h:Extra P nm P'):HL P P':=⟨h.AP,by
 rcases h.Hp with⟨d1,d2⟩|⟨_,d1,d2⟩
 ·exact .inl ⟨d1,d2⟩
 ·exact .inr (by rw[d2,d1])⟩
def Extra.EP{nm:Bs}(h:Extra P nm P'):∀e∈P'.D.A4,e∈P.D.A4\/e.2=P.D.AU:=λe d=>by
 rcases h.Hp with⟨d1,_⟩|⟨_,d1,_⟩
 ·rw[d1]at d;exact .inl d
 ·rw[d1]at d;rcases AV.1 d with d|d
  ·exact .inl d
  ·simp at d;subst d;exact .inr rfl
def Bu.bJ{nm:Bs}(h:Bu P k)(z:Extra P nm P'):Bu P' (k+1):=by
 refine z.dF.Au (λf E=>A35 (h f E)) λe d=>?_;rcases z.EP e d with d|d
 ·exact A35 (h.A4 e d)
 ·have:=h.AU;omega
def Wd.bJ{nm:Bs}(h:Wd P a m)(d:Extra P nm P')(L:P.dl+1<=a)(O:(P'.F P.D.AU).1.length<=m):Wd P' a m:=by
 unfold PD.dl at L;have E:∀f,(f≠P.D.AU->P.D.Au f)->(P'.F f).1.length<=m:=λf E=>by
  by_cases e:f=P.D.AU
  ·rw[e];exact O
  ·rw[d.En f e];exact h.B5 f (E e)
 refine d.dF.wd h ?_ (d.dF.Au (λf I=>E f λ_=>I) λe z=>E _ λH=>?_)
 ·rcases d.Hp with⟨d1,_⟩|⟨_,d1,_⟩
  ·rw[d1];omega
  ·rw[d1];simp;omega
 ·rcases d.EP e z with z|z
  ·exact .inl ⟨e,z,rfl⟩
  ·exact absurd z H
def VX(P:PD)(nm:Bs)(s:Nat)(l:Bs):((P.aI nm s l).2.F P.D.AU).1.length<=l.length+4:=by
 obtain⟨e1,I⟩:=JV P nm;have h:(P.ak (A9 nm)).2.F P.D.AU=([],0):=by unfold PD.ak;simp[upd]
 unfold PD.aI;split
 ·rw[h];simp
 ·rename_i H;have E:=I (CD H);obtain⟨a1,a2,a3,z⟩:=Is (AT s l) E;have d:(((P.ak (A9 nm)).2.ad (A9 nm) s l).2.2.F P.D.AU).1.length<=l.length+4:=by
   show (((P.ak (A9 nm)).2.an (A9 nm) (AT s l)).2.F P.D.AU).1.length<=l.length+4;rcases z with e|⟨j,e⟩
   ·rw[e,h];simp
   ·rw[e];simp only[upd,Ch,h,Et,BW,EE];omega
  split
  ·exact d
  ·unfold PD.ae CG;split
   ·exact d
   ·dsimp only
    split
    ·unfold upd;split
     ·rename_i e;rw[<-e];exact d
     ·exact d
    ·exact d
def Wd.aI(h:Wd P a m)(nm:Bs)(s:Nat)(l:Bs)(d:P.dl+1<=a)(z:l.length+4<=m):Wd (P.aI nm s l).2 a m:=h.bJ (JU P nm s l).1 d (AR (VX P nm s l) z)
def Bu.aI(h:Bu P k)(nm:Bs)(s:Nat)(l:Bs):Bu (P.aI nm s l).2 (k+1):=h.bJ (JU P nm s l).1
def LZ(P:PD)(x:ByteArray):(P.ae x).2.D.A4=P.D.A4/\(P.ae x).2.D.AP=P.D.AP/\(P.ae x).2.D.Av=P.D.Av/\∀f,((P.ae x).2.F f).1=(P.F f).1:=by
 cases hx:lookup P.D.A4 x with
 | none=>
  have e:(P.ae x).2=P:=by unfold PD.ae CG;rw[hx]
  rw[e];exact⟨rfl,rfl,rfl,λ_=>rfl⟩
 | some g=>
  obtain⟨h,z,E,d⟩:=ID hx;refine⟨h,z,E,λf=>?_⟩;rcases d with e|e
  ·rw[e]
  ·rw[e];unfold upd;split
   ·rename_i H;rw[H]
   ·rfl
def P9(z:P'.D.A4=P.D.A4)(h:P'.D.AP=P.D.AP)(E:P'.D.Av=P.D.Av)(f:Nat)(d:P'.D.Au f):P.D.Au f:=by
 unfold DS.Au at d ⊢;rwa [z,h,E]at d
def Wd.ay(h:Wd P a m)(z:P'.D.A4=P.D.A4)(d:P'.D.AP=P.D.AP)(E:P'.D.Av=P.D.Av)(I:∀f,(P'.F f).1=(P.F f).1):Wd P' a m:=
 ⟨by rw[z];exact h.A4,by rw[d];exact h.AP,by rw[E];exact h.Fs,λf H=>by rw[I];exact h.B5 f (P9 z d E f H)⟩
def Wd.ae(h:Wd P a m)(x:ByteArray):Wd (P.ae x).2 a m:=by
 obtain⟨E,d,H,z⟩:=LZ P x;exact h.ay E d H z
def Bu.ae(h:Bu P k)(x:ByteArray):Bu (P.ae x).2 k:=by
 obtain⟨E,z,H,_⟩:=LZ P x;exact λf d=>h f (P9 E z H f d)
def Wd.az:∀(l:List Bs) {P:PD},Wd P a m->Wd (PD.az l P).2 a m
 | [],_,h=>h
 | nm::r,P,h=>by
  unfold PD.az;split
  ·exact h.ae _
  ·exact Wd.az r (h.ae _)
def Bu.az:∀(l:List Bs) {P:PD},Bu P k->Bu (PD.az l P).2 k
 | [],_,h=>h
 | nm::r,P,h=>by
  unfold PD.az;split
  ·exact h.ae _
  ·exact Bu.az r (h.ae _)
def Wd.C(h:Wd P a m):Wd (A.C P).2.2 a m:=by unfold Ar.C;split<;>exact Wd.az _ h
def Bu.C(h:Bu P k):Bu (A.C P).2.2 k:=by unfold Ar.C;split<;>exact Bu.az _ h
def Wd.aJ(h:Wd P a m):Wd P.aJ.2 a m:=by
 unfold PD.aJ DK;dsimp only
 split
 ·refine⟨h.A4,h.A4,λl d=>(by cases d),?_⟩;rintro f (hf|hf|⟨l,d,_⟩)
  ·exact h.B5 f (.inl hf)
  ·exact h.B5 f (.inl hf)
  ·cases d
 ·exact⟨h.A4,h.AP,h.Fs,h.B5⟩
def Bu.aJ(h:Bu P k):Bu P.aJ.2 k:=by
 unfold PD.aJ DK;dsimp only
 split
 ·rintro f (hf|hf|⟨l,hl,_⟩)
  ·exact h f (.inl hf)
  ·exact h f (.inl hf)
  ·cases hl
 ·exact h
def Oc(P:PD)(x:ByteArray):HL P (P.aH x).2/\(P.aH x).2.F=P.F/\(∀e∈(P.aH x).2.D.A4,e∈P.D.A4)/\((P.aH x).1=0->(P.aH x).2.dl+1=P.dl):=by
 unfold PD.aH Dh;by_cases E:B4 P.D.A4 x<0
 ·rw[Ai E];exact⟨⟨rfl,.inl ⟨rfl,rfl⟩⟩,rfl,λ_ h=>h,λh=>(by cases h)⟩
 ·rw[Ae E];have hl:=U9 P.D.A4 x;dsimp only
  by_cases z:(bg P.D.n).1=true
  ·rw[Ai z];refine⟨⟨rfl,.inr rfl⟩,rfl,λe d=>?_,λ_=>?_⟩
   ·rcases AV.1 d with d|d
    ·exact HQ d
    ·exact LB d
   ·unfold PD.dl;simp;omega
  ·rw[Ae z];exact⟨⟨rfl,.inl ⟨rfl,rfl⟩⟩,rfl,λ_ h=>h,λh=>absurd (GS h) z⟩
def Wd.aH(h:Wd P a m)(x:ByteArray):Wd (P.aH x).2 a m:=by
 obtain⟨d,H,I,_⟩:=Oc P x;have:=Ue P x;refine d.wd h ?_ ?_
 ·have:=h.A4;unfold PD.dl at *;omega
 ·rw[H];exact d.Au (λf z=>h.B5 f z) λe E=>h.B5 _ (.inl ⟨e,I e E,rfl⟩)
def Bu.aH(h:Bu P k)(x:ByteArray):Bu (P.aH x).2 k:=by
 obtain⟨E,_,H,_⟩:=Oc P x;exact E.Au (λf d=>h f d) λe z=>h.A4 e (H e z)
def Wd.aL:∀(l:List Bs) {P:PD},Wd P a m->Wd (PD.aL l P).2 a m
 | [],_,h=>h
 | nm::r,P,h=>by
  unfold PD.aL;split
  ·exact h.aH _
  ·exact Wd.aL r (h.aH _)
def Bu.aL:∀(l:List Bs) {P:PD},Bu P k->Bu (PD.aL l P).2 k
 | [],_,h=>h
 | nm::r,P,h=>by
  unfold PD.aL;split
  ·exact h.aH _
  ·exact Bu.aL r (h.aH _)
def RL:∀(l:List Bs) (P:PD),(PD.aL l P).1=0->(PD.aL l P).2.dl+l.length=P.dl
 | [],_,_=>rfl
 | nm::r,P,h=>by
  unfold PD.aL at h ⊢;split at h
  ·rename_i d;exact absurd h d
  ·rename_i d;rw[Ae d];have:=RL r _ h;have:=(Oc P (A9 nm)).2.2.2 (CD d);simp only[Cx];omega
def U8{α:Type}(p:α->Bool):∀l:List α,(l.filter p).length+(l.filter λx=>!p x).length=l.length
 | []=>rfl
 | x::r=>by
  have:=U8 p r;cases hx:p x with
  | true=>simp[hx];omega
  | false=>simp[hx];omega
def QU(H:G5 P)(d:(A.av P).1=0):(A.av P).2.dl<=A.Ay.length:=by
 have h1:=RL (A.aV P) P d;have h:=H.aR.cO;have h2:(A.aY P).length<=A.Ay.length:=IS (h.filter _) λx E=>by
  have:=(GX.1 E).2;simpa using this
 have z:(A.aY P).length+(A.aV P).length=P.Ay.length:=by
  unfold Ar.aY Ar.aV;exact U8 _ _
 rw[Ho]at z;have h4:(PD.aL (A.aV P) P).2.dl=(A.av P).2.dl:=rfl;omega
def OF:∀(fresh:List (List Pu)) (last:Int) (kept:List Int) {P:PD} {k:Nat},Wd P a m->Bu P k->P.dl+fresh.length<=a->(∀l∈fresh,17*l.length+4<=m)->
 Wd (PD.ah fresh last kept P).2.2.2 a m/\Bu (PD.ah fresh last kept P).2.2.2 (k+fresh.length)
 | [],_,_,_,_,h,hi,_,_=>⟨h,hi⟩
 | l::r,last,kept,P,k,h,hi,hd,hl=>by
  simp only[Cx]at hd;have E:Wd (P.aK (last+1) l).2 a m:=h.aI _ _ _ (by omega) (by rw[I4];exact hl l (BC ..));have z:Bu (P.aK (last+1) l).2 (k+1):=hi.aI _ _ _;have hdl:(P.aK (last+1) l).2.dl<=P.dl+1:=Lc P _ _ _;have d:PD.ah (l::r) last kept P=if (P.aK (last+1) l).1≠0 then ((P.aK (last+1) l).1,last+1,kept,(P.aK (last+1) l).2) else PD.ah r (last+1) (kept++[last+1]) (P.aK (last+1) l).2:=rfl
  rw[d];split
  ·exact⟨E,z.aa (by simp)⟩
  ·obtain⟨H,I⟩:=OF r (last+1) (kept++[last+1]) E z (by omega) λx L=>hl x (Bw _ L);exact⟨H,I.aa (by simp;omega)⟩
def RC(P:PD)(old nm:ByteArray):HL P (P.aO old nm).2/\(P.aO old nm).2.F=P.F/\∀e∈(P.aO old nm).2.D.A4,∃d∈P.D.A4,d.2=e.2:=by
 unfold PD.aO CV;cases hx:lookup P.D.A4 old with
 | none=>exact⟨⟨rfl,.inl ⟨rfl,rfl⟩⟩,rfl,λe h=>⟨e,h,rfl⟩⟩
 | some f=>
  dsimp only
  split
  ·exact⟨⟨rfl,.inl ⟨rfl,rfl⟩⟩,rfl,λe h=>⟨e,h,rfl⟩⟩
  ·dsimp only
   split
   ·refine⟨⟨rfl,.inr rfl⟩,rfl,λe h=>?_⟩;rcases AV.1 h with h|h
    ·exact⟨e,Ma _ _ _ _ e h,rfl⟩
    ·simp at h;subst h;exact⟨_,E8 hx,rfl⟩
   ·exact⟨⟨rfl,.inl ⟨rfl,rfl⟩⟩,rfl,λe h=>⟨e,h,rfl⟩⟩
def Wd.aO(h:Wd P a m)(old nm:ByteArray)(z:P.dl+1<=a):Wd (P.aO old nm).2 a m:=by
 obtain⟨E,L,O⟩:=RC P old nm;have:=Ud P old nm;refine E.wd h (by unfold PD.dl at *;omega) ?_;rw[L];exact E.Au (λf H=>h.B5 f H) λe I=>by obtain⟨d,z,W⟩:=O e I;rw[<-W];exact h.B5 _ (.inl ⟨d,z,rfl⟩)
def Bu.aO(h:Bu P k)(old nm:ByteArray):Bu (P.aO old nm).2 k:=by
 obtain⟨I,_,L⟩:=RC P old nm;exact I.Au (λf E=>h f E) λe H=>by obtain⟨d,z,O⟩:=L e H;rw[<-O];exact h.A4 d z
def YQ(h:Wd P a m)(H:Bu P k)(d:Int)(segs:List Int)(hd:P.dl+2<=a)(hl:12+8*segs.length<=m):Wd (P.ag d segs).2 a m/\Bu (P.ag d segs).2 (k+1):=by
 have hlen:(Ci d segs).length=8+8*segs.length:=by unfold Ci;rw[B1,CP,J5]
 have E:Wd (P.aI Bo (AH AL) (Ci d segs)).2 a m:=h.aI _ _ _ (by omega) (by omega);have z:=H.aI Bo (AH AL) (Ci d segs);have:=Lc P Bo (AH AL) (Ci d segs);unfold PD.ag;split
 ·exact⟨E,z⟩
 ·exact⟨E.aO _ _ (by omega),z.aO _ _⟩
def A3u(h:Wd P a m)(d:Bu P k)(segs:List Int)(z:P.dl+2<=a)(E:12+8*segs.length<=m):Wd (A.ag P segs).2.2 a m/\Bu (A.ag P segs).2.2 (k+1):=by
 have:=YQ h d (A.j.Aa+1) segs z E;unfold Ar.ag;split
 ·exact⟨h,d.aa (by omega)⟩
 ·split<;>exact this
def A2U(h:Wd P a m)(d:Bu P k):Wd (A.aZ P).2.2 a m/\Bu (A.aZ P).2.2 k:=by
 unfold Ar.aZ;split
 ·exact⟨Wd.aL _ h,Bu.aL _ d⟩
 ·exact⟨(Wd.aL _ h).aJ,(Bu.aL _ d).aJ⟩
def SY(h:G5 P)(d:P'.D.A4=P.D.A4):G5 P':=⟨by rw[d];exact h.Au,by rw[d];exact h.Ce⟩
def NW(A:Ar)(P:PD):(A.C P).2.2.D.A4=P.D.A4:=by
 have key:∀(l:List Bs) (Q:PD),(PD.az l Q).2.D.A4=Q.D.A4:=by
  intro l
  induction l with
  | nil=>intro Q;rfl
  | cons nm r ih=>
   intro Q;unfold PD.az;split
   ·exact(LZ Q _).1
   ·rw[ih,(LZ Q _).1]
 unfold Ar.C;split<;>exact key _ _
def Ya(h:Wd P a m)(hi:Bu P k)(hn:G5 P)(kept:List Int)(fresh:List (List Pu))(hd:A.Ay.length+fresh.length+2<=a)(hl:∀l∈fresh,17*l.length+4<=m)(hk:12+8*(kept.length+fresh.length)<=m):
 Wd (A.aG P kept fresh).2.2 a m/\Bu (A.aG P kept fresh).2.2 (k+fresh.length+1):=by
 have H:Wd (A.C P).2.2 a m:=h.C;have Y:Bu (A.C P).2.2 k:=hi.C;have n1:G5 (A.C P).2.2:=SY hn (NW A P);have z:(A.C P).2.1.Ay=A.Ay:=by unfold Ar.C;split<;>rfl
 unfold Ar.aG;dsimp only
 split
 ·exact⟨H,Y.aa (by omega)⟩
 ·have w2:Wd ((A.C P).2.1.av (A.C P).2.2).2 a m:=Wd.aL _ H;have L:Bu ((A.C P).2.1.av (A.C P).2.2).2 k:=Bu.aL _ Y;split
  ·exact⟨w2,L.aa (by omega)⟩
  ·rename_i h2;have d:=QU n1 (CD h2);rw[z]at d;obtain⟨I,O⟩:=OF fresh (A.C P).2.1.Aa kept w2 L (by omega) hl;obtain⟨d3,d4⟩:=JX fresh (A.C P).2.1.Aa kept ((A.C P).2.1.av (A.C P).2.2).2;split
   ·exact⟨I,O.aa (by omega)⟩
   ·obtain⟨E,W⟩:=A3u (A:={ (A.C P).2.1 with Aa:=(PD.ah fresh (A.C P).2.1.Aa kept ((A.C P).2.1.av (A.C P).2.2).2).2.1}) I O (PD.ah fresh (A.C P).2.1.Aa kept ((A.C P).2.1.av (A.C P).2.2).2).2.2.1 (by omega) (by omega);split
    ·exact⟨E,W⟩
    ·exact A2U E W
def UO(h:Bu P k)(J:Jn):Bu (J.ax P).2.2 (k+1):=h.bJ (MV P J).1
def A3C(h:Bu P k)(x:ByteArray)(l:Bs):Bu (P.an x l).2 k:=by
 cases hx:lookup P.D.A4 x with
 | none=>
  have e:(P.an x l).2=P:=by unfold PD.an Bp;rw[hx]
  rw[e];exact h
 | some g=>
  obtain⟨z,E,H,_⟩:=Is l hx;exact λf d=>h f (P9 z E H f d)
def A3y(h:Bu P k)(p:Pu):Bu (A.ad P p).2.2.2 (k+1):=by
 have d:∀(J:Jn) {Q:PD} {k:Nat},Bu Q k->Bu (J.aw Q p).2.2.2 k:=λJ Q k z=>by
  unfold Jn.aw;split
  ·exact z
  ·exact A3C z _ _
 unfold Ar.ad;split
 ·exact h.C.aa (by omega)
 ·dsimp only
  unfold Jn.ad;split
  ·split
   ·exact UO h.C _
   ·exact d _ (UO h.C _)
  ·exact(d _ h.C).aa (by omega)
def A3x(h:Bu P k):Bu (A.ae P).2.2 k:=by
 have d:Bu (A.C P).2.2 k:=h.C;have z:∀J:Jn,Bu (J.ae (A.C P).2.2).2 k:=λJ=>by
  unfold Jn.ae;split
  ·exact d
  ·exact d.ae _
 unfold Ar.ae;split
 ·exact d
 ·split
  ·exact z _
  ·exact(z _).aJ
end
def PD.aT(P:PD)(h:Int)(d:List Int):PD:=⟨(Fp P.D P.F h d).1,(Fp P.D P.F h d).2⟩
def Pr{c:FC}(h:0<=c.2/\c.2<=c.1.length)(t:Int):∃j:Nat,c.2<=j/\j<=c.1.length/\Fq c t=(c.1.take j,(j:Int)):=by
 have hp:=JF t (c.1.length-c.2.toNat);refine⟨c.2.toNat+Fj t (c.1.length-c.2.toNat),by omega,by omega,?_⟩;unfold Fq;dsimp only
 rw[BW,Lv (by omega)]
def A2u{c:FC}(h:0<=c.2/\c.2<=c.1.length)(t d:Int):Fq (Fq c t) d=Fq c t:=by
 obtain⟨j,h1,h2,E⟩:=Pr h t;rw[E];unfold Fq;have z:(c.1.take j).length=j:=by rw[BW];omega
 have H:Fj d ((c.1.take j).length-((j:Int)).toNat)=0:=by
  have:=JF d ((c.1.take j).length-((j:Int)).toNat);rw[z]at this ⊢;simp at this ⊢;omega
 dsimp only
 rw[H,PY,Ez];have:(c.1.take j).take j=c.1.take j:=by rw[Kb];simp
 rw[this,z]
section
variable {bd:Int×Int} {P P':PD} {V V':View} {ix:Ix} {sg cl:List (Int×List Pu)} {lo:Option (Int×List Pu)} {puts:List Pu} {A8:Nat} {o:Int}
def Un(s:List AO)(H:List Int)(names:List ByteArray)(F:Nat->FC)(hr:∀e∈s,0<=(F e.2).2/\(F e.2).2<=(F e.2).1.length):∀k,∀e∈s,(DP s H names F k e.2=F e.2/\∀j,j<k->∀nm,names[j]?=some nm->lookup s nm≠some e.2)\/∃t,DP s H names F k e.2=Fq (F e.2) t:=by
 intro k
 induction k with
 | zero=>intro e _;exact .inl ⟨rfl,λj Y=>by omega⟩
 | succ k ih=>
  intro e he;have I:=ih e he;simp only[DP];cases hn:names[k]? with
  | none=>
   dsimp only
   rcases I with⟨z,O⟩|z
   ·refine .inl ⟨z,λj Y nm d=>?_⟩;by_cases E:j=k
    ·subst E;rw[hn]at d;cases d
    ·exact O j (by omega) nm d
   ·exact .inr z
  | some nm=>
   dsimp only
   cases hl:lookup s nm with
   | none=>
    dsimp only
    rcases I with⟨z,O⟩|z
    ·refine .inl ⟨z,λj Y L d=>?_⟩;by_cases E:j=k
     ·subst E;rw[hn]at d;cases d;rw[hl];simp
     ·exact O j (by omega) L d
    ·exact .inr z
   | some f=>
    dsimp only
    by_cases W:e.2=f
    ·subst W;refine .inr ?_;simp only[upd,Ch];rcases I with⟨z,_⟩|⟨t,z⟩
     ·exact⟨_,by rw[z]⟩
     ·exact⟨t,by rw[z,A2u (hr e he)]⟩
    ·simp only[upd,W,C7];rcases I with⟨z,O⟩|z
     ·refine .inl ⟨z,λj Y L d=>?_⟩;by_cases E:j=k
      ·subst E;rw[hn]at d;cases d;rw[hl];simp;exact λh=>W h.symm
      ·exact O j (by omega) L d
     ·exact .inr z
def A2o(s:List AO)(d:List Int)(F:Nat->FC)(L:∀e∈s,0<=(F e.2).2/\(F e.2).2<=(F e.2).1.length):HV (vw F s) (vw (DP s d (dList s) F s.length) s):=by
 intro m;unfold vw;cases hx:lookup s (A9 m) with
 | none=>exact .inl ⟨rfl,rfl⟩
 | some f=>
  have E:=E8 hx;have hlen:(dList s).length=s.length:=MI s s.length (As _);have h:A9 m∈dList s:=(Ld s).mem_iff.2 (Cr.2 ⟨_,E,rfl⟩);obtain⟨k,Y,z⟩:=DW h;rcases Un s d (dList s) F L s.length _ E with⟨_,W⟩|⟨t,I⟩
  ·exact absurd hx (W k (by omega) (A9 m) (by rw[E5 Y,z]))
  ·obtain⟨j,O,j2,H⟩:=Pr (L _ E) t;refine .inr ⟨F f,j,rfl,O,j2,?_⟩;dsimp only at I H;simp[I,H]
def Uq(D:DS)(d:Int):G3 D d∈D.AP::D.Av:=by
 unfold G3;have h:=JF d D.Av.length;cases hx:Fj d D.Av.length with
 | zero=>exact BC ..
 | succ k=>
  rw[hx]at h;refine Bw _ ?_;dsimp only
  rw[HR,E5 (by omega)];exact BY _
def CX.aZ(h:CX bd V ix sg cl lo)(H:∀nm c,V nm=some c->C6 c)(hl:(Ax cl).length<=1099511627776):CX bd V ix sg (cl++lo.toList) none:=by
 cases lo with
 | none=>simpa using h
 | some y=>
  obtain⟨n,l⟩:=y;obtain⟨W,E,c,z,O⟩:=h.Aa n l rfl;refine⟨h.DG,h.Ik,h.segs,h.Cy,λx d=>?_,h.Am.bU ?_,λn' l' e=>(by cases e),by simpa using h.EN,λk I Y L=>by simpa using h.Cp k I Y L,h.Ek,h.DZ⟩
  ·rcases AV.1 d with d|d
   ·exact h.CW x d
   ·simp at d;subst d;exact⟨W,E,c,z,H _ _ z⟩
  ·unfold IX;rw[z];dsimp only
   rw[Nq];exact O.a1 (by constructor<;>omega) E
def DI.aT(h:DI bd P puts A8 o)(z:Int)(d:List Int)(hpl:puts.length<=1099511627776):
 DI bd (P.aT z d) puts A8 o/\∃n,A8<=n/\n<=puts.length/\∀I q,o<=I->Cb I (puts.take n) q->DI bd (P.aT z d) q A8 I/\Reads bd (P.aT z d) q I:=by
 have W:=Uq P.D z;generalize aA:G3 P.D z=s at W;have hr:∀e∈s,0<=(P.F e.2).2/\(P.F e.2).2<=(P.F e.2).1.length:=λe he=>by
  obtain⟨ix,sg,cl,lo,nb,hL,_⟩:=h.Dw s W;have hv:vw P.F s e.1.data.toList=some (P.F e.2):=by
   unfold vw;rw[Ge];cases hk:lookup s e.1 with
   | none=>exact absurd rfl (IV.1 hk e he)
   | some g=>
    obtain⟨i,hi,e1⟩:=DW (E8 hk);obtain⟨j,hj,e2⟩:=DW he;have:i=j:=JI (h.Ce s W) (by simpa using hi) (by simpa using hj) (by simp[e1,e2]);subst this;rw[e1]at e2;rw[<-e2];rfl
  exact hL.DZ _ _ hv
 have aF:=A2o s d P.F hr;have aG:(P.aT z d).fl=vw (DP s d (dList s) P.F s.length) s:=by
  funext m
  unfold PD.aT PD.fl Fp vw;dsimp only
  rw[aA]
 obtain⟨ix,sg,cl,lo,n,hL,hd,n1,n2,n3⟩:=(h.Dw s W).BX aF;rw[<-aG]at hL hd;have n4:=n3.2.2;rw[BW,B1,B1]at n4;have aD:(Ax cl).length<=1099511627776:=by omega
 have hC:=hL.aZ hd aD;have H:Ax (cl++lo.toList)=Ax cl++EF lo:=by cases lo<;>simp[Ax,EF]
 have hq:Cb o (Ax sg++Ax (cl++lo.toList)) (puts.take n):=by rw[H,<-Cc];exact n3
 have hH:Holds bd (P.aT z d).fl puts A8 o:=⟨ix,sg,_,none,n,hC,n2,hq,λn' l e=>(by cases e),λ_=>n1⟩;have L:Bx (P.aT z d)=[(P.aT z d).D.A4]:=by unfold Bx PD.aT Fp;rfl
 have O:(P.aT z d).D.A4=s:=by unfold PD.aT Fp;dsimp only;exact aA
 have mk:∀I q,Holds bd (P.aT z d).fl q A8 I->DI bd (P.aT z d) q A8 I:=λI q hq=>by
  refine⟨λx E=>?_,λx E=>?_,λx E=>?_,by rw[L];simp⟩
  ·rw[L]at E;simp at E;subst E;exact hq
  ·rw[L]at E;simp at E;subst E;rw[O];exact h.Au s W
  ·rw[L]at E;simp at E;subst E;rw[O];exact h.Ce s W
 refine⟨mk o puts hH,n,n1,n2,λI q ho Y=>?_⟩;have aE:=(hq.bc ho).Aw Y;have aB:A8<=q.length:=by
  have:=Y.2.2;rw[BW]at this;omega
 exact⟨mk I q (Holds.bC hC aE aB),Whole.bw ⟨ix,sg,_,none,hC,by rw[H,B1];omega,by simpa[EF] using aE⟩⟩
end
end
end Go.Proofs.YtodcnkbblippnaaGreatDoor
