/- Part 19 of a proof: walks of the program. -/
import Derived.Test.YtodcnkbblippnaaGreatDoorPart18
namespace Go.Proofs.YtodcnkbblippnaaGreatDoor
set_option maxRecDepth 100000
set_option maxHeartbeats 32000000
set_option linter.defProp false
open Go.Proofs.Tryz
section
open Go.RowKit
attribute [local go_sem ↓] CE
def Ti(segs:List (Int×List Pu))(oldest:Int)(l:List Pu)(r:List (List Pu)):BK segs oldest (l::r)=if l.any (λp=>decide (oldest<=p.2.1))=false then BK segs oldest r else
 match segs.find? λs=>decide (s.2=l) with
 | none=>((BK segs oldest r).1,l::(BK segs oldest r).2)
 | some s=>(s.1::(BK segs oldest r).1,(BK segs oldest r).2):=rfl
def Th(segs:List (Int×List Pu))(oldest:Int):∀ws:List (List Pu),(BK segs oldest ws).1.length+(BK segs oldest ws).2.length<=ws.length/\(∀n∈(BK segs oldest ws).1,∃s∈segs,s.1=n)/\(∀l∈(BK segs oldest ws).2,l∈ws)/\Dd (BK segs oldest ws).2<=Dd ws
 | []=>⟨As _,(λn h=>absurd h List.not_mem_nil),(λl H=>H),As _⟩
 | l::r=>by
  obtain⟨h1,z,E,h4⟩:=Th segs oldest r;rw[Ti,NC];split
  ·exact⟨by simp;omega,z,λx d=>Bx _ (E x d),by omega⟩
  ·split
   ·refine⟨by simp;omega,z,λx d=>?_,by rw[NC];omega⟩;rcases BR.1 d with rfl|d
    ·exact BF
    ·exact Bx _ (E x d)
   ·rename_i s I;refine⟨by simp;omega,λn h=>?_,λx d=>Bx _ (E x d),by dsimp only;omega⟩;rcases BR.1 h with rfl|h
    ·exact⟨s,A3A I,rfl⟩
    ·exact z n h
def NK{P:PD}:∀(E:List Int) (l:List (Int×List Pu)),P.segs E=some l->∀x∈l,x.1∈E
 | [],l,h=>by cases h;exact λx z=>by cases z
 | n::r,l,h=>by
  unfold PD.segs at h;cases z:P.Cw n with
  | none=>rw[z]at h;cases h
  | some q=>
   rw[z]at h;dsimp only at h;cases hy:P.segs r with
   | none=>rw[hy]at h;cases h
   | some y=>
    rw[hy]at h;cases h;intro x d;rcases BR.1 d with rfl|d
    ·exact BF
    ·exact Bx _ (NK r y hy x d)
section
variable {N ab b a c m B:Nat} {A:Ar} {P:PD} {FT:Nat->Prop}
structure Ht (w5 w:World) (B0:Nat) (vk vf:Value) (kk:List Int) (ff:List (List Pu)):Prop where
 Aj:A3 (λ_=>False) w5 w
 Hi:Dy w vk kk
 JT:∀g,vk.ownBlock=some g->w5.heap.size<=g
 AS:∃fvs:List Value,fvs.length=ff.length/\w.ownsRow 0 97 1 vf ff.length fvs/\(∀g,vf.ownBlock=some g->w5.heap.size<=g)/\(∀k (h1:k<fvs.length) (h2:k<ff.length),AW w5 (fvs[k]'h1) (ff[k]'h2))/\∀x∈fvs,∀g,x.ownBlock=some g->B0<=g
def Ht.aS{X w w':World}{H:Nat}{L I:Value}{O:List Int}{W:List (List Pu)}(h:Ht X w H L I O W)(E:A3 Ab w w'):Ht X w' H L I O W:=by
 obtain⟨d,f1,f2,f3,f4,f5⟩:=h.AS;exact⟨h.Aj.tr E,Ay h.Hi λg z=>E.Ao g (AB h.Hi z) (λh=>h),h.JT,d,f1,Ay f2 λg z=>E.Ao g (AB f2 z) (λh=>h),f3,f4,f5⟩
def Ht.fS{w5 w w':World}{aA:Nat}{L E X:Value}{z:List Int}{Y:List (List Pu)}{n:Int}(h:Ht w5 w aA L X z Y)(I:App w w' 3 1 L E (z.length+1) (DL z++DL [n])):Ht w5 w' aA E X (z++[n]) Y:=by
 have hc:=I.Aj (S:=λk=>L.oB k) λ_ h=>h;obtain⟨O,f1,f2,f3,f4,f5⟩:=h.AS;refine⟨h.Aj.Ap hc λx W hlt=>by have:=h.JT x W;omega,?_,λg d=>?_,O,f1,Ay f2 λg d=>hc.Ao g (AB f2 d) λW=>Im f2 h.Hi (by decide) d W,f3,f4,f5⟩
 ·have e:(z++[n]).length=z.length+1:=by simp
  unfold Dy;rw[KZ,e];exact I.AA
 ·rcases I.Cj with H|H
  ·rw[H]at d;exact h.JT g d
  ·rw[H]at d;cases d;exact h.Aj.Ak
def Ht.addF{X w w':World}{aA:Nat}{vk I O x:Value}{kk:List Int}{z:List (List Pu)}{l:List Pu}(h:Ht X w aA vk I kk z)(W:AW X x l)(aD:∀g,x.ownBlock=some g->aA<=g)(d:List Value)(f1:d.length=z.length)(f2:w.ownsRow 0 97 1 I z.length d)(f3:∀g,I.ownBlock=some g->X.heap.size<=g)(f4:∀k (H:k<d.length) (Y:k<z.length),AW X (d[k]'H) (z[k]'Y))(f5:∀x∈d,∀g,x.ownBlock=some g->aA<=g)(hA:App w w' 97 1 I O (z.length+1) (d++[x])):Ht X w' aA vk O kk (z++[l]):=by
 have hc:=hA.Aj (S:=λk=>I.oB k) λ_ h=>h;refine⟨h.Aj.Ap hc λx W hlt=>by have:=f3 x W;omega,Ay h.Hi λg E=>hc.Ao g (AB h.Hi E) λW=>Im h.Hi f2 (by decide) E W,h.JT,d++[x],by simp[f1],?_,λg E=>?_,λk H Y=>?_,λy L g E=>?_⟩
 ·have e:(z++[l]).length=z.length+1:=by simp
  rw[e];exact hA.AA
 ·rcases hA.Cj with H|H
  ·rw[H]at E;exact f3 g E
  ·rw[H]at E;cases E;exact h.Aj.Ak
 ·by_cases hk:k<z.length
  ·rw[Fa (show k<d.length by omega),Fa hk];exact f4 k (by omega) hk
  ·(have aB:k=z.length:=by simp at Y;omega);have e1:(d++[x])[k]'H=x:=by
    (have:k=d.length:=by omega);subst this;simp
   (have e2:(z++[l])[k]'Y=l:=by subst aB;simp);rw[e1,e2];exact W
 ·rcases AU.1 L with L|L
  ·exact f5 y L g E
  ·rw[IA.1 L]at E;exact aD g E
end
section
variable {N ab b a c m B:Nat} {A:Ar} {P:PD} {FT:Nat->Prop}
def A2t(hS:F5 N)(hN:N<=134217728)(w:World)(h:AD w ab b A P FT)(dG:∀k,FT k->k<w.heap.size)(Ai oldest:Int)(hw:1<=Ai/\Ai<=4611686018427387904)(hall:∀segs,P.segs A.ix.segs=some segs->(segs.flatMap (·.2)++(P.puts A.j.Am).1).length<=N/\∀p∈segs.flatMap (·.2)++(P.puts A.j.Am).1,Bi p)(aI:A.ix.segs.length<=1073741824/\A.ix.segs.length*m<=4398046511104)(cG:0<=A.A9/\A.A9+N<=9223372036854775807)(cJ:AN (A.j.A9+1))(bF:∀x∈A.ix.segs,AN x)(hF:Fit P a c m)(hl:CN (a+N+2) (c+2*a+2*N+4) (m+37*N+12))(hm:A.j.Am.length*m<=70368744177664)(hn:∀n∈A.ix.segs,CJ n)(bI:∀n∈A.j.Am,CJ n)(b2:A.j.Am.length<=1073741824)(hL:Lets B w)(cY:∀k,FT k->B<=k):
 Ag 70 #[A5 ab,A0 Ai,A0 oldest] w (Al (A0 (A.aQ P Ai oldest).1) λw'=>Aq w FT w' (λw' aK=>AD w' ab b (A.aQ P Ai oldest).2.1 (A.aQ P Ai oldest).2.2 aK)):=by
 obtain⟨i0,hi,eZ,eI,eQ⟩:=E7 Ih;obtain⟨j0,hj,e2,eW,eC⟩:=OG;obtain⟨s0,X,eX,dV,eV⟩:=RM;obtain⟨xb,jb,sv,ov,lv,jo,Ft,hv,cT⟩:=id h;have bJ:CN a c m:=⟨by have:=hl.a;omega,by have:=hl.c;omega,by have:=hl.m;omega⟩;have k0:A3 Ab w (w.aC #[A0 oldest] 3):=(A3.I _ w).ak _;have cA:(w.aC #[A0 oldest] 3).heap[w.heap.size]?=some (.cells #[A0 oldest] 3 (0,0)):=BN w _;have dJ:Hid (P.segs A.ix.segs=none->A.aQ P Ai oldest=(7,A,P)):=λh=>by unfold Ar.aQ;rw[h]
 have dH:Hid (∀segs,P.segs A.ix.segs=some segs->(P.puts A.j.Am).2≠0->A.aQ P Ai oldest=((P.puts A.j.Am).2,A,P)):=λsegs h hp=>by unfold Ar.aQ;rw[h];dsimp only;rw[Ah hp]
 have dL:Hid (∀segs,P.segs A.ix.segs=some segs->(P.puts A.j.Am).2=0->A.aQ P Ai oldest=A.ay P ((BK segs oldest (Bz Ai (segs.flatMap (·.2)++(P.puts A.j.Am).1))).1.mergeSort λx y=>decide (x<=y)) (BK segs oldest (Bz Ai (segs.flatMap (·.2)++(P.puts A.j.Am).1))).2):=λsegs h hp=>by
  unfold Ar.aQ;rw[h];dsimp only;rw[Ad (by simp[hp])]
 obtain⟨R,hR⟩:∃R,A.aQ P Ai oldest=R:=⟨_,rfl⟩;rw[hR]at dJ dH dL ⊢;have H:=A1 h;have aJ:=A1 dG;have aB:Hid (∀E n,A3 Ab w E->R=(n,A,P)->R.1=n/\Aq w FT E (λw' aK=>AD w' ab b R.2.1 R.2.2 aK)):=λE n Y he=>by
  subst he;exact⟨rfl,Y.aa λ_ _ h=>h.elim,FT,H.o.aw Y,λk hk=>Bk (aJ.o k hk) Y.Ak,λk hk=>.inl hk⟩
 have eY:=A1 (X3 _ (hv.aw k0) hF bJ hn aI.1 (hL.aS k0));have eD:Hid (∀E,A3 Ab w E->_):=λE Y=>O0 E (hv.aw Y).dk (hv.aw Y).lt (hv.aw Y).jn hF bJ hm bI (hL.aS Y);have e9:Hid (∀E,A3 Ab w E->E.cell? (Aa ab 2)=some (A5 jb)):=λE Y=>(hv.aw Y).Af.c2
 have eF:Hid (∀segs,P.segs A.ix.segs=some segs->∀E eA v,Gj E eA b v segs->Ag 101 #[v] E λe w'=>∃v',e=.returned v'/\AW w' v' (segs.flatMap (·.2))/\(∀g,v'.oB g->E.heap.size<=g)/\A3 Ab E w'):=λsegs X E eA v z=>by
  obtain⟨q1,q2⟩:=NL hF A.ix.segs segs X;exact RX E eA v segs z (by rw[q1];exact aI.1) q2 (by rw[q1];exact aI.2)
 have a9:Hid (∀segs,P.segs A.ix.segs=some segs->∀E v,AW E v (segs.flatMap (·.2)++(P.puts A.j.Am).1)->_):=λsegs X E v z=>TA hS hN E v Ai _ (hall segs X).1 z (λp hp=>((hall segs X).2 p hp).2.1) hw
 have bD:Hid (∀segs,P.segs A.ix.segs=some segs->(P.puts A.j.Am).2=0->∀E kv fv,A3 Ab w E->Dy E kv ((BK segs oldest (Bz Ai (segs.flatMap (·.2)++(P.puts A.j.Am).1))).1.mergeSort λx y=>decide (x<=y))->(∀g,kv.oB g->w.heap.size<=g)->Ps E fv (BK segs oldest (Bz Ai (segs.flatMap (·.2)++(P.puts A.j.Am).1))).2 FT->
  Ag 107 #[A5 ab,kv,fv] E (Al (A0 R.1) λw'=>Aq w FT w' (λw' aK=>AD w' ab b R.2.1 R.2.2 aK))):=λsegs X hp E kv fv Y hk bP hf=>by
  obtain⟨z1,z2,z3⟩:=OJ Ai (segs.flatMap (·.2)++(P.puts A.j.Am).1);obtain⟨y1,y2,y3,y4⟩:=Th segs oldest (Bz Ai (segs.flatMap (·.2)++(P.puts A.j.Am).1));obtain⟨n1,n2⟩:=hall segs X;have aZ:∀n∈(BK segs oldest (Bz Ai (segs.flatMap (·.2)++(P.puts A.j.Am).1))).1.mergeSort (λx y=>decide (x<=y)),n∈A.ix.segs:=λn hn=>by
   obtain⟨s,dR,rfl⟩:=y2 n (A3B.1 hn);exact NK _ _ X s dR
  rw[dL.o segs X hp];have bT:((BK segs oldest (Bz Ai (segs.flatMap (·.2)++(P.puts A.j.Am).1))).1.mergeSort (λx y=>decide (x<=y))).length=(BK segs oldest (Bz Ai (segs.flatMap (·.2)++(P.puts A.j.Am).1))).1.length:=N2 _
  refine(Rj E (H.o.aw Y) (λk hk=>Bk (aJ.o k hk) Y.Ak) kv _ hk (λg L=>⟨λz=>by have:=bP g L;have:=aJ.o g z;omega,AM hL.1 (bP g L)⟩) fv _ hf
   (λl hl=>⟨λp hp=>n2 p ((z3 l (y3 l hl)).1 p hp),by have:=(z3 l (y3 l hl)).2;omega⟩) ⟨cG.1,by omega⟩ cJ (λx z=>bF x (aZ x z)) hF ⟨by have:=hl.a;omega,by have:=hl.c;omega,by have:=hl.m;rw[bT];omega⟩ (by rw[bT];omega) hn bI (λx z=>hn x (aZ x z)) aI.1 b2 (hL.aS Y) cY).mono ?_
  rintro e w'⟨h1,h2⟩;exact⟨h1,Aq.a7 (Y.aa λ_ _ h=>h.elim) (λk hk=>hk.elim .inl λh=>.inr (bP k h)) h2⟩
 have a5:Hid (∀segs,P.segs A.ix.segs=some segs->(segs.flatMap (·.2)++(P.puts A.j.Am).1).length<=134217728/\(Bz Ai (segs.flatMap (·.2)++(P.puts A.j.Am).1)).length<=134217728):=λsegs X=>by
  have h1:=(hall segs X).1;have h2:=(OJ Ai (segs.flatMap (·.2)++(P.puts A.j.Am).1)).1;omega
 have dM:Hid (∀segs,P.segs A.ix.segs=some segs->∀x∈segs,AN x.1):=λsegs X x z=>bF _ (NK _ _ X x z);have eK:=A1 k0;have dD:=A1 cA;clear hR h hv dG cT hall aI cG cJ bF hF hl hm hn bI b2 hL cY bJ k0 cA hw hS
 go_enter func70,ntmps70
 go_wp2_with (fail);refine eY.m ?_;rintro e w1 (⟨X,rfl,hc1⟩|⟨segs,v1,X,rfl,hv1,hc1⟩)
 ·have dE:=A1 (aB.o w1 7 (eK.o.tr hc1) (dJ.o X));clear X hc1 eY dJ dH dL aB eD eF a9 bD;go_wp2;go_ret;exact⟨by rw[dE.o.1];rfl,dE.o.2⟩
 have aL:=A1 X;have dF:=A1 hv1;have dK:Hid (A3 Ab w w1):=eK.o.tr hc1;have b1:Hid (w1.cell? (Aa w.heap.size 0)=some (A0 oldest)):=hc1.al (by simp only[World.cell?,dD.o];rfl);have aM:=A1 (eD.o w1 dK.o);have d2:=e9.o w1 dK.o;have aP:=A1 (dH.o segs aL.o);have I:=A1 (bD.o segs aL.o);have aA:=A1 (a9.o segs aL.o);have O:=A1 (a5.o segs aL.o);have aR:=A1 (eF.o segs aL.o);clear X hv1 hc1 eY dJ dH dL eD eF a9 bD a5 dM eK dD;obtain⟨ps,bV⟩:∃ps,(P.puts A.j.Am).1=ps:=⟨_,rfl⟩;obtain⟨pe,cU⟩:∃pe,(P.puts A.j.Am).2=pe:=⟨_,rfl⟩;rw[bV]at aM I aA O;rw[cU]at aM I aP;clear bV cU;go_wp2_with (fail);refine aM.m ?_;rintro e w2⟨v2,rfl,aQ,dC,aH⟩;by_cases hp:pe=0
 case neg=>
  have hpb:(pe !=0)=true:=by simpa using hp
  have dE:=A1 (aB.o w2 pe (dK.o.tr aH) (aP.o hp));clear aQ dC aH aM I aA aR aB aP hp;go_wp2;go_ret;exact⟨by rw[dE.o.1];rfl,dE.o.2⟩
 case pos=>
 subst hp;obtain⟨pl,bY⟩:∃pl,segs.flatMap (·.2)=pl:=⟨_,rfl⟩;rw[bY]at I aA O aR;have fD:Hid (A3 Ab w w2):=dK.o.tr aH;have bG:=A1 (dF.o.aw aH);have bS:=A1 (aH.al b1.o);have b6:=A1 (aR.o w2 _ v1 bG.o);obtain⟨v2a,v2c,rfl,v21,eJ,-⟩:=B8 aQ;unfold maxLen at eJ;have bZ:=A1 aQ;clear bY aQ dC aH aM aB aP aR dF b1 d2;go_wp2_with (fail);refine b6.m ?_;rintro e w3⟨v3,rfl,bM,cV,bH⟩;obtain⟨cD,cF,rfl,v31,dW,-⟩:=B8 bM;unfold maxLen at dW;have cI:=A1 bM;have b3:=A1 cV;have cN:=A1 bH;have a2:=A1 (Src.bO underlying97 (Ay bZ.o λg L=>bH.Ao g (AB bZ.o L) (λh=>h)) (I3 ps));have bR:Hid ((pl.length+ps.length)*24<=140737488355328):=by have:=O.o.1;rw[AY]at this;unfold Hid;omega
 clear bM cV bH b6;go_wp2_with (at_builtin;refine D4 rfl (.tmp 35) (.tmp 36) 97 97 rfl 113 i0 _ 3 24 underlying97 hi eZ eI eQ rfl (by decide) (.slice cD pl.length cF) pl.length (B9 pl) (by rfl) cI.o _ ps.length _ (by rfl) a2.o bR.o ?_;intro a4 cS w4 hA;have dZ:=A1 hA;clear hA);have b7:=dZ.o.Aj (S:=λk=>(Value.slice cD pl.length cF).oB k) λ_ h=>h;have bW:AW w4 (.slice a4 (pl.length+ps.length) cS) (pl++ps):=by
  have e:(pl++ps).length=pl.length+ps.length:=by simp
  unfold AW;rw[IS,e];exact dZ.o.AA
 have aY:A3 Ab w2 w4:=cN.o.Ap b7 λx z eL=>by have:=b3.o x z;omega
 have e6:=A1 (aA.o w4 _ bW);have cB:=A1 (bG.o.aw aY);have cQ:=A1 (aY.al bS.o);have e3:Hid (A3 Ab w w4):=fD.o.tr aY;clear b7 bW aY aA bG bS dZ a2 bR cN b3 cI;refine e6.m ?_;rintro e w5⟨v5,vs,rfl,aS,aV⟩;obtain⟨ws,bX⟩:∃ws,Bz Ai (pl++ps)=ws:=⟨_,rfl⟩;rw[bX]at aS I O;obtain⟨v5a,v5c,rfl,v51,eP,bU,-⟩:=B8 aS.Bv;unfold maxLen at eP;have aU:=A1 aS;have fC:=A1 bU;have cE:=A1 (cB.o.aw aV);have dA:=A1 (aV.al cQ.o);have dU:Hid (A3 Ab w w5):=e3.o.tr aV;have bK:Hid (ws.length<=134217728):=O.o.2;obtain⟨ob,b9⟩:∃ob,w.heap.size=ob:=⟨_,rfl⟩;rw[b9]at dA ⊢;clear bX aS bU aV e6 cB cQ b9;go_wp2;go_loopw [10,11,41] (λvk vf iv wr=>∃(k:Nat) (kk:List Int) (ff:List (List Pu)),iv=A0 k/\k<=ws.length/\kk.length+ff.length<=k/\Hid (Ht w5 wr w4.heap.size vk vf kk ff/\BK segs oldest ws=(kk++(BK segs oldest (ws.drop k)).1,ff++(BK segs oldest (ws.drop k)).2))) (λ_ _ iv _=>ws.length-(intOf iv).toNat)
 case atStart=>exact⟨0,[],[],rfl,by omega,by simp,⟨A3.I _ _,CD _ _ _ _,λg L=>by simp[Value.ownBlock]at L,[],rfl,CD _ _ _ _,λg L=>by simp[Value.ownBlock]at L,λk h1=>by simp at h1,λx z=>by cases z⟩,by simp⟩
 case round=>
  obtain⟨k,kk,ff,rfl,hk,a6,hI⟩:=hrel;obtain⟨i1,i2⟩:=hI.o;obtain⟨ka,kc,rfl,kc1,eS,-⟩:=B8 i1.Hi;obtain⟨bL,f1,f2,f3,f4,f5⟩:=i1.AS;obtain⟨fa,fc,rfl,fc1,eB,-⟩:=B8 f2;unfold maxLen at eS eB;by_cases aG:k<ws.length
  ·(have aF:k<vs.length:=by have:=aU.o.B5;omega);obtain⟨g,rfl⟩:=fC.o (by omega);have Y:=BC aU.o.Bv (g:=g) rfl (show vs[k]?=some (vs[k]'aF) from E2 aF);have z:=aU.o.ls k aF aG;have bA:=aU.o.li (vs[k]'aF) (BV aF);have a7:=Fw aG;obtain⟨x,cM⟩:∃x,(vs[k]'aF)=x:=⟨_,rfl⟩;obtain⟨l,cC⟩:∃l,(ws[k]'aG)=l:=⟨_,rfl⟩;rw[cM]at Y z bA;rw[cC]at z a7;rw[a7,Ti]at i2;obtain⟨xa,xc,rfl,x1,x2,-⟩:=B8 z;have e1:=i1.Aj.al Y;have kA:A3 Ab wr (wr.aC #[.slice xa l.length xc] 97):=(A3.I _ wr).ak _;have aO:A3 Ab w5 (wr.aC #[.slice xa l.length xc] 97):=i1.Aj.tr kA;have pA:(wr.aC #[.slice xa l.length xc] 97).heap[wr.heap.size]?=some (.cells #[.slice xa l.length xc] 97 (0,0)):=BN wr _;have pc:(wr.aC #[.slice xa l.length xc] 97).cell? (Aa wr.heap.size 0)=some (.slice xa l.length xc):=Gg pA;have cO:=A1 (A1E _ _ l (Ay z λg L=>aO.Ao g (AB z L) (λh=>h)) ob oldest (aO.al dA.o));have a3:=A1 i1;have eT:=A1 i2;have eN:=A1 f1;have bQ:=A1 f2;have eR:=A1 f3;have dI:=A1 f4;have dS:=A1 f5;have eU:=A1 z;have dY:=A1 bA;have fB:=A1 aO;have cL:=A1 kA;have e5:=A1 pc;(have dN:(k:Int)<(ws.length:Int):=by omega);have hk0:=C3 k;obtain⟨d,hd⟩:∃d,l.any (λp=>decide (oldest<=p.2.1))=d:=⟨_,rfl⟩;rw[hd]at cO eT;clear hI i1 i2 f1 f2 f3 f4 f5 Y z bA a7 cM cC kA aO pA hd;cases d with
   | false=>
    (have a1:Hid (BK segs oldest ws=(kk++(BK segs oldest (ws.drop (k+1))).1,ff++(BK segs oldest (ws.drop (k+1))).2)):=by have:=eT.o;rwa [Ah rfl]at this);go_wp2_with (fail);refine cO.m ?_;rintro e w6⟨rfl,aD⟩;have eG:=A1 (a3.o.aS (cL.o.tr aD));clear aD cO pc;go_wp2;go_roundw
    case rel=>exact⟨k+1,kk,ff,by go_num,aG,MX a6,eG.o,a1.o⟩
    case measure=>simp[intOf];omega
   | true=>
    have a1:=A1 eT.o;rw[Ad (by simp)]at a1;obtain⟨aX,g1,g2,g3,g4⟩:=cE.o;obtain⟨va,vc,rfl,va1,dO,b0,-⟩:=B8 g2;unfold maxLen at dO;have e8:=A1 b0;have eE:=A1 g1;have dQ:=A1 g2;have e0:=A1 g4;clear b0 g1 g2 g3 g4;go_wp2_with (fail);refine cO.m ?_;rintro e w6⟨rfl,aD⟩;have aN:A3 Ab w5 w6:=fB.o.tr aD;have eM:=A1 (A0z w6 _ segs (cE.o.aw aN) wr.heap.size (.slice xa l.length xc) l (aD.al e5.o) (Ay eU.o λg L=>aN.Ao g (AB eU.o L) (λh=>h)));have cZ:Hid (A3 Ab wr w6):=cL.o.tr aD;have eH:=A1 aN;have eO:=A1 (aD.al e5.o);clear aD cO aN pc;go_wp2_with (fail);refine eM.m ?_;rintro e w7⟨(⟨rfl,hf⟩|⟨k2,b8,rfl,hf⟩),W⟩
    ·rw[hf]at a1;(have dP:Hid (BK segs oldest ws=(kk++(BK segs oldest (ws.drop (k+1))).1,(ff++[l])++(BK segs oldest (ws.drop (k+1))).2)):=by have:=a1.o;unfold Hid;rw[this];simp);have pc7:=W.al eO.o;have k7:A3 Ab wr (w7.aC #[.slice xa l.length xc] 97):=(cZ.o.tr W).ak _;have aT:=A1 (a3.o.aS k7);have a0:=A1 (Ay bQ.o λg L=>k7.Ao g (AB bQ.o L) (λh=>h));have bC:=A1 (Src.bb (size:=1) (B:=w7.heap.size) underlying174 w7 #[.slice xa l.length xc] 97 (by simp) 1 1 rfl (by simp[Value.oneCell']));(have bO:Hid ((ff.length+1)*24<=140737488355328):=by have:=bK.o;unfold Hid;omega);clear hf W k7 eM;go_wp2_with (at_builtin;refine D4 rfl (.tmp 54) (.tmp 56) 174 174 rfl 97 s0 _ 1 24 underlying174 X eX dV eV rfl (by decide) (.slice fa ff.length fc) ff.length bL (by rfl) a0.o _ 1 _ (by rfl) bC.o bO.o ?_;intro a8 cX w8 hA;have bE:=A1 hA;clear hA);have bB:=A1 (aT.o.addF eU.o dY.o bL eN.o a0.o eR.o dI.o dS.o bE.o);go_roundw
     case rel=>exact⟨k+1,kk,ff++[l],by go_num,aG,by rw[AY];exact PA a6,bB.o,dP.o⟩
     case measure=>simp[intOf];omega
    ·rw[hf]at a1;obtain⟨gv,rfl⟩:=e8.o (by omega);(have aW:k2<aX.length:=by have:=eE.o;omega);have aE:A3 Ab w5 w7:=eH.o.tr W;have bN:=(e0.o k2 aW b8).aw aE;have dT:=aE.al (BC dQ.o (g:=gv) rfl (show (Gr aX)[k2]?=some (A5 (aX[k2]'aW)) by simp[Gr,aW]));obtain⟨gb,b4⟩:∃gb,(aX[k2]'aW)=gb:=⟨_,rfl⟩;rw[b4]at bN dT;obtain⟨sg,dB⟩:∃sg,(segs[k2]'b8)=sg:=⟨_,rfl⟩;rw[dB]at bN a1;obtain⟨n,sl⟩:=sg;obtain⟨pv,hb,-,-,-⟩:=bN;have c3:=hb.c3;dsimp only at c3;(have dP:Hid (BK segs oldest ws=((kk++[n])++(BK segs oldest (ws.drop (k+1))).1,ff++(BK segs oldest (ws.drop (k+1))).2)):=by have:=a1.o;unfold Hid;rw[this];simp);have k7:A3 Ab wr (w7.aC #[A0 n] 3):=(cZ.o.tr W).ak _;have aT:=A1 (a3.o.aS k7);have bC:=A1 (Src.bb (size:=1) (B:=w7.heap.size) underlying26 w7 #[A0 n] 3 (by simp) 1 1 rfl (JU [n]));(have bO:Hid ((kk.length+1)*8<=140737488355328):=by have:=bK.o;unfold Hid;omega);(have hk2i:(k2:Int)<(segs.length:Int):=by omega);have hk20:=C3 k2;clear hf W k7 eM hb b4 dB aE;go_wp2_with (at_builtin;refine D4 rfl (.tmp 58) (.tmp 66) 26 26 rfl 3 j0 _ 1 8 underlying26 hj e2 eW eC rfl (by decide) (.slice ka kk.length kc) kk.length (DL kk) (by rfl) aT.o.Hi _ 1 _ (by rfl) bC.o bO.o ?_;intro a8 cX w8 hA;have bE:=A1 hA;clear hA);have bB:=A1 (aT.o.fS bE.o);go_roundw
     case rel=>exact⟨k+1,kk++[n],ff,by go_num,aG,by rw[AY,Nat.add_right_comm];exact PA a6,bB.o,dP.o⟩
     case measure=>simp[intOf];omega
  ·(have dX:k=ws.length:=by omega);subst dX;rw[Gn]at i2;(have cP:BK segs oldest ws=(kk,ff):=by simpa[BK] using i2);rw[cP]at I;(have dN:¬((ws.length:Int)<(ws.length:Int)):=by omega);have e4:=A1 (WV wr _ kk i1.Hi (by have:=bK.o;omega));have a3:=A1 i1;have eN:=A1 f1;have bQ:=A1 f2;have eR:=A1 f3;have dI:=A1 f4;have dS:=A1 f5;clear hI i1 i2 f1 f2 f3 f4 f5 cP;go_wp2_with (fail);refine e4.m ?_;rintro e w7⟨rfl,b5,W⟩;(have aE:A3 Ab w5 w7:=a3.o.Aj.Ap W λx z eL=>by have:=a3.o.JT x z;omega);have cH:A3 Ab w w7:=dU.o.tr aE
   have e7:=A1 (I.o trivial w7 _ (.slice fa ff.length fc) cH b5 (λg L=>AM dU.o.Ak (a3.o.JT g L))
    ⟨bL,eN.o,Ay bQ.o λg L=>W.Ao g (AB bQ.o L) (λz=>Im bQ.o a3.o.Hi (by decide) L z),
     λk h1 h2=>Ay (dI.o k h1 h2) λg L=>aE.Ao g (AB (dI.o k h1 h2) L) (λh=>h),
     λg L z=>by have:=eR.o g L;have:=aJ.o g z;have:=dU.o.Ak;omega,
     λx z g L hf=>by have:=dS.o x z g L;have:=aJ.o g hf;have:=e3.o.Ak;omega⟩)
   clear b5 W aE cH e4 I;go_wp2_with (fail);refine e7.m ?_;rintro e w8⟨rfl,hI⟩;have fA:=A1 hI;clear hI e7;go_wp2;go_ret;exact⟨rfl,fA.o⟩
end
end
section
open Go.RowKit
structure SV (w:World) (sb ab b:Nat) (mu aA aD A6:Int) (ro:Bool) (lv:Nat->Value) (L:Nat->List Pt) (A:Ar) (P:PD) (F0:Nat->Prop):Prop where
 Af:Bm w sb mu (.pointer (some ⟨ab,0,none⟩)) aA aD A6 ro lv
 E9:E1 w lv L
 ar:AD w ab b A P F0
 lt:∀k,F0 k->k<w.heap.size
 ns:¬F0 sb
 nr:∀k,Ey lv k->¬F0 k
def SF(w:World)(sb ab b:Nat)(mu aA aD A6:Int)(ro:Bool)(L:Nat->List Pt)(A:Ar)(P:PD)(FT:Nat->Prop):Prop:=
 ∃lv F0,SV w sb ab b mu aA aD A6 ro lv L A P F0/\∀k,F0 k\/Own sb lv k->FT k
section
variable {w w' w2:World} {sb ab b:Nat} {mu aE aA aD A6 aB:Int} {ro aF:Bool} {lv lv':Nat->Value} {L L':Nat->List Pt} {A A':Ar} {P P':PD} {F0 FT:Nat->Prop}
def SV.fc(h:SV w sb ab b mu aA aD A6 ro lv L A P F0){k:Nat}(d:F0 k\/Own sb lv k):k<w.heap.size:=by
 rcases d with d|rfl|d
 ·exact h.lt k d
 ·exact h.Af.lt
 ·exact h.E9.lt d
def SV.nb(h:SV w sb ab b mu aA aD A6 ro lv L A P F0):¬Ey lv sb:=h.E9.ne h.Af (by decide)
def SV.Aj(h:SV w sb ab b mu aA aD A6 ro lv L A P F0){S:Nat->Prop}(z:A3 S w w')(E:∀k,F0 k\/Own sb lv k->¬S k):SV w' sb ab b mu aA aD A6 ro lv L A P F0:=
 ⟨h.Af.Aj z (E sb (.inr (.inl rfl))),h.E9.Aj z λg H=>E g (.inr (.inr H)),h.ar.aP (z.aH (λk d=>h.lt k d) λk d=>E k (.inl d)) z.Ak,
  λk d=>Bk (h.lt k d) z.Ak,h.ns,h.nr⟩
def SV.aw(h:SV w sb ab b mu aA aD A6 ro lv L A P F0)(d:A3 Ab w w'):SV w' sb ab b mu aA aD A6 ro lv L A P F0:=h.Aj d λ_ _ h=>h
def SF.aw(h:SF w sb ab b mu aA aD A6 ro L A P FT)(E:A3 Ab w w'):SF w' sb ab b mu aA aD A6 ro L A P FT:=by
 obtain⟨lv,F0,z,d⟩:=h;exact⟨lv,F0,z.aw E,d⟩
def SV.bN(h:SV w' sb ab b mu aA aD A6 ro lv' L' A' P' F0){S:Nat->Prop}(I:A3 S w w')(E:∀k,k<w.heap.size->S k->FT k)(H:∀k,F0 k\/Own sb lv' k->FT k\/w.heap.size<=k):
 Aq w FT w' (λw' d=>SF w' sb ab b mu aA aD A6 ro L' A' P' d):=
 ⟨I.aa E,λk=>F0 k\/Own sb lv' k,⟨lv',F0,h,λ_ h=>h⟩,λ_ z=>h.fc z,H⟩
def SV.ag(h:SV w sb ab b mu aA aD A6 ro lv L A P F0)(z:Ea w w' sb aE (.pointer (some ⟨ab,0,none⟩)) aA aD aB aF lv lv' L'):
 SV w' sb ab b aE aA aD aB aF lv' L' A P F0:=
 ⟨z.Af,z.E9,h.ar.aP (z.Aj.aH (λk d=>h.lt k d) λk d E=>by
  rcases E with rfl|E
  ·exact h.ns d
  ·exact h.nr k E d) z.Aj.Ak,λk d=>Bk (h.lt k d) z.Aj.Ak,h.ns,λk d E=>by
  rcases z.AA k d with H|H
  ·exact h.nr k H E
  ·have:=h.lt k E;omega⟩
def SV.dp(h:SV w sb ab b mu aA aD A6 ro lv L A P F0)(d:∀k,F0 k\/Own sb lv k->FT k)(H:Ea w w' sb aE (A5 ab) aA aD aB aF lv lv' L'):
 Aq w FT w' (λw' E=>SF w' sb ab b aE aA aD aB aF L' A P E):=
 (h.ag H).bN H.Aj (λk _ z=>d k (.inr z)) λk z=>by
  rcases z with z|rfl|z
  ·exact .inl (d k (.inl z))
  ·exact .inl (d _ (.inr (.inl rfl)))
  ·exact(H.AA k z).imp (λh=>d k (.inr (.inr h))) id
def SV.eh(h:SV w sb ab b mu aA aD A6 ro lv L A P F0)(d:∀k,F0 k\/Own sb lv k->FT k)(X:Aq w F0 w' (λw' E=>AD w' ab b A' P' E)):
 Aq w FT w' (λw' E=>SF w' sb ab b mu aA aD A6 ro L A' P' E):=by
 obtain⟨O,Y,h1,h2,I⟩:=X;have hb:=h.Af.lt;refine(SV.bN (w':=w') (lv':=lv) (F0:=Y) ⟨h.Af.Aj O h.ns,h.E9.Aj O h.nr,h1,h2,λW=>?_,λk z W=>?_⟩ O (λk _ z=>d k (.inl z)) λk z=>?_)
 ·rcases I _ W with H|H
  ·exact h.ns H
  ·omega
 ·rcases I _ W with H|H
  ·exact h.nr k z H
  ·have:=h.E9.lt z;omega
 ·rcases z with z|z
  ·exact(I k z).imp (λh=>d k (.inl h)) id
  ·exact .inl (d k (.inr z))
def SF.D9(h:SF w sb ab b mu aA aD A6 ro L A P FT)(o:Nat)(u:Value)(H:∀lv,Bm w sb mu (.pointer (some ⟨ab,0,none⟩)) aA aD A6 ro lv->Bm (w.setCell ⟨sb,o,none⟩ u) sb aE (.pointer (some ⟨ab,0,none⟩)) aA aD aB aF lv):
 Aq w FT (w.setCell ⟨sb,o,none⟩ u) (λw' z=>SF w' sb ab b aE aA aD aB aF L A P z):=by
 obtain⟨lv,F0,d,E⟩:=h;exact d.dp E (Ea.of (H lv d.Af) d.E9 ((A3.I (One sb) w).ao rfl o u) d.nb)
def SFto.D9(h:Aq w FT w' (λw' d=>SF w' sb ab b mu aA aD A6 ro L A P d))(o:Nat)(u:Value)(E:∀lv,Bm w' sb mu (.pointer (some ⟨ab,0,none⟩)) aA aD A6 ro lv->Bm (w'.setCell ⟨sb,o,none⟩ u) sb aE (.pointer (some ⟨ab,0,none⟩)) aA aD aB aF lv):
 Aq w FT (w'.setCell ⟨sb,o,none⟩ u) (λw' d=>SF w' sb ab b aE aA aD aB aF L A P d):=
 h.Ap λ_ z _ _=>z.D9 o u E
def Fk(L:Nat->List Pt)(o:Int)(k:Nat)(t v:Int):Nat->List Pt:=if o<=t then GY L k (CU (L k) t v) else L
def Oz(L:Nat->List Pt)(o:Int)(n:Nat)(t v:Int)(k:Nat):(Fk L o n t v k).length<=(L k).length+1:=by
 unfold Fk;split
 ·unfold GY;split
  ·rename_i e;subst e;exact(OH _ _ _).2
  ·omega
 ·omega
def Tj(w:World)(p:Pu)(h:SF w sb ab b mu aA aD A6 ro L A P FT)(X:0<=p.1/\p.1<8)(E:∀k,k<8->(L k).length<1099511627000)(hl:1<=aA/\aA<=4611686018427387904)(hc:AN A6):
 Ag 60 #[A5 sb,Dt p] w (Al (.tuple #[]) λw'=>Aq w FT w' (λw' O=>SF w' sb ab b mu aA aD A6 ro (Fk L (Ba A6 aA) p.1.toNat p.2.1 p.2.2) A P O)):=by
 obtain⟨k,t,v⟩:=p;obtain⟨lv,F0,d,W⟩:=h;unfold Dt;dsimp only at X ⊢;obtain⟨I,hk2⟩:=X;obtain⟨n,rfl⟩:=LG I;have H:n<8:=by omega
 refine(ZR w sb n _ _ (by decide) A6 aA t v (L n) (lv n) H (d.E9.dM d.Af H) (by have:=E n H;omega) rfl rfl hl hc).mono ?_;rintro e w'⟨rfl,h3⟩;refine⟨rfl,?_⟩;unfold Fk;rw[Et];rcases h3 with⟨Y,lv',hR⟩|⟨Y,z⟩
 ·rw[Ah Y];have hlen:=(OH (L n) t v).2;obtain⟨b1,b2,b3,b4⟩:=d.E9.ag d.Af H hR rfl (by have:=E n H;omega);exact d.dp W ⟨b1,b2,b3,b4⟩
 ·rw[Ad (by omega)];exact(d.aw z).bN z (λ_ _ h=>h.elim) λk hk=>.inl (W k hk)
end
def XS(puts:List Pu)(d a b h A6:Int):(refQ puts d a b h A6).length<=puts.length:=by
 have:=(Ry puts d a b h A6 puts.length (As _)).2
 rwa [C6]at this
def Rel(L:Nat->List Pt)(puts:List Pu)(d A6:Int):Prop:=∀k:Nat,k<8->(L k).filter (λx=>decide (Ba A6 d<=x.1))=refQ puts k (-9223372036854775808) 9223372036854775807 d A6
def Rx(puts:List Pu)(s a b l c a' H l' E:Int)(g:Int->Bool)(h:∀p∈puts,Gt s a' H l' E p=(Gt s a b l c p&&g p.2.1)):
 refQ puts s a' H l' E=(refQ puts s a b l c).filter (λx=>g x.1):=by
 have key:∀(I:List Pu) (d:List Pt),Dv d->(∀p∈I,Gt s a' H l' E p=(Gt s a b l c p&&g p.2.1))->
  I.foldl (Fh s a' H l' E) (d.filter λx=>g x.1)=(I.foldl (Fh s a b l c) d).filter (λx=>g x.1):=by
  intro I
  induction I with
  | nil=>intro d _ _;rfl
  | cons p r ih=>
   intro d X W;have L:=W p (by simp);simp only[PQ];by_cases q:Gt s a b l c p=true
   ·(have Y:Fh s a b l c d p=CU d p.2.1 p.2.2:=by unfold Fh;rw[Ah q]);have O:Fh s a' H l' E (d.filter λx=>g x.1) p=(CU d p.2.1 p.2.2).filter (λx=>g x.1):=by
     unfold Fh;rw[L,q,Nh,Ty X]
    rw[Y,O];exact ih _ (L1 X _ _) λp z=>W p (Bx _ z)
   ·(have q':Gt s a b l c p=false:=by simpa using q);(have Y:Fh s a b l c d p=d:=by unfold Fh;rw[q'];rfl);have O:Fh s a' H l' E (d.filter λx=>g x.1) p=d.filter λx=>g x.1:=by
     unfold Fh;rw[L,q',VA];rfl
    rw[Y,O];exact ih _ X λp z=>W p (Bx _ z)
 exact key puts [] List.Pairwise.nil h
def MK{t d A6:Int}(h:AN t):It t d A6=decide (Ba A6 d<=t):=(YQ A6 d t h).symm
def Rel.bD{L:Nat->List Pt}{puts:List Pu}{d A6:Int}(h:Rel L puts d A6)(E:∀p∈puts,AN p.2.1){k:Nat}(H:k<8)(a b:Int):
 piece (L k) (max a (Ba A6 d)) b=refQ puts k a b d A6:=by
 have e:=Rx puts k (-9223372036854775808) 9223372036854775807 d A6 a b d A6 (λt=>decide (a<=t)&&decide (t<=b)) λp z=>by
  obtain⟨O,I⟩:=E p z;unfold Gt;have d1:=CH O;have d2:=CH I;rw[d1,d2];cases decide (p.1=(k:Int))<;>cases decide (a<=p.2.1)<;>cases decide (p.2.1<=b)<;>cases It p.2.1 d A6<;>rfl
 rw[e,<-h k H,Vm];unfold piece
 congr 1
 funext x
 apply Ni.2;simp only[FH,DG];omega
def Rel.bT(d A6:Int):Rel (λ_=>[]) [] d A6:=λ_ _=>by simp[refQ]
def Rel.av{L:Nat->List Pt}{puts:List Pu}{d A6:Int}(h:Rel L puts d A6)(O:∀k,k<8->Dv (L k)){s:Nat}(hs8:s<8){t v:Int}(H:AN t):
 Rel (Fk L (Ba A6 d) s t v) (puts++[((s:Int),t,v)]) d A6:=by
 intro k E;have W:refQ (puts++[((s:Int),t,v)]) k (-9223372036854775808) 9223372036854775807 d A6=Fh k (-9223372036854775808) 9223372036854775807 d A6 (refQ puts k (-9223372036854775808) 9223372036854775807 d A6) ((s:Int),t,v):=by
  unfold refQ;rw[N4];rfl
 rw[W,<-h k E];obtain⟨t1,t2⟩:=H;have d1:=CH t1;have d2:=CH t2;unfold Fh Gt;simp only[d1,d2,Bool.and_true,MK (⟨t1,t2⟩:AN t)];unfold Fk;by_cases z:Ba A6 d<=t
 ·rw[Ah z];unfold GY;by_cases e:k=s
  ·subst e;have f:=Ty (O k E) (λx=>decide (Ba A6 d<=x)) t v;simp only[CH z]at f ⊢;simp only[Cg]at f ⊢;simpa using f
  ·have I:¬(s:Int)=(k:Int):=λx=>e (by omega);simp[e,I]
 ·rw[Ad z];have:decide (Ba A6 d<=t)=false:=CZ z;simp[this]
def Oc{c z d:Int}(h:c<=z):Ba c d<=Ba z d:=by
 unfold Ba;split<;>split<;>omega
def Rel.cf{L I:Nat->List Pt}{puts:List Pu}{z A6 d:Int}(h:Rel L puts z A6)(W:∀p∈puts,AN p.2.1)(hc:A6<=d)(hf:HS L I (Ba d z)):Rel I puts z d:=by
 intro k O;have ho:Ba A6 z<=Ba d z:=Oc hc;have e:=Rx puts k (-9223372036854775808) 9223372036854775807 z A6 (-9223372036854775808) 9223372036854775807 z d (λt=>decide (Ba d z<=t)) λp H=>by
  unfold Gt;rw[MK (W p H),MK (W p H)];have:decide (Ba d z<=p.2.1)=(decide (Ba A6 z<=p.2.1)&&decide (Ba d z<=p.2.1)):=by
   apply Ni.2;simp only[FH,DG];omega
  rw[this];simp[Bool.and_assoc]
 have X:(L k).filter (λx=>decide (Ba d z<=x.1))=refQ puts k (-9223372036854775808) 9223372036854775807 z d:=by
  rw[e,<-h k O,Vm]
  congr 1
  funext x
  apply Ni.2;simp only[FH,DG];omega
 rw[<-X];rcases hf k O with q|q
 ·rw[q]
 ·rw[q];have E:L k=(L k).take (BG (L k) (Ba d z))++(L k).drop (BG (L k) (Ba d z)):=(DK _ _).symm;have Y:((L k).take (BG (L k) (Ba d z))).filter (λx=>decide (Ba d z<=x.1))=[]:=by
   rw[Vn];intro x hx;obtain⟨i,hi,rfl⟩:=List.mem_iff_getElem.1 hx;rw[BU]at hi;have:=JI (l:=L k) (t:=Ba d z) (i:=i) (by omega) (by omega);rw[Vi];simp;omega
  conv=>rhs;rw[E,Lz,Y,Es]
def HS.B5{L d:Nat->List Pt}{o:Int}(h:HS L d o){k:Nat}(z:k<8):(d k).length<=(L k).length:=by
 rcases h k z with e|e
 ·rw[e];exact As _
 ·rw[e,Cu];omega

def XM{L:Nat->List Pt}{a b:List Pu}{d A6:Int}(h:Rel L a d A6)(_ha:∀p∈b,Bi p)(O:C9 (Ba A6 d) a b):Rel L b d A6:=λk E=>by
 rw[h k E];refine XR λt I H z=>O.1 _ _ ?_;rw[MK ⟨I,H⟩]at z;exact JL z
section
variable {P:PD} {A:Ar} {a c m:Nat}
def Fit.ah:∀(fresh:List (List Pu)) (last:Int) (kept:List Int) (P:PD) (a c m:Nat),Fit P a c m->Fit (PD.ah fresh last kept P).2.2.2 (a+fresh.length) (c+fresh.length) (m+Di fresh)/\(PD.ah fresh last kept P).2.2.1.length<=kept.length+fresh.length
 | [],last,kept,P,a,c,m,h=>⟨h,by simp[PD.ah]⟩
 | l::r,last,kept,P,a,c,m,h=>by
  have z:=h.aK (last+1) l;have d:Di (l::r)=(17*l.length+4)+Di r:=by simp[Di]
  rw[Sz];split
  ·exact⟨z.aa (by simp) (by simp) (by rw[d];omega),by simp⟩
  ·obtain⟨E,H⟩:=Fit.ah r (last+1) (kept++[last+1]) _ _ _ _ z;exact⟨E.aa (by simp;omega) (by simp;omega) (by rw[d];omega),by simp at H ⊢;omega⟩
def Fit.ay(h:Fit P a c m)(kept:List Int)(fresh:List (List Pu)):Fit (A.ay P kept fresh).2.2 (a+fresh.length+2) (c+2*a+2*fresh.length+4) (m+Di fresh+12+8*(kept.length+fresh.length)):=by
 rw[Ri];have E:=h.aM (A:=A);split
 ·exact E.aa (by omega) (by omega) (by omega)
 ·obtain⟨z,h3⟩:=Fit.ah fresh (A.aM P).2.1.A9 kept _ _ _ _ E;split
  ·exact z.aa (by omega) (by omega) (by omega)
  ·have d:=z.cD (A:={ (A.aM P).2.1 with A9:=(PD.ah fresh (A.aM P).2.1.A9 kept (A.aM P).2.2).2.1}) (PD.ah fresh (A.aM P).2.1.A9 kept (A.aM P).2.2).2.2.1;split
   ·exact d.aa (by omega) (by omega) (by omega)
   ·unfold Ar.aY;have H:=Fit.aq (A:=(({ (A.aM P).2.1 with A9:=(PD.ah fresh (A.aM P).2.1.A9 kept (A.aM P).2.2).2.1}:Ar).ag (PD.ah fresh (A.aM P).2.1.A9 kept (A.aM P).2.2).2.2.2 (PD.ah fresh (A.aM P).2.1.A9 kept (A.aM P).2.2).2.2.1).2.1) d;split
    ·exact H.aa (by omega) (by omega) (by omega)
    ·exact H.aJ.aa (by omega) (by omega) (by omega)
def Fit.bW(h:Fit P a c m)(nm:ByteArray)(s:Nat)(l:Bs):Fit (P.ad nm s l).2.2 a c (m+(l.length+4)):=by
 have:=h.an nm (AR s l);rw[Ez]at this;exact this
def Fit.ec{J:Jn}(h:Fit P a c m):Fit (J.au P).2.2 (a+1) (c+1) (m+12):=by
 unfold Jn.au;have z:=h.ai (A8 (Ae (J.A9+1)));have d:=z.bW (A8 (Ae (J.A9+1))) (AE (Ae (J.A9+1))) (AQ J.puts);rw[CL]at d;split
 ·exact z.aa (As _) (As _) (by omega)
 ·dsimp only
  split
  ·exact d
  ·exact d
def Fit.dT{J:Jn}(h:Fit P a c m)(p:Pu):Fit (J.av P p).2.2.2 a c (m+21):=by
 unfold Jn.av;cases J.AA with
 | none=>exact h.aa (As _) (As _) (by omega)
 | some x=>
  obtain⟨n,s⟩:=x;have d:=h.bW (A8 (Ae n)) s (Bc p.1 p.2.1 p.2.2);rw[EW]at d;exact d
def Fit.fI{J:Jn}(h:Fit P a c m)(p:Pu):Fit (J.ad P p).2.2.2 (a+1) (c+1) (m+33):=by
 unfold Jn.ad;split
 ·split
  ·exact h.ec.aa (As _) (As _) (by omega)
  ·exact(h.ec.dT p).aa (As _) (As _) (by omega)
 ·exact(h.dT p).aa (by omega) (by omega) (by omega)
def Fit.fy(h:Fit P a c m)(p:Pu):Fit (A.ad P p).2.2.2 (a+1) (c+1) (m+33):=by
 unfold Ar.ad;split
 ·exact h.C.aa (by omega) (by omega) (by omega)
 ·exact h.C.fI p
def Fit.fO(h:Fit P a c m):Fit (A.ae P).2.2 a c m:=by
 have d:=h.C (A:=A);have z:∀J:Jn,Fit (J.ae (A.C P).2.2).2 a c m:=λJ=>by
  unfold Jn.ae;cases J.AA with
  | none=>exact d
  | some x=>exact d.ae _
 unfold Ar.ae;split
 ·exact d
 ·split
  ·exact z _
  ·exact(z _).aJ
end
structure Wd (P:PD) (a m:Nat):Prop where
 A4:P.D.A4.length<=a
 AO:P.D.AO.length<=a
 Fs:∀l∈P.D.Av,l.length<=a
 B5:∀f,P.D.Au f->(P.F f).1.length<=m
def Fit.wd{P:PD}{a c m:Nat}(h:Fit P a c m):Wd P a m:=⟨h.A4,h.AO,h.Fs,h.B5⟩
def Wd.CV{P:PD}{a c m a' m':Nat}(h:Wd P a m)(d:Fit P a' c m'):Fit P a c m:=⟨h.A4,h.AO,h.Fs,d.Aj,h.B5,d.AH,d.BJ⟩
def Br(P:PD)(k:Nat):Prop:=∀f,P.D.Au f->f<k
def Br.aa{P:PD}{k d:Nat}(h:Br P k)(z:k<=d):Br P d:=λf E=>Bk (h f E) z
def Mp{k:Nat}:∀ {es:List AL},(∀e∈es,e.2<k)->Il es<=k
 | [],_=>Cf _
 | e::r,h=>by
  have:=h e (BF ..);have:=Mp λx d=>h x (Bx _ d);unfold Il;omega
def Uj{k:Nat}:∀ {l:List (List AL)},(∀c∈l,∀e∈c,e.2<k)->K6 l<=k
 | [],_=>Cf _
 | c::r,h=>by
  have:=Mp (h c (BF ..));have:=Uj λx d=>h x (Bx _ d);unfold K6;omega
def Br.AS{P:PD}{k:Nat}(h:Br P k):P.D.AS<=k:=by
 have h1:=Mp λe d=>h _ (.inl ⟨e,d,rfl⟩);have h2:=Mp λe d=>h _ (.inr (.inl ⟨e,d,rfl⟩));have h3:=Uj λc z e d=>h _ (.inr (.inr ⟨c,z,e,d,rfl⟩));unfold DS.AS;omega
def Br.A4{P:PD}{k:Nat}(h:Br P k):∀e∈P.D.A4,e.2<k:=λe d=>h _ (.inl ⟨e,d,rfl⟩)
def HK(P P':PD):Prop:=P'.D.AO=P.D.AO/\((P'.D.A4=P.D.A4/\P'.D.Av=P.D.Av)\/P'.D.Av=P.D.Av++[P'.D.A4])
def HK.wd{P P':PD}{a m:Nat}(h:HK P P')(z:Wd P a m)(E:P'.D.A4.length<=a)(H:∀f,P'.D.Au f->(P'.F f).1.length<=m):Wd P' a m:=
 ⟨E,by rw[h.1];exact z.AO,λl d=>by
  rcases h.2 with⟨_,e⟩|e
  ·rw[e]at d;exact z.Fs l d
  ·rw[e]at d;rcases AU.1 d with d|d
   ·exact z.Fs l d
   ·simp at d;subst d;exact E,H⟩
def HK.Aj{P P':PD}(h:HK P P'):∀l∈P'.D.Av,l∈P.D.Av\/l=P'.D.A4:=λl d=>by
 rcases h.2 with⟨_,e⟩|e
 ·rw[e]at d;exact .inl d
 ·rw[e]at d;rcases AU.1 d with d|d
  ·exact .inl d
  ·exact .inr (by simpa using d)
def HK.Au{P P':PD}(h:HK P P'){p:Nat->Prop}(E:∀f,P.D.Au f->p f)(z:∀e∈P'.D.A4,p e.2):∀f,P'.D.Au f->p f:=by
 rintro f (⟨e,he,rfl⟩|⟨e,he,rfl⟩|⟨l,d,e,he,rfl⟩)
 ·exact z e he
 ·rw[h.1]at he;exact E _ (.inr (.inl ⟨e,he,rfl⟩))
 ·rcases h.Aj l d with d|rfl
  ·exact E _ (.inr (.inr ⟨l,d,e,he,rfl⟩))
  ·exact z e he
section
variable {P P':PD} {A:Ar} {J:Jn} {a m k:Nat}
def Extra.dF{nm:Bs}(h:Extra P nm P'):HK P P':=⟨h.AO,by
 rcases h.Hl with⟨d1,d2⟩|⟨_,d1,d2⟩
 ·exact .inl ⟨d1,d2⟩
 ·exact .inr (by rw[d2,d1])⟩
def Extra.EL{nm:Bs}(h:Extra P nm P'):∀e∈P'.D.A4,e∈P.D.A4\/e.2=P.D.AS:=λe d=>by
 rcases h.Hl with⟨d1,_⟩|⟨_,d1,_⟩
 ·rw[d1]at d;exact .inl d
 ·rw[d1]at d;rcases AU.1 d with d|d
  ·exact .inl d
  ·simp at d;subst d;exact .inr rfl
def Br.bJ{nm:Bs}(h:Br P k)(z:Extra P nm P'):Br P' (k+1):=by
 refine z.dF.Au (λf E=>A3p (h f E)) λe d=>?_;rcases z.EL e d with d|d
 ·exact A3p (h.A4 e d)
 ·have:=h.AS;omega
def Wd.bJ{nm:Bs}(h:Wd P a m)(d:Extra P nm P')(L:P.dl+1<=a)(O:(P'.F P.D.AS).1.length<=m):Wd P' a m:=by
 unfold PD.dl at L;have E:∀f,(f≠P.D.AS->P.D.Au f)->(P'.F f).1.length<=m:=λf E=>by
  by_cases e:f=P.D.AS
  ·rw[e];exact O
  ·rw[d.Eg f e];exact h.B5 f (E e)
 refine d.dF.wd h ?_ (d.dF.Au (λf I=>E f λ_=>I) λe z=>E _ λH=>?_)
 ·rcases d.Hl with⟨d1,_⟩|⟨_,d1,_⟩
  ·rw[d1];omega
  ·rw[d1];simp;omega
 ·rcases d.EL e z with z|z
  ·exact .inl ⟨e,z,rfl⟩
  ·exact absurd z H
def VH(P:PD)(nm:Bs)(s:Nat)(l:Bs):((P.aI nm s l).2.F P.D.AS).1.length<=l.length+4:=by
 obtain⟨e1,I⟩:=K0 P nm;have h:(P.ai (A8 nm)).2.F P.D.AS=([],0):=by unfold PD.ai;simp[upd]
 unfold PD.aI;split
 ·rw[h];simp
 ·rename_i H;have E:=I (Cz H);obtain⟨a1,a2,a3,z⟩:=Is (AR s l) E;have d:(((P.ai (A8 nm)).2.ad (A8 nm) s l).2.2.F P.D.AS).1.length<=l.length+4:=by
   show (((P.ai (A8 nm)).2.an (A8 nm) (AR s l)).2.F P.D.AS).1.length<=l.length+4;rcases z with e|⟨j,e⟩
   ·rw[e,h];simp
   ·rw[e];simp only[upd,Cg,h,Es,BU,Ez];omega
  split
  ·exact d
  ·unfold PD.ae CA;split
   ·exact d
   ·dsimp only
    split
    ·unfold upd;split
     ·rename_i e;rw[<-e];exact d
     ·exact d
    ·exact d
def Wd.aI(h:Wd P a m)(nm:Bs)(s:Nat)(l:Bs)(d:P.dl+1<=a)(z:l.length+4<=m):Wd (P.aI nm s l).2 a m:=h.bJ (JZ P nm s l).1 d (AM (VH P nm s l) z)
def Br.aI(h:Br P k)(nm:Bs)(s:Nat)(l:Bs):Br (P.aI nm s l).2 (k+1):=h.bJ (JZ P nm s l).1
def LQ(P:PD)(x:ByteArray):(P.ae x).2.D.A4=P.D.A4/\(P.ae x).2.D.AO=P.D.AO/\(P.ae x).2.D.Av=P.D.Av/\∀f,((P.ae x).2.F f).1=(P.F f).1:=by
 cases hx:lookup P.D.A4 x with
 | none=>
  have e:(P.ae x).2=P:=by unfold PD.ae CA;rw[hx]
  rw[e];exact⟨rfl,rfl,rfl,λ_=>rfl⟩
 | some g=>
  obtain⟨h,z,E,d⟩:=II hx;refine⟨h,z,E,λf=>?_⟩;rcases d with e|e
  ·rw[e]
  ·rw[e];unfold upd;split
   ·rename_i H;rw[H]
   ·rfl
def OM(z:P'.D.A4=P.D.A4)(h:P'.D.AO=P.D.AO)(E:P'.D.Av=P.D.Av)(f:Nat)(d:P'.D.Au f):P.D.Au f:=by
 unfold DS.Au at d ⊢;rwa [z,h,E]at d
def Wd.aH(h:Wd P a m)(z:P'.D.A4=P.D.A4)(d:P'.D.AO=P.D.AO)(E:P'.D.Av=P.D.Av)(I:∀f,(P'.F f).1=(P.F f).1):Wd P' a m:=
 ⟨by rw[z];exact h.A4,by rw[d];exact h.AO,by rw[E];exact h.Fs,λf H=>by rw[I];exact h.B5 f (OM z d E f H)⟩
def Wd.ae(h:Wd P a m)(x:ByteArray):Wd (P.ae x).2 a m:=by
 obtain⟨E,d,H,z⟩:=LQ P x;exact h.aH E d H z
def Br.ae(h:Br P k)(x:ByteArray):Br (P.ae x).2 k:=by
 obtain⟨E,z,H,_⟩:=LQ P x;exact λf d=>h f (OM E z H f d)
def Wd.ax:∀(l:List Bs) {P:PD},Wd P a m->Wd (PD.ax l P).2 a m
 | [],_,h=>h
 | nm::r,P,h=>by
  unfold PD.ax;split
  ·exact h.ae _
  ·exact Wd.ax r (h.ae _)
def Br.ax:∀(l:List Bs) {P:PD},Br P k->Br (PD.ax l P).2 k
 | [],_,h=>h
 | nm::r,P,h=>by
  unfold PD.ax;split
  ·exact h.ae _
  ·exact Br.ax r (h.ae _)
def Wd.C(h:Wd P a m):Wd (A.C P).2.2 a m:=by unfold Ar.C;split<;>exact Wd.ax _ h
def Br.C(h:Br P k):Br (A.C P).2.2 k:=by unfold Ar.C;split<;>exact Br.ax _ h
def Wd.aJ(h:Wd P a m):Wd P.aJ.2 a m:=by
 unfold PD.aJ DH;dsimp only
 split
 ·refine⟨h.A4,h.A4,λl d=>(by cases d),?_⟩;rintro f (hf|hf|⟨l,d,_⟩)
  ·exact h.B5 f (.inl hf)
  ·exact h.B5 f (.inl hf)
  ·cases d
 ·exact⟨h.A4,h.AO,h.Fs,h.B5⟩
def Br.aJ(h:Br P k):Br P.aJ.2 k:=by
 unfold PD.aJ DH;dsimp only
 split
 ·rintro f (hf|hf|⟨l,hl,_⟩)
  ·exact h f (.inl hf)
  ·exact h f (.inl hf)
  ·cases hl
 ·exact h
def NX(P:PD)(x:ByteArray):HK P (P.az x).2/\(P.az x).2.F=P.F/\(∀e∈(P.az x).2.D.A4,e∈P.D.A4)/\((P.az x).1=0->(P.az x).2.dl+1=P.dl):=by
 unfold PD.az Dg;by_cases E:B2 P.D.A4 x<0
 ·rw[Ah E];exact⟨⟨rfl,.inl ⟨rfl,rfl⟩⟩,rfl,λ_ h=>h,λh=>(by cases h)⟩
 ·rw[Ad E];have hl:=TL P.D.A4 x;dsimp only
  by_cases z:(bg P.D.n).1=true
  ·rw[Ah z];refine⟨⟨rfl,.inr rfl⟩,rfl,λe d=>?_,λ_=>?_⟩
   ·rcases AU.1 d with d|d
    ·exact IB d
    ·exact Lu d
   ·unfold PD.dl;simp;omega
  ·rw[Ad z];exact⟨⟨rfl,.inl ⟨rfl,rfl⟩⟩,rfl,λ_ h=>h,λh=>absurd (GL h) z⟩
def Wd.az(h:Wd P a m)(x:ByteArray):Wd (P.az x).2 a m:=by
 obtain⟨d,H,I,_⟩:=NX P x;have:=TR P x;refine d.wd h ?_ ?_
 ·have:=h.A4;unfold PD.dl at *;omega
 ·rw[H];exact d.Au (λf z=>h.B5 f z) λe E=>h.B5 _ (.inl ⟨e,I e E,rfl⟩)
def Br.az(h:Br P k)(x:ByteArray):Br (P.az x).2 k:=by
 obtain⟨E,_,H,_⟩:=NX P x;exact E.Au (λf d=>h f d) λe z=>h.A4 e (H e z)
def Wd.aL:∀(l:List Bs) {P:PD},Wd P a m->Wd (PD.aL l P).2 a m
 | [],_,h=>h
 | nm::r,P,h=>by
  unfold PD.aL;split
  ·exact h.az _
  ·exact Wd.aL r (h.az _)
def Br.aL:∀(l:List Bs) {P:PD},Br P k->Br (PD.aL l P).2 k
 | [],_,h=>h
 | nm::r,P,h=>by
  unfold PD.aL;split
  ·exact h.az _
  ·exact Br.aL r (h.az _)
def Rv:∀(l:List Bs) (P:PD),(PD.aL l P).1=0->(PD.aL l P).2.dl+l.length=P.dl
 | [],_,_=>rfl
 | nm::r,P,h=>by
  unfold PD.aL at h ⊢;split at h
  ·rename_i d;exact absurd h d
  ·rename_i d;rw[Ad d];have:=Rv r _ h;have:=(NX P (A8 nm)).2.2.2 (Cz d);simp only[Cv];omega
def TK{α:Type}(p:α->Bool):∀l:List α,(l.filter p).length+(l.filter λx=>!p x).length=l.length
 | []=>rfl
 | x::r=>by
  have:=TK p r;cases hx:p x with
  | true=>simp[hx];omega
  | false=>simp[hx];omega
def QH(H:FY P)(d:(A.aq P).1=0):(A.aq P).2.dl<=A.Ax.length:=by
 have h1:=Rv (A.aU P) P d;have h:=H.aN.cS;have h2:(A.aX P).length<=A.Ax.length:=IX (h.filter _) λx E=>by
  have:=(GQ.1 E).2;simpa using this
 have z:(A.aX P).length+(A.aU P).length=P.Ax.length:=by
  unfold Ar.aX Ar.aU;exact TK _ _
 rw[Hk]at z;have h4:(PD.aL (A.aU P) P).2.dl=(A.aq P).2.dl:=rfl;omega
def Oj:∀(fresh:List (List Pu)) (last:Int) (kept:List Int) {P:PD} {k:Nat},Wd P a m->Br P k->P.dl+fresh.length<=a->(∀l∈fresh,17*l.length+4<=m)->
 Wd (PD.ah fresh last kept P).2.2.2 a m/\Br (PD.ah fresh last kept P).2.2.2 (k+fresh.length)
 | [],_,_,_,_,h,hi,_,_=>⟨h,hi⟩
 | l::r,last,kept,P,k,h,hi,hd,hl=>by
  simp only[Cv]at hd;have E:Wd (P.aK (last+1) l).2 a m:=h.aI _ _ _ (by omega) (by rw[I2];exact hl l (BF ..));have z:Br (P.aK (last+1) l).2 (k+1):=hi.aI _ _ _;have hdl:(P.aK (last+1) l).2.dl<=P.dl+1:=L7 P _ _ _;have d:PD.ah (l::r) last kept P=if (P.aK (last+1) l).1≠0 then ((P.aK (last+1) l).1,last+1,kept,(P.aK (last+1) l).2) else PD.ah r (last+1) (kept++[last+1]) (P.aK (last+1) l).2:=rfl
  rw[d];split
  ·exact⟨E,z.aa (by simp)⟩
  ·obtain⟨H,I⟩:=Oj r (last+1) (kept++[last+1]) E z (by omega) λx L=>hl x (Bx _ L);exact⟨H,I.aa (by simp;omega)⟩
def Rm(P:PD)(old nm:ByteArray):HK P (P.aO old nm).2/\(P.aO old nm).2.F=P.F/\∀e∈(P.aO old nm).2.D.A4,∃d∈P.D.A4,d.2=e.2:=by
 unfold PD.aO CQ;cases hx:lookup P.D.A4 old with
 | none=>exact⟨⟨rfl,.inl ⟨rfl,rfl⟩⟩,rfl,λe h=>⟨e,h,rfl⟩⟩
 | some f=>
  dsimp only
  split
  ·exact⟨⟨rfl,.inl ⟨rfl,rfl⟩⟩,rfl,λe h=>⟨e,h,rfl⟩⟩
  ·dsimp only
   split
   ·refine⟨⟨rfl,.inr rfl⟩,rfl,λe h=>?_⟩;rcases AU.1 h with h|h
    ·exact⟨e,LZ _ _ _ _ e h,rfl⟩
    ·simp at h;subst h;exact⟨_,E6 hx,rfl⟩
   ·exact⟨⟨rfl,.inl ⟨rfl,rfl⟩⟩,rfl,λe h=>⟨e,h,rfl⟩⟩
def Wd.aO(h:Wd P a m)(old nm:ByteArray)(z:P.dl+1<=a):Wd (P.aO old nm).2 a m:=by
 obtain⟨E,L,O⟩:=Rm P old nm;have:=TQ P old nm;refine E.wd h (by unfold PD.dl at *;omega) ?_;rw[L];exact E.Au (λf H=>h.B5 f H) λe I=>by obtain⟨d,z,W⟩:=O e I;rw[<-W];exact h.B5 _ (.inl ⟨d,z,rfl⟩)
def Br.aO(h:Br P k)(old nm:ByteArray):Br (P.aO old nm).2 k:=by
 obtain⟨I,_,L⟩:=Rm P old nm;exact I.Au (λf E=>h f E) λe H=>by obtain⟨d,z,O⟩:=L e H;rw[<-O];exact h.A4 d z
def Ye(h:Wd P a m)(H:Br P k)(d:Int)(segs:List Int)(hd:P.dl+2<=a)(hl:12+8*segs.length<=m):Wd (P.ag d segs).2 a m/\Br (P.ag d segs).2 (k+1):=by
 have hlen:(Ch d segs).length=8+8*segs.length:=by unfold Ch;rw[AY,CL,J7]
 have E:Wd (P.aI Bo (AE AI) (Ch d segs)).2 a m:=h.aI _ _ _ (by omega) (by omega);have z:=H.aI Bo (AE AI) (Ch d segs);have:=L7 P Bo (AE AI) (Ch d segs);unfold PD.ag;split
 ·exact⟨E,z⟩
 ·exact⟨E.aO _ _ (by omega),z.aO _ _⟩
def A2v(h:Wd P a m)(d:Br P k)(segs:List Int)(z:P.dl+2<=a)(E:12+8*segs.length<=m):Wd (A.ag P segs).2.2 a m/\Br (A.ag P segs).2.2 (k+1):=by
 have:=Ye h d (A.j.A9+1) segs z E;unfold Ar.ag;split
 ·exact⟨h,d.aa (by omega)⟩
 ·split<;>exact this
def A1X(h:Wd P a m)(d:Br P k):Wd (A.aY P).2.2 a m/\Br (A.aY P).2.2 k:=by
 unfold Ar.aY;split
 ·exact⟨Wd.aL _ h,Br.aL _ d⟩
 ·exact⟨(Wd.aL _ h).aJ,(Br.aL _ d).aJ⟩
def SA(h:FY P)(d:P'.D.A4=P.D.A4):FY P':=⟨by rw[d];exact h.Au,by rw[d];exact h.Cl⟩
def NI(A:Ar)(P:PD):(A.C P).2.2.D.A4=P.D.A4:=by
 have key:∀(l:List Bs) (Q:PD),(PD.ax l Q).2.D.A4=Q.D.A4:=by
  intro l
  induction l with
  | nil=>intro Q;rfl
  | cons nm r ih=>
   intro Q;unfold PD.ax;split
   ·exact(LQ Q _).1
   ·rw[ih,(LQ Q _).1]
 unfold Ar.C;split<;>exact key _ _
def Xx(h:Wd P a m)(hi:Br P k)(hn:FY P)(kept:List Int)(fresh:List (List Pu))(hd:A.Ax.length+fresh.length+2<=a)(hl:∀l∈fresh,17*l.length+4<=m)(hk:12+8*(kept.length+fresh.length)<=m):
 Wd (A.ay P kept fresh).2.2 a m/\Br (A.ay P kept fresh).2.2 (k+fresh.length+1):=by
 have H:Wd (A.C P).2.2 a m:=h.C;have X:Br (A.C P).2.2 k:=hi.C;have n1:FY (A.C P).2.2:=SA hn (NI A P);have z:(A.C P).2.1.Ax=A.Ax:=by unfold Ar.C;split<;>rfl
 unfold Ar.ay;dsimp only
 split
 ·exact⟨H,X.aa (by omega)⟩
 ·have Y:Wd ((A.C P).2.1.aq (A.C P).2.2).2 a m:=Wd.aL _ H;have L:Br ((A.C P).2.1.aq (A.C P).2.2).2 k:=Br.aL _ X;split
  ·exact⟨Y,L.aa (by omega)⟩
  ·rename_i h2;have d:=QH n1 (Cz h2);rw[z]at d;obtain⟨I,O⟩:=Oj fresh (A.C P).2.1.A9 kept Y L (by omega) hl;obtain⟨d3,d4⟩:=K1 fresh (A.C P).2.1.A9 kept ((A.C P).2.1.aq (A.C P).2.2).2;split
   ·exact⟨I,O.aa (by omega)⟩
   ·obtain⟨E,W⟩:=A2v (A:={ (A.C P).2.1 with A9:=(PD.ah fresh (A.C P).2.1.A9 kept ((A.C P).2.1.aq (A.C P).2.2).2).2.1}) I O (PD.ah fresh (A.C P).2.1.A9 kept ((A.C P).2.1.aq (A.C P).2.2).2).2.2.1 (by omega) (by omega);split
    ·exact⟨E,W⟩
    ·exact A1X E W
def Us(h:Br P k)(J:Jn):Br (J.au P).2.2 (k+1):=h.bJ (MF P J).1
def A2D(h:Br P k)(x:ByteArray)(l:Bs):Br (P.an x l).2 k:=by
 cases hx:lookup P.D.A4 x with
 | none=>
  have e:(P.an x l).2=P:=by unfold PD.an Bp;rw[hx]
  rw[e];exact h
 | some g=>
  obtain⟨z,E,H,_⟩:=Is l hx;exact λf d=>h f (OM z E H f d)
def A2z(h:Br P k)(p:Pu):Br (A.ad P p).2.2.2 (k+1):=by
 have d:∀(J:Jn) {Q:PD} {k:Nat},Br Q k->Br (J.av Q p).2.2.2 k:=λJ Q k z=>by
  unfold Jn.av;split
  ·exact z
  ·exact A2D z _ _
 unfold Ar.ad;split
 ·exact h.C.aa (by omega)
 ·dsimp only
  unfold Jn.ad;split
  ·split
   ·exact Us h.C _
   ·exact d _ (Us h.C _)
  ·exact(d _ h.C).aa (by omega)
def A2y(h:Br P k):Br (A.ae P).2.2 k:=by
 have d:Br (A.C P).2.2 k:=h.C;have z:∀J:Jn,Br (J.ae (A.C P).2.2).2 k:=λJ=>by
  unfold Jn.ae;split
  ·exact d
  ·exact d.ae _
 unfold Ar.ae;split
 ·exact d
 ·split
  ·exact z _
  ·exact(z _).aJ
end
def PD.aV(P:PD)(h:Int)(d:List Int):PD:=⟨(Fm P.D P.F h d).1,(Fm P.D P.F h d).2⟩
def P7{c:FC}(h:0<=c.2/\c.2<=c.1.length)(t:Int):∃j:Nat,c.2<=j/\j<=c.1.length/\Fo c t=(c.1.take j,(j:Int)):=by
 have hp:=JJ t (c.1.length-c.2.toNat);refine⟨c.2.toNat+Fi t (c.1.length-c.2.toNat),by omega,by omega,?_⟩;unfold Fo;dsimp only
 rw[BU,MV (by omega)]
def A1y{c:FC}(h:0<=c.2/\c.2<=c.1.length)(t t':Int):Fo (Fo c t) t'=Fo c t:=by
 obtain⟨j,h1,h2,z⟩:=P7 h t;rw[z];unfold Fo;have d:(c.1.take j).length=j:=by rw[BU];omega
 have E:Fi t' ((c.1.take j).length-((j:Int)).toNat)=0:=by
  have:=JJ t' ((c.1.take j).length-((j:Int)).toNat);rw[d]at this ⊢;simp at this ⊢;omega
 dsimp only
 rw[E,PH,Et];have:(c.1.take j).take j=c.1.take j:=by rw[Kd];simp
 rw[this,d]
section
variable {bd:Int×Int} {P P':PD} {V V':View} {ix:Ix} {sg cl:List (Int×List Pu)} {lo:Option (Int×List Pu)} {puts:List Pu} {Ac:Nat} {o:Int}
def U0(s:List AL)(H:List Int)(names:List ByteArray)(F:Nat->FC)(hr:∀e∈s,0<=(F e.2).2/\(F e.2).2<=(F e.2).1.length):∀k,∀e∈s,(DO s H names F k e.2=F e.2/\∀j,j<k->∀nm,names[j]?=some nm->lookup s nm≠some e.2)\/∃t,DO s H names F k e.2=Fo (F e.2) t:=by
 intro k
 induction k with
 | zero=>intro e _;exact .inl ⟨rfl,λj X=>by omega⟩
 | succ k ih=>
  intro e Y;have I:=ih e Y;simp only[DO];cases hn:names[k]? with
  | none=>
   dsimp only
   rcases I with⟨z,O⟩|z
   ·refine .inl ⟨z,λj X nm d=>?_⟩;by_cases E:j=k
    ·subst E;rw[hn]at d;cases d
    ·exact O j (by omega) nm d
   ·exact .inr z
  | some nm=>
   dsimp only
   cases hl:lookup s nm with
   | none=>
    dsimp only
    rcases I with⟨z,O⟩|z
    ·refine .inl ⟨z,λj X L d=>?_⟩;by_cases E:j=k
     ·subst E;rw[hn]at d;cases d;rw[hl];simp
     ·exact O j (by omega) L d
    ·exact .inr z
   | some f=>
    dsimp only
    by_cases W:e.2=f
    ·subst W;refine .inr ?_;simp only[upd,Cg];rcases I with⟨z,_⟩|⟨t,z⟩
     ·exact⟨_,by rw[z]⟩
     ·exact⟨t,by rw[z,A1y (hr e Y)]⟩
    ·simp only[upd,W,C4];rcases I with⟨z,O⟩|z
     ·refine .inl ⟨z,λj X L d=>?_⟩;by_cases E:j=k
      ·subst E;rw[hn]at d;cases d;rw[hl];simp;exact λh=>W h.symm
      ·exact O j (by omega) L d
     ·exact .inr z
def A1s(s:List AL)(d:List Int)(F:Nat->FC)(L:∀e∈s,0<=(F e.2).2/\(F e.2).2<=(F e.2).1.length):HU (vw F s) (vw (DO s d (dList s) F s.length) s):=by
 intro m;unfold vw;cases hx:lookup s (A8 m) with
 | none=>exact .inl ⟨rfl,rfl⟩
 | some f=>
  have E:=E6 hx;have hlen:(dList s).length=s.length:=Mt s s.length (As _);have h:A8 m∈dList s:=(L9 s).mem_iff.2 (Ct.2 ⟨_,E,rfl⟩);obtain⟨k,X,z⟩:=DU h;rcases U0 s d (dList s) F L s.length _ E with⟨_,W⟩|⟨t,I⟩
  ·exact absurd hx (W k (by omega) (A8 m) (by rw[E2 X,z]))
  ·obtain⟨j,O,Y,H⟩:=P7 (L _ E) t;refine .inr ⟨F f,j,rfl,O,Y,?_⟩;dsimp only at I H;simp[I,H]
def U4(D:DS)(d:Int):FV D d∈D.AO::D.Av:=by
 unfold FV;have h:=JJ d D.Av.length;cases hx:Fi d D.Av.length with
 | zero=>exact BF ..
 | succ k=>
  rw[hx]at h;refine Bx _ ?_;dsimp only
  rw[HP,E2 (by omega)];exact BV _
def CW.aY(h:CW bd V ix sg cl lo)(H:∀nm c,V nm=some c->C2 c)(hl:(Aw cl).length<=1099511627776):CW bd V ix sg (cl++lo.toList) none:=by
 cases lo with
 | none=>simpa using h
 | some y=>
  obtain⟨n,l⟩:=y;obtain⟨W,E,c,z,O⟩:=h.A9 n l rfl;refine⟨h.DC,h.Ii,h.segs,h.Cw,λx d=>?_,h.Am.bU ?_,λn' l' e=>(by cases e),by simpa using h.EJ,λk I X L=>by simpa using h.Co k I X L,h.Ed,h.DX⟩
  ·rcases AU.1 d with d|d
   ·exact h.CT x d
   ·simp at d;subst d;exact⟨W,E,c,z,H _ _ z⟩
  ·unfold J2;rw[z];dsimp only
   rw[Nb];exact O.aZ (by constructor<;>omega) E
def DI.aV(h:DI bd P puts Ac o)(z:Int)(d:List Int)(hpl:puts.length<=1099511627776):
 DI bd (P.aV z d) puts Ac o/\∃n,Ac<=n/\n<=puts.length/\∀I q,o<=I->C9 I (puts.take n) q->DI bd (P.aV z d) q Ac I/\Reads bd (P.aV z d) q I:=by
 have W:=U4 P.D z;generalize Y:FV P.D z=s at W;have hr:∀e∈s,0<=(P.F e.2).2/\(P.F e.2).2<=(P.F e.2).1.length:=λe he=>by
  obtain⟨ix,sg,cl,lo,nb,hL,_⟩:=h.DM s W;have hv:vw P.F s e.1.data.toList=some (P.F e.2):=by
   unfold vw;rw[G8];cases hk:lookup s e.1 with
   | none=>exact absurd rfl (J0.1 hk e he)
   | some g=>
    obtain⟨i,hi,e1⟩:=DU (E6 hk);obtain⟨j,hj,e2⟩:=DU he;have:i=j:=JN (h.Cl s W) (by simpa using hi) (by simpa using hj) (by simp[e1,e2]);subst this;rw[e1]at e2;rw[<-e2];rfl
  exact hL.DX _ _ hv
 have aE:=A1s s d P.F hr;have aF:(P.aV z d).fl=vw (DO s d (dList s) P.F s.length) s:=by
  funext m
  unfold PD.aV PD.fl Fm vw;dsimp only
  rw[Y]
 obtain⟨ix,sg,cl,lo,n,hL,hd,n1,n2,n3⟩:=(h.DM s W).Cb aE;rw[<-aF]at hL hd;have n4:=n3.2.2;rw[BU,AY,AY]at n4;have aB:(Aw cl).length<=1099511627776:=by omega
 have hC:=hL.aY hd aB;have H:Aw (cl++lo.toList)=Aw cl++EA lo:=by cases lo<;>simp[Aw,EA]
 have hq:C9 o (Aw sg++Aw (cl++lo.toList)) (puts.take n):=by rw[H,<-Cc];exact n3
 have hH:Holds bd (P.aV z d).fl puts Ac o:=⟨ix,sg,_,none,n,hC,n2,hq,λn' l e=>(by cases e),λ_=>n1⟩;have L:Bu (P.aV z d)=[(P.aV z d).D.A4]:=by unfold Bu PD.aV Fm;rfl
 have O:(P.aV z d).D.A4=s:=by unfold PD.aV Fm;dsimp only;exact Y
 have mk:∀I q,Holds bd (P.aV z d).fl q Ac I->DI bd (P.aV z d) q Ac I:=λI q hq=>by
  refine⟨λx E=>?_,λx E=>?_,λx E=>?_,by rw[L];simp⟩
  ·rw[L]at E;simp at E;subst E;exact hq
  ·rw[L]at E;simp at E;subst E;rw[O];exact h.Au s W
  ·rw[L]at E;simp at E;subst E;rw[O];exact h.Cl s W
 refine⟨mk o puts hH,n,n1,n2,λI q ho X=>?_⟩;have aD:=(hq.bc ho).Ap X;have aA:Ac<=q.length:=by
  have:=X.2.2;rw[BU]at this;omega
 exact⟨mk I q (Holds.bC hC aD aA),Whole.bw ⟨ix,sg,_,none,hC,by rw[H,AY];omega,by simpa[EA] using aD⟩⟩
end
end
end Go.Proofs.YtodcnkbblippnaaGreatDoor
