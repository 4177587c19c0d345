/- Part 36 of a proof: walks of the program. -/
import Derived.Test.YtodcnkbblippnaaGreatDoorPart35
namespace Go.Proofs.YtodcnkbblippnaaGreatDoor
set_option maxRecDepth 100000
set_option maxHeartbeats 32000000
set_option linter.defProp false
open Go.Proofs.Tryz
section
open Go.RowKit
attribute [local go_sem ↓] CJ
def UI(sd:gh (Int×gh Pu))(od:Int)(l:gh Pu)(r:gh (gh Pu)):BJ sd od (l::r)=if l.any (λp=>decide (od<=p.2.1))=false then BJ sd od r else
 match sd.find? λs=>decide (s.2=l) with
 | none=>((BJ sd od r).1,l::(BJ sd od r).2)
 | some s=>(s.1::(BJ sd od r).1,(BJ sd od r).2):=rfl
def UH(sd:gh (Int×gh Pu))(od:Int):∀ws:gh (gh Pu),(BJ sd od ws).1.length+(BJ sd od ws).2.length<=ws.length/\(∀n∈(BJ sd od ws).1,∃s∈sd,s.1=n)/\(∀l∈(BJ sd od ws).2,l∈ws)/\Dk (BJ sd od ws).2<=Dk ws
 | []=>⟨Ao _,(λn h=>absurd h List.not_mem_nil),(λl z=>z),Ao _⟩
 | l::r=>by
  have⟨h1,h2,h3,h4⟩:=UH sd od r;rw[UI,Oq];split
  ·exact⟨by simp;omega,h2,λx d=>Bp _ (h3 x d),by omega⟩
  ·split
   ·refine⟨by simp;omega,h2,λx d=>?_,by rw[Oq];omega⟩;rcases BB.1 d with rfl|d
    ·exact Bt
    ·exact Bp _ (h3 x d)
   ·rename_i s E;refine⟨by simp;omega,λn h=>?_,λx d=>Bp _ (h3 x d),by dsimp only;omega⟩;rcases BB.1 h with rfl|h
    ·exact⟨s,A4Z E,rfl⟩
    ·exact h2 n h
def OF{P:PD}:∀(E:gh Int) (l:gh (Int×gh Pu)),P.sd E=some l->∀x∈l,x.1∈E
 | [],l,h=>by cases h;exact λx z=>by cases z
 | n::r,l,h=>by
  unfold PD.sd at h;cases z:P.BN n with
  | none=>rw[z]at h;cases h
  | some q=>
   rw[z]at h;dsimp only at h;cases hy:P.sd r with
   | none=>rw[hy]at h;cases h
   | some y=>
    rw[hy]at h;cases h;intro x d;rcases BB.1 d with rfl|d
    ·exact Bt
    ·exact Bp _ (OF r y hy x d)
section
variable{N ab b a c m B:Nat}{A:Ar}{P:PD}{FT:Nat->Prop}
structure HW (w5 w:ga) (B0:Nat) (vk vf:gd) (kk:gh Int) (ff:gh (gh Pu)):Prop where
 Al:A3 (λ_=>False) w5 w
 HG:DF w vk kk
 Kj:∀g,vk.ownBlock=some g->w5.heap.size<=g
 AR:∃fvs:gh gd,fvs.length=ff.length/\w.ownsRow 0 97 1 vf ff.length fvs/\(∀g,vf.ownBlock=some g->w5.heap.size<=g)/\(∀k (h1:k<fvs.length) (h2:k<ff.length),AX w5 (fvs[k]'h1) (ff[k]'h2))/\∀x∈fvs,∀g,x.ownBlock=some g->B0<=g
def HW.aO{W w w':ga}{E:Nat}{I H:gd}{L:gh Int}{O:gh (gh Pu)}(h:HW W w E I H L O)(z:A3 Ab w w'):HW W w' E I H L O:=by
 have⟨fvs,f1,f2,f3,f4,f5⟩:=h.AR;exact⟨h.Al.tr z,Ax h.HG λg d=>z.An g (AF h.HG d) (λh=>h),h.Kj,fvs,f1,Ax f2 λg d=>z.An g (AF f2 d) (λh=>h),f3,f4,f5⟩
def HW.fQ{w5 w w':ga}{aA:Nat}{L E W:gd}{z:gh Int}{Y:gh (gh Pu)}{n:Int}(h:HW w5 w aA L W z Y)(I:App w w' 3 1 L E (z.length+1) (DZ z++DZ [n])):HW w5 w' aA E W (z++[n]) Y:=by
 have hc:=I.Al (S:=λk=>L.oB k) λ_ h=>h;have⟨fvs,f1,f2,f3,f4,f5⟩:=h.AR;refine⟨h.Al.Av hc λx O hlt=>by have:=h.Kj x O;omega,?_,λg d=>?_,fvs,f1,Ax f2 λg d=>hc.An g (AF f2 d) λO=>IV f2 h.HG (by decide) d O,f3,f4,f5⟩
 ·have e:(z++[n]).length=z.length+1:=by simp
  unfold DF;rw[LN,e];exact I.AE
 ·rcases I.CA with H|H
  ·rw[H]at d;exact h.Kj g d
  ·rw[H]at d;cases d;exact h.Al.Aj
def HW.addF{W w w':ga}{aA:Nat}{vk I L x:gd}{kk:gh Int}{z:gh (gh Pu)}{l:gh Pu}(h:HW W w aA vk I kk z)(O:AX W x l)(aD:∀g,x.ownBlock=some g->aA<=g)(d:gh gd)(f1:d.length=z.length)(f2:w.ownsRow 0 97 1 I z.length d)(f3:∀g,I.ownBlock=some g->W.heap.size<=g)(f4:∀k (H:k<d.length) (Y:k<z.length),AX W (d[k]'H) (z[k]'Y))(f5:∀x∈d,∀g,x.ownBlock=some g->aA<=g)(hA:App w w' 97 1 I L (z.length+1) (d++[x])):HW W w' aA vk L kk (z++[l]):=by
 have hc:=hA.Al (S:=λk=>I.oB k) λ_ h=>h;refine⟨h.Al.Av hc λx O hlt=>by have:=f3 x O;omega,Ax h.HG λg E=>hc.An g (AF h.HG E) λO=>IV h.HG f2 (by decide) E O,h.Kj,d++[x],by simp[f1],?_,λg E=>?_,λk H Y=>?_,λy hy g E=>?_⟩
 ·have e:(z++[l]).length=z.length+1:=by simp
  rw[e];exact hA.AE
 ·rcases hA.CA with H|H
  ·rw[H]at E;exact f3 g E
  ·rw[H]at E;cases E;exact h.Al.Aj
 ·by_cases hk:k<z.length
  ·rw[Fg (show k<d.length by omega),Fg hk];exact f4 k (by omega) hk
  ·(have aB:k=z.length:=by simp at Y;omega);have e1:(d++[x])[k]'H=x:=by
    (have:k=d.length:=by omega);subst this;simp
   (have e2:(z++[l])[k]'Y=l:=by subst aB;simp);rw[e1,e2];exact O
 ·rcases AU.1 hy with hy|hy
  ·exact f5 y hy g E
  ·rw[Hd.1 hy]at E;exact aD g E
end
section
variable{N ab b a c m B:Nat}{A:Ar}{P:PD}{FT:Nat->Prop}
def A4f(hS:Fy N)(hN:N<=134217728)(w:ga)(h:AD w ab b A P FT)(dB:∀k,FT k->k<w.heap.size)(wa od:Int)(hw:1<=wa/\wa<=4611686018427387904)(hall:∀sd,P.sd A.ix.sd=some sd->(sd.flatMap (·.2)++(P.pd A.j.Ak).1).length<=N/\∀p∈sd.flatMap (·.2)++(P.pd A.j.Ak).1,B8 p)(aI:A.ix.sd.length<=1073741824/\A.ix.sd.length*m<=4398046511104)(cP:0<=A.A8/\A.A8+N<=9223372036854775807)(bS:AT (A.j.A8+1))(a7:∀x∈A.ix.sd,AT x)(hF:Fit P a c m)(hl:CP (a+N+2) (c+2*a+2*N+4) (m+37*N+12))(hm:A.j.Ak.length*m<=70368744177664)(hn:∀n∈A.ix.sd,CH n)(bJ:∀n∈A.j.Ak,CH n)(cX:A.j.Ak.length<=1073741824)(hL:Lets B w)(bV:∀k,FT k->B<=k):
 Ag 70 #[A5 ab,A0 wa,A0 od] w (Am (A0 (A.aP P wa od).1) λw'=>Aq w FT w' (λw' aK=>AD w' ab b (A.aP P wa od).2.1 (A.aP P wa od).2.2 aK)):=by
 have⟨i0,hi,hz0,hz1,hz2⟩:=Eg IN;obtain⟨j0,hj,eK,dL,dX⟩:=PO;obtain⟨s0,Y,dT,eT,dK⟩:=Td;have⟨xb,jb,sv,ov,lv,jo,Ft,hv,hsub⟩:=id h;have a6:CP a c m:=⟨by have:=hl.a;omega,by have:=hl.c;omega,by have:=hl.m;omega⟩;have k0:A3 Ab w (w.aC #[A0 od] 3):=(A3.I _ w).al _;have b5:(w.aC #[A0 od] 3).heap[w.heap.size]?=some (.cells #[A0 od] 3 (0,0)):=BL w _;have dE:Hid (P.sd A.ix.sd=none->A.aP P wa od=(7,A,P)):=λh=>by unfold Ar.aP;rw[h]
 have dG:Hid (∀sd,P.sd A.ix.sd=some sd->(P.pd A.j.Ak).2≠0->A.aP P wa od=((P.pd A.j.Ak).2,A,P)):=λsd h hp=>by unfold Ar.aP;rw[h];dsimp only;rw[Ae hp]
 have dI:Hid (∀sd,P.sd A.ix.sd=some sd->(P.pd A.j.Ak).2=0->A.aP P wa od=A.aF P ((BJ sd od (By wa (sd.flatMap (·.2)++(P.pd A.j.Ak).1))).1.mergeSort λx y=>decide (x<=y)) (BJ sd od (By wa (sd.flatMap (·.2)++(P.pd A.j.Ak).1))).2):=λsd h hp=>by
  unfold Ar.aP;rw[h];dsimp only;rw[Aa (by simp[hp])]
 obtain⟨R,hR⟩:∃R,A.aP P wa od=R:=⟨_,rfl⟩;rw[hR]at dE dG dI ⊢;have H:=A1 h;have aM:=A1 dB;have aD:Hid (∀E n,A3 Ab w E->R=(n,A,P)->R.1=n/\Aq w FT E (λw' aK=>AD w' ab b R.2.1 R.2.2 aK)):=λE n hc he=>by
  subst he;exact⟨rfl,hc.aY,FT,H.o.aJ hc,λk hk=>Bi (aM.o k hk) hc.Aj,λk hk=>.inl hk⟩
 have dU:=A1 (YR _ (hv.aJ k0) hF a6 hn aI.1 (hL.aO k0));have eD:Hid (∀E,A3 Ab w E->_):=λE hc=>OY E (hv.aJ hc).dk (hv.aJ hc).lt (hv.aJ hc).jn hF a6 hm bJ (hL.aO hc);have e4:Hid (∀E,A3 Ab w E->E.cell? (Ac ab 2)=some (A5 jb)):=λE hc=>(hv.aJ hc).Ah.c2
 have eM:Hid (∀sd,P.sd A.ix.sd=some sd->∀E dQ v,GB E dQ b v sd->Ag 101 #[v] E λe w'=>∃v',e=.returned v'/\AX w' v' (sd.flatMap (·.2))/\(∀g,v'.oB g->E.heap.size<=g)/\A3 Ab E w'):=λsd Y E dQ v z=>by
  have⟨q1,q2⟩:=OG hF A.ix.sd sd Y;exact To E dQ v sd z (by rw[q1];exact aI.1) q2 (by rw[q1];exact aI.2)
 have bB:Hid (∀sd,P.sd A.ix.sd=some sd->∀E v,AX E v (sd.flatMap (·.2)++(P.pd A.j.Ak).1)->_):=λsd Y E v z=>V5 hS hN E v wa _ (hall sd Y).1 z (λp hp=>((hall sd Y).2 p hp).2.1) hw
 have bL:Hid (∀sd,P.sd A.ix.sd=some sd->(P.pd A.j.Ak).2=0->∀E kv fv,A3 Ab w E->DF E kv ((BJ sd od (By wa (sd.flatMap (·.2)++(P.pd A.j.Ak).1))).1.mergeSort λx y=>decide (x<=y))->(∀g,kv.oB g->w.heap.size<=g)->Qy E fv (BJ sd od (By wa (sd.flatMap (·.2)++(P.pd A.j.Ak).1))).2 FT->
  Ag 107 #[A5 ab,kv,fv] E (Am (A0 R.1) λw'=>Aq w FT w' (λw' aK=>AD w' ab b R.2.1 R.2.2 aK))):=λsd Y hp E kv fv hc hk bN hf=>by
  have⟨z1,z2,z3⟩:=PT wa (sd.flatMap (·.2)++(P.pd A.j.Ak).1);have⟨y1,y2,y3,y4⟩:=UH sd od (By wa (sd.flatMap (·.2)++(P.pd A.j.Ak).1));have⟨n1,n2⟩:=hall sd Y;have aZ:∀n∈(BJ sd od (By wa (sd.flatMap (·.2)++(P.pd A.j.Ak).1))).1.mergeSort (λx y=>decide (x<=y)),n∈A.ix.sd:=λn hn=>by
   obtain⟨s,eG,rfl⟩:=y2 n (A40.1 hn);exact OF _ _ Y s eG
  rw[dI.o sd Y hp];have b9:((BJ sd od (By wa (sd.flatMap (·.2)++(P.pd A.j.Ak).1))).1.mergeSort (λx y=>decide (x<=y))).length=(BJ sd od (By wa (sd.flatMap (·.2)++(P.pd A.j.Ak).1))).1.length:=NQ _
  refine(Sv E (H.o.aJ hc) (λk hk=>Bi (aM.o k hk) hc.Aj) kv _ hk (λg L=>⟨λz=>by have:=bN g L;have:=aM.o g z;omega,AJ hL.1 (bN g L)⟩) fv _ hf
   (λl hl=>⟨λp hp=>n2 p ((z3 l (y3 l hl)).1 p hp),by have:=(z3 l (y3 l hl)).2;omega⟩) ⟨cP.1,by omega⟩ bS (λx z=>a7 x (aZ x z)) hF ⟨by have:=hl.a;omega,by have:=hl.c;omega,by have:=hl.m;rw[b9];omega⟩ (by rw[b9];omega) hn bJ (λx z=>hn x (aZ x z)) aI.1 cX (hL.aO hc) bV).mono ?_
  rintro e w'⟨h1,h2⟩;exact⟨h1,Aq.a7 (hc.aY) (λk hk=>hk.elim .inl λh=>.inr (bN k h)) h2⟩
 have a0:Hid (∀sd,P.sd A.ix.sd=some sd->(sd.flatMap (·.2)++(P.pd A.j.Ak).1).length<=134217728/\(By wa (sd.flatMap (·.2)++(P.pd A.j.Ak).1)).length<=134217728):=λsd Y=>by
  have h1:=(hall sd Y).1;have h2:=(PT wa (sd.flatMap (·.2)++(P.pd A.j.Ak).1)).1;omega
 have dS:Hid (∀sd,P.sd A.ix.sd=some sd->∀x∈sd,AT x.1):=λsd Y x z=>a7 _ (OF _ _ Y x z);have dN:=A1 k0;have cI:=A1 b5;clear hR h hv dB hsub hall aI cP bS a7 hF hl hm hn bJ cX hL bV a6 k0 b5 hw hS
 go_enter func70,ntmps70
 go_wp2_with (fail);refine dU.m ?_;rintro e w1 (⟨Y,rfl,hc1⟩|⟨sd,v1,Y,rfl,hv1,hc1⟩)
 ·have cS:=A1 (aD.o w1 7 (dN.o.tr hc1) (dE.o Y));clear Y hc1 dU dE dG dI aD eD eM bB bL;go_wp2;go_ret;exact⟨by rw[cS.o.1];rfl,cS.o.2⟩
 have aJ:=A1 Y;have cV:=A1 hv1;have dH:Hid (A3 Ab w w1):=dN.o.tr hc1;have cT:Hid (w1.cell? (Ac w.heap.size 0)=some (A0 od)):=hc1.ao (by simp only[World.cell?,cI.o];rfl);have aL:=A1 (eD.o w1 dH.o);have d2:=e4.o w1 dH.o;have aT:=A1 (dG.o sd aJ.o);have I:=A1 (bL.o sd aJ.o);have aA:=A1 (bB.o sd aJ.o);have O:=A1 (a0.o sd aJ.o);have aO:=A1 (eM.o sd aJ.o);clear Y hv1 hc1 dU dE dG dI eD eM bB bL a0 dS dN cI;obtain⟨ps,cB⟩:∃ps,(P.pd A.j.Ak).1=ps:=⟨_,rfl⟩;obtain⟨pe,cY⟩:∃pe,(P.pd A.j.Ak).2=pe:=⟨_,rfl⟩;rw[cB]at aL I aA O;rw[cY]at aL I aT;clear cB cY;go_wp2_with (fail);refine aL.m ?_;rintro e w2⟨v2,rfl,aU,cF,aG⟩;by_cases hp:pe=0
 case neg=>
  have hpb:(pe !=0)=true:=by simpa using hp
  have cS:=A1 (aD.o w2 pe (dH.o.tr aG) (aT.o hp));clear aU cF aG aL I aA aO aD aT hp;go_wp2;go_ret;exact⟨by rw[cS.o.1];rfl,cS.o.2⟩
 case pos=>
 subst hp;obtain⟨pl,cJ⟩:∃pl,sd.flatMap (·.2)=pl:=⟨_,rfl⟩;rw[cJ]at I aA O aO;have e6:Hid (A3 Ab w w2):=dH.o.tr aG;have bA:=A1 (cV.o.aJ aG);have bX:=A1 (aG.ao cT.o);have bU:=A1 (aO.o w2 _ v1 bA.o);obtain⟨v2a,v2c,rfl,v21,eU,-⟩:=B9 aU;unfold maxLen at eU;have cN:=A1 aU;clear cJ aU cF aG aL aD aT aO cV cT d2;go_wp2_with (fail);refine bU.m ?_;rintro e w3⟨v3,rfl,bF,cZ,bD⟩;obtain⟨cG,cO,rfl,v31,dJ,-⟩:=B9 bF;unfold maxLen at dJ;have bQ:=A1 bF;have dA:=A1 cZ;have b2:=A1 bD;have a3:=A1 (Src.bN Gy (Ax cN.o λg L=>bD.An g (AF cN.o L) (λh=>h)) (IE ps));have bP:Hid ((pl.length+ps.length)*24<=140737488355328):=by have:=O.o.1;rw[AY]at this;unfold Hid;omega
 clear bF cZ bD bU;go_wp2_with (at_builtin;refine Dj rfl (.tmp 35) (.tmp 36) 97 97 rfl 113 i0 _ 3 24 Gy hi hz0 hz1 hz2 rfl (by decide) (.slice cG pl.length cO) pl.length (Bb pl) (by rfl) bQ.o _ ps.length _ (by rfl) a3.o bP.o ?_;intro a4 cM w4 hA;have dP:=A1 hA;clear hA);have bW:=dP.o.Al (S:=λk=>(Value.slice cG pl.length cO).oB k) λ_ h=>h;have cC:AX w4 (.slice a4 (pl.length+ps.length) cM) (pl++ps):=by
  have e:(pl++ps).length=pl.length+ps.length:=by simp
  unfold AX;rw[Jk,e];exact dP.o.AE
 have aN:A3 Ab w2 w4:=b2.o.Av bW λx z dV=>by have:=dA.o x z;omega
 have eX:=A1 (aA.o w4 _ cC);have b8:=A1 (bA.o.aJ aN);have cD:=A1 (aN.ao bX.o);have eW:Hid (A3 Ab w w4):=e6.o.tr aN;clear bW cC aN aA bA bX dP a3 bP b2 dA bQ;refine eX.m ?_;rintro e w5⟨v5,vs,rfl,aQ,aW⟩;obtain⟨ws,cH⟩:∃ws,By wa (pl++ps)=ws:=⟨_,rfl⟩;rw[cH]at aQ I O;obtain⟨v5a,v5c,rfl,v51,eC,cA,-⟩:=B9 aQ.Bu;unfold maxLen at eC;have aV:=A1 aQ;have e3:=A1 cA;have cL:=A1 (b8.o.aJ aW);have b6:=A1 (aW.ao cD.o);have eQ:Hid (A3 Ab w w5):=eW.o.tr aW;have a9:Hid (ws.length<=134217728):=O.o.2;obtain⟨ob,b0⟩:∃ob,w.heap.size=ob:=⟨_,rfl⟩;rw[b0]at b6 ⊢;clear cH aQ cA aW eX b8 cD b0;go_wp2;go_loopw [10,11,41] (λvk vf iv wr=>∃(k:Nat) (kk:gh Int) (ff:gh (gh Pu)),iv=A0 k/\k<=ws.length/\kk.length+ff.length<=k/\Hid (HW w5 wr w4.heap.size vk vf kk ff/\BJ sd od ws=(kk++(BJ sd od (ws.drop k)).1,ff++(BJ sd od (ws.drop k)).2))) (λ_ _ iv _=>ws.length-(intOf iv).toNat)
 ·exact⟨0,[],[],rfl,by omega,by simp,⟨A3.I _ _,CT _ _ _ _,λg L=>by simp[Value.ownBlock]at L,[],rfl,CT _ _ _ _,λg L=>by simp[Value.ownBlock]at L,λk h1=>by simp at h1,λx z=>by cases z⟩,by simp⟩
 ·obtain⟨k,kk,ff,rfl,hk,bG,hI⟩:=hrel;have⟨i1,i2⟩:=hI.o;obtain⟨ka,kc,rfl,kc1,eL,-⟩:=B9 i1.HG;have⟨fvs,f1,f2,f3,f4,f5⟩:=i1.AR;obtain⟨fa,fc,rfl,fc1,dR,-⟩:=B9 f2;unfold maxLen at eL dR;by_cases aH:k<ws.length
  ·(have aF:k<vs.length:=by have:=aV.o.B4;omega);obtain⟨g,rfl⟩:=e3.o (by omega);have hc:=BH aV.o.Bu (g:=g) rfl (show vs[k]?=some (vs[k]'aF) from DL aF);have z:=aV.o.ls k aF aH;have bC:=aV.o.li (vs[k]'aF) (BU aF);have bM:=FB aH;obtain⟨x,bY⟩:∃x,(vs[k]'aF)=x:=⟨_,rfl⟩;obtain⟨l,cE⟩:∃l,(ws[k]'aH)=l:=⟨_,rfl⟩;rw[bY]at hc z bC;rw[cE]at z bM;rw[bM,UI]at i2;obtain⟨xa,xc,rfl,x1,x2,-⟩:=B9 z;have e1:=i1.Al.ao hc;have kA:A3 Ab wr (wr.aC #[.slice xa l.length xc] 97):=(A3.I _ wr).al _;have aR:A3 Ab w5 (wr.aC #[.slice xa l.length xc] 97):=i1.Al.tr kA;have pA:(wr.aC #[.slice xa l.length xc] 97).heap[wr.heap.size]?=some (.cells #[.slice xa l.length xc] 97 (0,0)):=BL wr _;have pc:(wr.aC #[.slice xa l.length xc] 97).cell? (Ac wr.heap.size 0)=some (.slice xa l.length xc):=Gu pA;have b3:=A1 (A3q _ _ l (Ax z λg L=>aR.An g (AF z L) (λh=>h)) ob od (aR.ao b6.o));have aY:=A1 i1;have eS:=A1 i2;have dZ:=A1 f1;have bO:=A1 f2;have eJ:=A1 f3;have dF:=A1 f4;have eN:=A1 f5;have eV:=A1 z;have dO:=A1 bC;have e7:=A1 aR;have bT:=A1 kA;have eZ:=A1 pc;(have dW:(k:Int)<(ws.length:Int):=by omega);have hk0:=C3 k;obtain⟨d,hd⟩:∃d,l.any (λp=>decide (od<=p.2.1))=d:=⟨_,rfl⟩;rw[hd]at b3 eS;clear hI i1 i2 f1 f2 f3 f4 f5 hc z bC bM bY cE kA aR pA hd;cases d with
   | false=>
    (have a2:Hid (BJ sd od ws=(kk++(BJ sd od (ws.drop (k+1))).1,ff++(BJ sd od (ws.drop (k+1))).2)):=by have:=eS.o;rwa [Ae rfl]at this);go_wp2_with (fail);refine b3.k ?_;rintro w6 aB;have eP:=A1 (aY.o.aO (bT.o.tr aB));clear aB b3 pc;go_wp2;go_roundw
    ·exact⟨k+1,kk,ff,by go_num,aH,NK bG,eP.o,a2.o⟩
    ·simp[intOf];omega
   | true=>
    have a2:=A1 eS.o;rw[Aa (by simp)]at a2;have⟨gbs,g1,g2,g3,g4⟩:=cL.o;obtain⟨va,vc,rfl,va1,eB,cQ,-⟩:=B9 g2;unfold maxLen at eB;have e2:=A1 cQ;have eI:=A1 g1;have eF:=A1 g2;have eH:=A1 g4;clear cQ g1 g2 g3 g4;go_wp2_with (fail);refine b3.k ?_;rintro w6 aB;have aP:A3 Ab w5 w6:=e7.o.tr aB;have dY:=A1 (A2e w6 _ sd (cL.o.aJ aP) wr.heap.size (.slice xa l.length xc) l (aB.ao eZ.o) (Ax eV.o λg L=>aP.An g (AF eV.o L) (λh=>h)));have b1:Hid (A3 Ab wr w6):=bT.o.tr aB;have eR:=A1 aP;have eA:=A1 (aB.ao eZ.o);clear aB b3 aP pc;go_wp2_with (fail);refine dY.m ?_;rintro e w7⟨(⟨rfl,hf⟩|⟨k2,bZ,rfl,hf⟩),W⟩
    ·rw[hf]at a2;(have eE:Hid (BJ sd od ws=(kk++(BJ sd od (ws.drop (k+1))).1,(ff++[l])++(BJ sd od (ws.drop (k+1))).2)):=by have:=a2.o;unfold Hid;rw[this];simp);have pc7:=W.ao eA.o;have k7:A3 Ab wr (w7.aC #[.slice xa l.length xc] 97):=(b1.o.tr W).al _;have aS:=A1 (aY.o.aO k7);have a1:=A1 (Ax bO.o λg L=>k7.An g (AF bO.o L) (λh=>h));have bH:=A1 (Src.bh (size:=1) (B:=w7.heap.size) underlying174 w7 #[.slice xa l.length xc] 97 (by simp) 1 1 rfl (by simp[Value.oneCell']));(have bK:Hid ((ff.length+1)*24<=140737488355328):=by have:=a9.o;unfold Hid;omega);clear hf W k7 dY;go_wp2_with (at_builtin;refine Dj rfl (.tmp 54) (.tmp 56) 174 174 rfl 97 s0 _ 1 24 underlying174 Y dT eT dK rfl (by decide) (.slice fa ff.length fc) ff.length fvs (by rfl) a1.o _ 1 _ (by rfl) bH.o bK.o ?_;intro a8 dD w8 hA;have a5:=A1 hA;clear hA);have bE:=A1 (aS.o.addF eV.o dO.o fvs dZ.o a1.o eJ.o dF.o eN.o a5.o);go_roundw
     ·exact⟨k+1,kk,ff++[l],by go_num,aH,by rw[AY];exact QC bG,bE.o,eE.o⟩
     ·simp[intOf];omega
    ·rw[hf]at a2;obtain⟨gv,rfl⟩:=e2.o (by omega);(have aX:k2<gbs.length:=by have:=eI.o;omega);have aE:A3 Ab w5 w7:=eR.o.tr W;have bI:=(eH.o k2 aX bZ).aJ aE;have eO:=aE.ao (BH eF.o (g:=gv) rfl (show (GM gbs)[k2]?=some (A5 (gbs[k2]'aX)) by simp[GM,aX]));obtain⟨gb,dC⟩:∃gb,(gbs[k2]'aX)=gb:=⟨_,rfl⟩;rw[dC]at bI eO;obtain⟨sg,b7⟩:∃sg,(sd[k2]'bZ)=sg:=⟨_,rfl⟩;rw[b7]at bI a2;obtain⟨n,sl⟩:=sg;obtain⟨pv,hb,-,-,-⟩:=bI;have c3:=hb.c3;dsimp only at c3;(have eE:Hid (BJ sd od ws=((kk++[n])++(BJ sd od (ws.drop (k+1))).1,ff++(BJ sd od (ws.drop (k+1))).2)):=by have:=a2.o;unfold Hid;rw[this];simp);have k7:A3 Ab wr (w7.aC #[A0 n] 3):=(b1.o.tr W).al _;have aS:=A1 (aY.o.aO k7);have bH:=A1 (Src.bh (size:=1) (B:=w7.heap.size) Ho w7 #[A0 n] 3 (by simp) 1 1 rfl (Kk [n]));(have bK:Hid ((kk.length+1)*8<=140737488355328):=by have:=a9.o;unfold Hid;omega);(have hk2i:(k2:Int)<(sd.length:Int):=by omega);have hk20:=C3 k2;clear hf W k7 dY hb dC b7 aE;go_wp2_with (at_builtin;refine Dj rfl (.tmp 58) (.tmp 66) 26 26 rfl 3 j0 _ 1 8 Ho hj eK dL dX rfl (by decide) (.slice ka kk.length kc) kk.length (DZ kk) (by rfl) aS.o.HG _ 1 _ (by rfl) bH.o bK.o ?_;intro a8 dD w8 hA;have a5:=A1 hA;clear hA);have bE:=A1 (aS.o.fQ a5.o);go_roundw
     ·exact⟨k+1,kk++[n],ff,by go_num,aH,by rw[AY,Nat.add_right_comm];exact QC bG,bE.o,eE.o⟩
     ·simp[intOf];omega
  ·(have dM:k=ws.length:=by omega);subst dM;rw[GI]at i2;(have b4:BJ sd od ws=(kk,ff):=by simpa[BJ] using i2);rw[b4]at I;(have dW:¬((ws.length:Int)<(ws.length:Int)):=by omega);have e0:=A1 (YJ wr _ kk i1.HG (by have:=a9.o;omega));have aY:=A1 i1;have dZ:=A1 f1;have bO:=A1 f2;have eJ:=A1 f3;have dF:=A1 f4;have eN:=A1 f5;clear hI i1 i2 f1 f2 f3 f4 f5 b4;go_wp2_with (fail);refine e0.k ?_;rintro w7⟨bR,W⟩;(have aE:A3 Ab w5 w7:=aY.o.Al.Av W λx z dV=>by have:=aY.o.Kj x z;omega);have cU:A3 Ab w w7:=eQ.o.tr aE
   have eY:=A1 (I.o trivial w7 _ (.slice fa ff.length fc) cU bR (λg L=>AJ eQ.o.Aj (aY.o.Kj g L))
    ⟨fvs,dZ.o,Ax bO.o λg L=>W.An g (AF bO.o L) (λz=>IV bO.o aY.o.HG (by decide) L z),
     λk h1 h2=>Ax (dF.o k h1 h2) λg L=>aE.An g (AF (dF.o k h1 h2) L) (λh=>h),
     λg L z=>by have:=eJ.o g L;have:=aM.o g z;have:=eQ.o.Aj;omega,
     λx z g L hf=>by have:=eN.o x z g L;have:=aM.o g hf;have:=eW.o.Aj;omega⟩)
   clear bR W aE cU e0 I;go_wp2_with (fail);refine eY.k ?_;rintro w8 hI;have e5:=A1 hI;clear hI eY;go_wp2;go_ret;exact⟨rfl,e5.o⟩
end
end
section
open Go.RowKit
structure SV (w:ga) (sb ab b:Nat) (mu ld wc A9:Int) (ro:Bool) (lv:Nat->gd) (L:Nat->gh Pt) (A:Ar) (P:PD) (F0:Nat->Prop):Prop where
 Ah:BA w sb mu (.pointer (some ⟨ab,0,none⟩)) ld wc A9 ro lv
 FK:Eh w lv L
 ar:AD w ab b A P F0
 lt:∀k,F0 k->k<w.heap.size
 ns:¬F0 sb
 nr:∀k,EK lv k->¬F0 k
def SF(w:ga)(sb ab b:Nat)(mu ld wc A9:Int)(ro:Bool)(L:Nat->gh Pt)(A:Ar)(P:PD)(FT:Nat->Prop):Prop:=
 ∃lv F0,SV w sb ab b mu ld wc A9 ro lv L A P F0/\∀k,F0 k\/Own sb lv k->FT k
section
variable{w w' w2:ga}{sb ab b:Nat}{mu aB ld wc A9 aA:Int}{ro aD:Bool}{lv lv':Nat->gd}{L L':Nat->gh Pt}{A A':Ar}{P P':PD}{F0 FT:Nat->Prop}
def SV.fa(h:SV w sb ab b mu ld wc A9 ro lv L A P F0){k:Nat}(d:F0 k\/Own sb lv k):k<w.heap.size:=by
 rcases d with d|rfl|d
 ·exact h.lt k d
 ·exact h.Ah.lt
 ·exact h.FK.lt d
def SV.nb(h:SV w sb ab b mu ld wc A9 ro lv L A P F0):¬EK lv sb:=h.FK.ne h.Ah (by decide)
def SV.Al(h:SV w sb ab b mu ld wc A9 ro lv L A P F0){S:Nat->Prop}(z:A3 S w w')(E:∀k,F0 k\/Own sb lv k->¬S k):SV w' sb ab b mu ld wc A9 ro lv L A P F0:=
 ⟨h.Ah.Al z (E sb (.inr (.inl rfl))),h.FK.Al z λg H=>E g (.inr (.inr H)),h.ar.aN (z.ay (λk d=>h.lt k d) λk d=>E k (.inl d)) z.Aj,
  λk d=>Bi (h.lt k d) z.Aj,h.ns,h.nr⟩
def SV.aJ(h:SV w sb ab b mu ld wc A9 ro lv L A P F0)(d:A3 Ab w w'):SV w' sb ab b mu ld wc A9 ro lv L A P F0:=h.Al d λ_ _ h=>h
def SF.aJ(h:SF w sb ab b mu ld wc A9 ro L A P FT)(E:A3 Ab w w'):SF w' sb ab b mu ld wc A9 ro L A P FT:=by
 obtain⟨lv,F0,z,d⟩:=h;exact⟨lv,F0,z.aJ E,d⟩
def SV.bK(h:SV w' sb ab b mu ld wc A9 ro lv' L' A' P' F0){S:Nat->Prop}(I:A3 S w w')(E:∀k,k<w.heap.size->S k->FT k)(H:∀k,F0 k\/Own sb lv' k->FT k\/w.heap.size<=k):
 Aq w FT w' (λw' d=>SF w' sb ab b mu ld wc A9 ro L' A' P' d):=
 ⟨I.af E,λk=>F0 k\/Own sb lv' k,⟨lv',F0,h,λ_ h=>h⟩,λ_ z=>h.fa z,H⟩
def SV.ah(h:SV w sb ab b mu ld wc A9 ro lv L A P F0)(z:Mb w w' sb aB (.pointer (some ⟨ab,0,none⟩)) ld wc aA aD lv lv' L'):
 SV w' sb ab b aB ld wc aA aD lv' L' A P F0:=
 ⟨z.Ah,z.FK,h.ar.aN (z.Al.ay (λk d=>h.lt k d) λk d E=>by
  rcases E with rfl|E
  ·exact h.ns d
  ·exact h.nr k E d) z.Al.Aj,λk d=>Bi (h.lt k d) z.Al.Aj,h.ns,λk d E=>by
  rcases z.AE k d with hy|hy
  ·exact h.nr k hy E
  ·have:=h.lt k E;omega⟩
def SV.dU(h:SV w sb ab b mu ld wc A9 ro lv L A P F0)(d:∀k,F0 k\/Own sb lv k->FT k)(H:Mb w w' sb aB (A5 ab) ld wc aA aD lv lv' L'):
 Aq w FT w' (λw' E=>SF w' sb ab b aB ld wc aA aD L' A P E):=
 (h.ah H).bK H.Al (λk _ z=>d k (.inr z)) λk z=>by
  rcases z with z|rfl|z
  ·exact .inl (d k (.inl z))
  ·exact .inl (d _ (.inr (.inl rfl)))
  ·exact(H.AE k z).imp (λh=>d k (.inr (.inr h))) id
def SV.dZ(h:SV w sb ab b mu ld wc A9 ro lv L A P F0)(d:∀k,F0 k\/Own sb lv k->FT k)(W:Aq w F0 w' (λw' E=>AD w' ab b A' P' E)):
 Aq w FT w' (λw' E=>SF w' sb ab b mu ld wc A9 ro L A' P' E):=by
 obtain⟨I,Y,h1,h2,H⟩:=W;have hb:=h.Ah.lt;refine(SV.bK (w':=w') (lv':=lv) (F0:=Y) ⟨h.Ah.Al I h.ns,h.FK.Al I h.nr,h1,h2,λO=>?_,λk z O=>?_⟩ I (λk _ z=>d k (.inl z)) λk z=>?_)
 ·rcases H _ O with hy|hy
  ·exact h.ns hy
  ·omega
 ·rcases H _ O with hy|hy
  ·exact h.nr k z hy
  ·have:=h.FK.lt z;omega
 ·rcases z with z|z
  ·exact(H k z).imp (λh=>d k (.inl h)) id
  ·exact .inl (d k (.inr z))
def SF.DK(h:SF w sb ab b mu ld wc A9 ro L A P FT)(o:Nat)(u:gd)(H:∀lv,BA w sb mu (.pointer (some ⟨ab,0,none⟩)) ld wc A9 ro lv->BA (w.setCell ⟨sb,o,none⟩ u) sb aB (.pointer (some ⟨ab,0,none⟩)) ld wc aA aD lv):
 Aq w FT (w.setCell ⟨sb,o,none⟩ u) (λw' z=>SF w' sb ab b aB ld wc aA aD L A P z):=by
 obtain⟨lv,F0,d,E⟩:=h;exact d.dU E (Mb.of (H lv d.Ah) d.FK ((A3.I (One sb) w).aq rfl o u) d.nb)
def SFto.DK(h:Aq w FT w' (λw' d=>SF w' sb ab b mu ld wc A9 ro L A P d))(o:Nat)(u:gd)(E:∀lv,BA w' sb mu (.pointer (some ⟨ab,0,none⟩)) ld wc A9 ro lv->BA (w'.setCell ⟨sb,o,none⟩ u) sb aB (.pointer (some ⟨ab,0,none⟩)) ld wc aA aD lv):
 Aq w FT (w'.setCell ⟨sb,o,none⟩ u) (λw' d=>SF w' sb ab b aB ld wc aA aD L A P d):=
 h.Av λ_ z _ _=>z.DK o u E
def Fq(L:Nat->gh Pt)(o:Int)(k:Nat)(t v:Int):Nat->gh Pt:=if o<=t then Iv L k (CE (L k) t v) else L
def PC(L:Nat->gh Pt)(o:Int)(n:Nat)(t v:Int)(k:Nat):(Fq L o n t v k).length<=(L k).length+1:=by
 unfold Fq;split
 ·unfold Iv;split
  ·rename_i e;subst e;exact(PQ _ _ _).2
  ·omega
 ·omega
def UJ(w:ga)(p:Pu)(h:SF w sb ab b mu ld wc A9 ro L A P FT)(Y:0<=p.1/\p.1<8)(E:∀k,k<8->(L k).length<1099511627000)(hl:1<=ld/\ld<=4611686018427387904)(hc:AT A9):
 Ag 60 #[A5 sb,DA p] w (Am (.tuple #[]) λw'=>Aq w FT w' (λw' O=>SF w' sb ab b mu ld wc A9 ro (Fq L (Bo A9 ld) p.1.toNat p.2.1 p.2.2) A P O)):=by
 obtain⟨k,t,v⟩:=p;obtain⟨lv,F0,d,W⟩:=h;unfold DA;dsimp only at Y ⊢;obtain⟨I,hk2⟩:=Y;obtain⟨n,rfl⟩:=KY I;have H:n<8:=by omega
 refine(A1I w sb n _ _ (by decide) A9 ld t v (L n) (lv n) H (d.FK.eG d.Ah H) (by have:=E n H;omega) rfl rfl hl hc).k ?_;rintro w' h3;refine⟨rfl,?_⟩;unfold Fq;rw[EH];rcases h3 with⟨ho,lv',hR⟩|⟨ho,z⟩
 ·rw[Ae ho];have hlen:=(PQ (L n) t v).2;have⟨b1,b2,b3,b4⟩:=d.FK.ah d.Ah H hR rfl (by have:=E n H;omega);exact d.dU W ⟨b1,b2,b3,b4⟩
 ·rw[Aa (by omega)];exact(d.aJ z).bK z (λ_ _ h=>h.elim) λk hk=>.inl (W k hk)
end
end
section
open Go.MuLone Go.RowKit
attribute [local go_sem ↓] Go.wp_at_zero Go.wp_at_succ CJ
section
variable{w w' w2:ga}{sb ab b B:Nat}{mu ld wc A9:Int}{ro:Bool}{lv:Nat->gd}{L L':Nat->gh Pt}{A A':Ar}{P P':PD}{F0 FT:Nat->Prop}{a c m N:Nat}
def A4F(w:ga)(p:Pu)(h:SF w sb ab b mu ld wc A9 ro L A P FT)(_hFT:∀k,FT k->k<w.heap.size)(hp:B8 p)(hn:A.j.AE=none->CH (A.j.A8+1)/\AT (A.j.A8+1)/\AT A.j.pd)(aF:A.j.Ak.length<=1073741824)(hL:Lets B w)(aG:∀k,FT k->B<=k)(hF:Fit P a c m)(aH:CP (a+1) (c+1) (m+33))(aI:∀k,k<8->(L k).length<1099511627000)(hl:1<=ld/\ld<=4611686018427387904)(hc:AT A9):
 Ag 66 #[A5 sb,DA p] w (Am (A0 (A.ae P p).2.1) λw'=>
  Aq w FT w' (λw' d=>SF w' sb ab b mu ld wc A9 ro (if (A.ae P p).1=true then Fq L (Bo A9 ld) p.1.toNat p.2.1 p.2.2 else L) (A.ae P p).2.2.1 (A.ae P p).2.2.2 d)):=by
 have hA:A3 Ab w (w.alloc (.cells #[A0 p.1,A0 p.2.1,A0 p.2.2] 113)):=(A3.I _ w).al _;have E:=BL w (.cells #[A0 p.1,A0 p.2.1,A0 p.2.2] 113);have aA:w.heap.size<(w.alloc (.cells #[A0 p.1,A0 p.2.1,A0 p.2.2] 113)).heap.size:=by simp
 generalize aJ:(w.alloc (.cells #[A0 p.1,A0 p.2.1,A0 p.2.2] 113))=w0 at hA E aA;have I:A3 Ab w w0.drew:=hA.ag;obtain⟨lv,F0,h1,h2⟩:=h;have hV:=h1.aJ I;have nx:¬F0 w.heap.size:=λhx=>Ge _ (h1.lt _ hx)
 have aB:Hid (Ag 105 #[A5 ab,DA p] w0.drew (Am (.tuple #[.bool (A.ae P p).1,A0 (A.ae P p).2.1]) λz=>
  (A7 z sb 2 (A5 ab)/\z.heap[w.heap.size]?=some (.cells #[A0 p.1,A0 p.2.1,A0 p.2.2] 113 (0,0)))/\
  Aq w FT z (λw' d=>SF w' sb ab b mu ld wc A9 ro L (A.ae P p).2.2.1 (A.ae P p).2.2.2 d))):=by
  refine(A4g w0.drew p hV.ar hV.lt hp hn aF (hL.aO I) (λk hk=>aG k (h2 k (.inl hk))) hF aH).k ?_;rintro z H;exact⟨rfl,⟨(hV.Ah.Al H.1 hV.ns).c2,(H.1.An _ aA nx).trans E⟩,(hV.dZ h2 H).a8 I⟩
 have O:Hid (∀z,Aq w FT z (λw' d=>SF w' sb ab b mu ld wc A9 ro L (A.ae P p).2.2.1 (A.ae P p).2.2.2 d)->Ag 60 #[A5 sb,DA p] z (Am (.tuple #[]) λw'=>
  Aq w FT w' (λw' d=>SF w' sb ab b mu ld wc A9 ro (Fq L (Bo A9 ld) p.1.toNat p.2.1 p.2.2) (A.ae P p).2.2.1 (A.ae P p).2.2.2 d))):=λz H=>by
  obtain⟨c1,F1,h3,h4,h5⟩:=H;refine(UJ z p h3 hp.1 aI hl hc).k ?_;rintro w' h6;exact⟨rfl,Aq.a7 c1 h5 h6⟩
 have c2:A7 w0 sb 2 (A5 ab):=(h1.aJ hA).Ah.c2;obtain⟨p1,Y,W⟩:=p;unfold DA at aB O ⊢;dsimp only at aB O E aJ ⊢;have q0:A7 w0 w.heap.size 0 (A0 p1):=Gu E;have q1:A7 w0 w.heap.size 1 (A0 Y):=Gu E;have q2:A7 w0 w.heap.size 2 (A0 W):=Gu E;generalize hR:A.ae P (p1,Y,W)=R at aB O ⊢;obtain⟨aD,R2,R3,R4⟩:=R;dsimp only at aB O ⊢;generalize hL2:Fq L (Bo A9 ld) p1.toNat Y W=L2 at O ⊢;have tail:∀aD:Bool,aD=true\/aD=false:=by intro x;cases x<;>simp
 go_enter func66,ntmps66
 go_wp2;refine Cc (λw'=>A7 w' sb 2 (A5 ab)/\A7 w' w.heap.size 0 (A0 p1)/\A7 w' w.heap.size 1 (A0 Y)/\A7 w' w.heap.size 2 (A0 W)) 10
  (BG [0,1,2,3,4,5,6,7,8,9] [5]) ⟨c2,q0,q1,q2⟩ ?_
 iterate 5 refine Bq ?_
 refine Bx λK hK=>?_;go_simp;refine aB.k ?_;rintro z⟨⟨y2,hh⟩,H⟩;have r0:A7 z w.heap.size 0 (A0 p1):=Gu hh;have r1:A7 z w.heap.size 1 (A0 Y):=Gu hh;have r2:A7 z w.heap.size 2 (A0 W):=Gu hh;refine hK _ _ ⟨y2,r0,r1,r2⟩ (λhS=>?_);have aE:=A1 (O.o z H);have aL:=A1 H
 iterate 4 refine Bq ?_
 refine C8 ?_;cases aD
 ·go_wp2;go_ret;exact⟨rfl,by simpa using aL.o⟩
 ·go_wp2_with (go_at_call 60;refine aE.k ?_;rintro w2 hS;have aK:=A1 hS);go_ret;exact⟨rfl,by simpa using aK.o⟩
def VR(w:ga)(d:gd)(h:BA w sb mu (A5 ab) ld wc A9 true lv):
 Ag 64 #[A5 sb,d] w (Am (A0 4) λw'=>w=w'):=by
 have c6:=h.cR
 go_enter func64,ntmps64
 go_wp2;go_ret;exact⟨rfl,rfl⟩
def A3Q(w:ga)(x:Nat)(n:Int)(h:SF w sb ab b mu ld wc A9 false L A P FT)(aB:Ag 65 #[A5 x,A5 (x+1),A5 (x+2),A5 (x+3)] w (Am (A0 n) λw'=>Aq w FT w' (λw' d=>SF w' sb ab b mu ld wc A9 false L' A' P' d))):
 Ag 64 #[A5 sb,.func (Fn.func 65) #[] #[A5 x,A5 (x+1),A5 (x+2),A5 (x+3)]] w (Am (A0 n) λw'=>Aq w FT w' (λw' d=>SF w' sb ab b mu ld wc A9 (decide (n≠0)) L' A' P' d)):=by
 obtain⟨lv,F0,h1,h2⟩:=h;have c6:=h1.Ah.cR;have W:=A1 aB;by_cases O:n=0
 ·subst O
  go_enter func64,ntmps64
  go_wp2_with (go_at_call 65;refine W.k ?_;rintro w2 E;have I:=A1 E;obtain⟨-,aA,⟨H,aD,z,-⟩,-,-⟩:=E;have y6:=z.Ah.cR;have f6:=z.Ah.fz 6);go_ret;exact⟨rfl,SFto.DK I.o 6 _ λlv h=>h.sR false⟩
 ·have hb:(n !=0)=true:=by simpa using O
  have Y:decide (n≠0)=true:=by simpa using O
  rw[Y]
  go_enter func64,ntmps64
  go_wp2_with (go_at_call 65;refine W.k ?_;rintro w2 E;have I:=A1 E;obtain⟨-,aA,⟨H,aD,z,-⟩,-,-⟩:=E;have y6:=z.Ah.cR;have f6:=z.Ah.fz 6);go_ret;exact⟨rfl,SFto.DK I.o 6 _ λlv h=>h.sR true⟩
def A3R(w:ga)(x:Nat)(n:Int)(h:SF w sb ab b mu ld wc A9 false L A P FT)(aB:Ag 67 #[A5 x] w (Am (A0 n) λw'=>Aq w FT w' (λw' d=>SF w' sb ab b mu ld wc A9 false L' A' P' d))):
 Ag 64 #[A5 sb,.func (Fn.func 67) #[] #[A5 x]] w (Am (A0 n) λw'=>Aq w FT w' (λw' d=>SF w' sb ab b mu ld wc A9 (decide (n≠0)) L' A' P' d)):=by
 obtain⟨lv,F0,h1,h2⟩:=h;have c6:=h1.Ah.cR;have W:=A1 aB;by_cases O:n=0
 ·subst O
  go_enter func64,ntmps64
  go_wp2_with (go_at_call 67;refine W.k ?_;rintro w2 E;have I:=A1 E;obtain⟨-,aA,⟨H,aD,z,-⟩,-,-⟩:=E;have y6:=z.Ah.cR;have f6:=z.Ah.fz 6);go_ret;exact⟨rfl,SFto.DK I.o 6 _ λlv h=>h.sR false⟩
 ·have hb:(n !=0)=true:=by simpa using O
  have Y:decide (n≠0)=true:=by simpa using O
  rw[Y]
  go_enter func64,ntmps64
  go_wp2_with (go_at_call 67;refine W.k ?_;rintro w2 E;have I:=A1 E;obtain⟨-,aA,⟨H,aD,z,-⟩,-,-⟩:=E;have y6:=z.Ah.cR;have f6:=z.Ah.fz 6);go_ret;exact⟨rfl,SFto.DK I.o 6 _ λlv h=>h.sR true⟩
def A3S(w:ga)(x:Nat)(n:Int)(h:SF w sb ab b mu ld wc A9 false L A P FT)(aB:Ag 69 #[A5 x] w (Am (A0 n) λw'=>Aq w FT w' (λw' d=>SF w' sb ab b mu ld wc A9 false L' A' P' d))):
 Ag 64 #[A5 sb,.func (Fn.func 69) #[] #[A5 x]] w (Am (A0 n) λw'=>Aq w FT w' (λw' d=>SF w' sb ab b mu ld wc A9 (decide (n≠0)) L' A' P' d)):=by
 obtain⟨lv,F0,h1,h2⟩:=h;have c6:=h1.Ah.cR;have W:=A1 aB;by_cases O:n=0
 ·subst O
  go_enter func64,ntmps64
  go_wp2_with (go_at_call 69;refine W.k ?_;rintro w2 E;have I:=A1 E;obtain⟨-,aA,⟨H,aD,z,-⟩,-,-⟩:=E;have y6:=z.Ah.cR;have f6:=z.Ah.fz 6);go_ret;exact⟨rfl,SFto.DK I.o 6 _ λlv h=>h.sR false⟩
 ·have hb:(n !=0)=true:=by simpa using O
  have Y:decide (n≠0)=true:=by simpa using O
  rw[Y]
  go_enter func64,ntmps64
  go_wp2_with (go_at_call 69;refine W.k ?_;rintro w2 E;have I:=A1 E;obtain⟨-,aA,⟨H,aD,z,-⟩,-,-⟩:=E;have y6:=z.Ah.cR;have f6:=z.Ah.fz 6);go_ret;exact⟨rfl,SFto.DK I.o 6 _ λlv h=>h.sR true⟩
def A3P(w:ga)(_x:Nat)(n:Int)(h:SF w sb ab b mu ld wc A9 false L A P FT)(aB:Ag 74 #[A5 ab] w (Am (A0 n) λw'=>Aq w FT w' (λw' d=>SF w' sb ab b mu ld wc A9 false L' A' P' d))):
 Ag 64 #[A5 sb,.func (Fn.func 74) #[A5 ab] #[]] w (Am (A0 n) λw'=>Aq w FT w' (λw' d=>SF w' sb ab b mu ld wc A9 (decide (n≠0)) L' A' P' d)):=by
 obtain⟨lv,F0,h1,h2⟩:=h;have c6:=h1.Ah.cR;have W:=A1 aB;by_cases O:n=0
 ·subst O
  go_enter func64,ntmps64
  go_wp2_with (go_at_call 74;refine W.k ?_;rintro w2 E;have I:=A1 E;obtain⟨-,aA,⟨H,aD,z,-⟩,-,-⟩:=E;have y6:=z.Ah.cR;have f6:=z.Ah.fz 6);go_ret;exact⟨rfl,SFto.DK I.o 6 _ λlv h=>h.sR false⟩
 ·have hb:(n !=0)=true:=by simpa using O
  have Y:decide (n≠0)=true:=by simpa using O
  rw[Y]
  go_enter func64,ntmps64
  go_wp2_with (go_at_call 74;refine W.k ?_;rintro w2 E;have I:=A1 E;obtain⟨-,aA,⟨H,aD,z,-⟩,-,-⟩:=E;have y6:=z.Ah.cR;have f6:=z.Ah.fz 6);go_ret;exact⟨rfl,SFto.DK I.o 6 _ λlv h=>h.sR true⟩
end
end
end Go.Proofs.YtodcnkbblippnaaGreatDoor
