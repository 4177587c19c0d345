/- Part 10 of a proof: walks of the program. -/
import Derived.Test.YtodcnkbblippnaaGreatDoorPart09
namespace Go.Proofs.YtodcnkbblippnaaGreatDoor
set_option maxRecDepth 100000
set_option maxHeartbeats 32000000
set_option linter.defProp false
open Go.Proofs.Tryz
section
open Go.RowKit
def PX{x y:Int}:Cr x y<0↔x<y:=by
 unfold Cr;by_cases h:x<y
 ·simp[h]
 ·rw[Af h];split<;>simp<;>omega
def Jj:∀ {l:gD Int},CG Cr l=true↔l.Pairwise (· < ·)
 | []=>by simp[CG]
 | [x]=>by simp[CG]
 | x::y::r=>by
  have O:=@Jj (y::r);simp only[CG,G3,E2,PX,O];constructor
  ·rintro⟨L,I⟩;refine Dk.2 ⟨λz d=>?_,I⟩;rcases BS.1 d with rfl|d
   ·exact L
   ·exact Int.lt_trans L ((Dk.1 I).1 z d)
  ·intro h;have E:=Dk.1 h;exact⟨E.1 y (BI ..),E.2⟩
def II{α:Type}[DecidableEq α]:∀ {l l':gD α},l.Nodup->(∀x∈l,x∈l')->l.length<=l'.length
 | [],l',_,_=>by simp
 | x::r,l',h,hs=>by
  have d:=JR.1 h;have E:=hs x (BI ..);have ih:=II (l':=l'.erase x) d.2 λy z=>(VW (λe=>d.1 (by subst e;exact z))).2 (hs y (BC _ z))
  have hl:=A4C E;have:0<l'.length:=A4B E;simp only[CA];omega
def C6:Int->gD (gD Pu)->gD (Int×gD Pu)
 | _,[]=>[]
 | lh,l::r=>(lh+1,l):: C6 (lh+1) r
def H5:∀ {l:gD (gD Pu)} {d:Int} {x:Int×gD Pu},x∈C6 d l->d<x.1/\x.1<=d+l.length/\x.2∈l
 | [],_,_,h=>by cases h
 | a::r,d,x,h=>by
  rcases BS.1 h with rfl|h
  ·simp;omega
  ·have⟨h1,h2,h3⟩:=H5 h;simp only[CA];exact⟨by omega,by omega,BC _ h3⟩
def OP:∀ {l:gD (gD Pu)} {d:Int},((C6 d l).map (·.1)).Pairwise (· < ·)
 | [],_=>by simp[C6]
 | a::r,d=>by
  simp only[C6,GW];refine Dk.2 ⟨λz E=>?_,OP⟩;obtain⟨x,h,rfl⟩:=Cl.1 E;exact(H5 h).1
def MM:∀ {l:gD (gD Pu)} {d:Int},(C6 d l).length=l.length
 | [],_=>rfl
 | a::r,d=>by simp[C6,MM]
def Lg:∀ {l:gD (gD Pu)} {d:Int},Ax (C6 d l)=l.flatten
 | [],_=>rfl
 | a::r,d=>by
  have:=@Lg r (d+1);unfold Ax at this ⊢;simp[C6,this]
def Ds(l:gD (gD Pu)):Nat:=(l.map λx=>17*x.length+4).sum
section
variable{P P':PD}{A:Ar}{sg cl:gD (Int×gD Pu)}{ol:Option (gD Pu)}{N R:Nat}
def Cm.aq:∀(h:gD (gD Pu)) (d:Int) (z:gD Int) {P:PD},Cm P (N+3*h.length) (R+Ds h)->0<=d->d+h.length<=4611686018427387904->
 (∀n,isNum n=true->d<n->P.bs (AG n)=none)->
 (PD.aq h d z P).1=0/\(PD.aq h d z P).2.1=d+h.length/\(PD.aq h d z P).2.2.1=z++(C6 d h).map (·.1)/\Cm (PD.aq h d z P).2.2.2 N R/\
  (∀x∈C6 d h,(PD.aq h d z P).2.2.2.bs (AG x.1)=some (AT (AI (AG x.1)) (Cp x.2)))/\
  ∀m,(∀x∈C6 d h,m≠AG x.1)->(PD.aq h d z P).2.2.2.bs m=P.bs m
 | [],d,z,P,hc,h0,h1,hn=>⟨rfl,by simp[PD.aq],by simp[PD.aq,C6],by simpa[PD.aq,Ds] using hc,⟨λx L=>by simp[C6]at L,λm _=>rfl⟩⟩
 | l::r,d,z,P,hc,h0,h1,hn=>by
  simp only[CA]at h1;have I:isNum (d+1)=true:=by unfold isNum;simp;omega
  have E:Ds (l::r)=(17*l.length+4)+Ds r:=by simp[Ds]
  have⟨a1,a2,a3⟩:=Cm.aI (N:=N+3*r.length) (R:=R+Ds (l::r)) (nm:=AG (d+1)) (hc.ai (by simp;omega) (Ao _)) (hn _ I (by omega)) (Yf _) (AI (AG (d+1))) (Cp l) (by rw[IF,E];omega);rw[IF]at a2;have X:=a2.ai (N':=N+3*r.length) (R':=R+Ds r) (Ao _) (by rw[E];omega);have⟨b1,b2,b3,b4,b5,b6⟩:=Cm.aq r (d+1) (z++[d+1]) X (by omega) (by omega) λn Y hlt=>by
   (have O:AG n≠AG (d+1):=λe=>by have:=Lh Y I e;omega);rw[a3,Af O];exact hn n Y (by omega)
  have e:PD.aq (l::r) d z P=PD.aq r (d+1) (z++[d+1]) (P.aK (d+1) l).2:=by
   conv=>lhs;unfold PD.aq
   rw[Af (by unfold PD.aK;simp[a1])]
  have e2:(P.aK (d+1) l).2=(P.aI (AG (d+1)) (AI (AG (d+1))) (Cp l)).2:=rfl;rw[e,e2];refine⟨b1,by rw[b2];simp only[CA];omega,by rw[b3];simp[C6],b4,λx L=>?_,λm hm=>?_⟩
  ·rcases BS.1 L with rfl|L
   ·dsimp only
    rw[b6 _ λy hy e=>?_,a3,Ai rfl];have hy:=H5 hy;(have W:isNum y.1=true:=by unfold isNum;simp;omega);have:=Lh I W e;omega
   ·exact b5 x L
  ·rw[b6 m λx L=>hm x (BC _ L),a3,Af (hm _ (BI ..))]
def Jo{nm:Bs}:nm∈A.aV P↔P.bs nm≠none/\nm∉A.Az:=by
 unfold Ar.aV;rw[GV,Hw];simp
def Cm.az(E:Cm P N R){K M:Nat}(hK:(A.aV P).length<=K)(hN:N=M+K):(A.az P).1=0/\Cm (A.az P).2 M R/\∀m,(A.az P).2.bs m=if m∈A.Az then P.bs m else none:=by
 have⟨h1,h2,h3⟩:=Cm.aO (N:=M) (A.aV P) (E.ai (by omega) (Ao _)) (Wf Hq E.cU) λm d=>(Jo.1 d).1
 refine⟨h1,h2,λm=>?_⟩;show (PD.aO (A.aV P) P).2.bs m=_;rw[h3];by_cases d:m∈A.Az
 ·rw[Af (λh=>(Jo.1 h).2 d),Ai d]
 ·rw[Af d];by_cases z:P.bs m=none
  ·rw[z];simp
  ·rw[Ai (Jo.2 ⟨z,d⟩)]
def Cm.an(hc:Cm P (N+4) R)(d:Int)(sd:gD Int)(E:P.bs Bw=none)(hR:12+8*sd.length<=R):
 (P.an d sd).1=0/\Cm (P.an d sd).2 N (R-(12+8*sd.length))/\∀m,(P.an d sd).2.bs m=if m=AJ then some (AT (AI AJ) (Cn d sd)) else P.bs m:=by
 have O:(Cn d sd).length=8+8*sd.length:=by unfold Cn;rw[B3,CP,JE]
 obtain⟨W,X,I⟩:=Cm.aI (N:=N+1) hc E (by simp[Bw]) (AI AJ) (Cn d sd) (by omega);obtain⟨L,Y,b3⟩:=Cm.fV (N:=N) (nm:=AJ) X (by rw[I,Ai rfl]) (by simp[AJ]) JA.symm;unfold PD.an;rw[Af (by simp[W])];refine⟨L,by have:=Y;rw[O]at this;exact this.ai (Ao _) (by omega),λm=>?_⟩;rw[b3];by_cases h:m=AJ
 ·simp[h]
 ·rw[Af h,Af h];by_cases z:m=Bw
  ·rw[Ai z,z,E]
  ·rw[Af z,I,Af z]
def Lay.gr(h:Lay P A sg cl ol){x:Int×gD Pu}(d:x∈sg):P.bs (AG x.1)≠none:=by rw[(h.CD x d).2];simp
def Lay.de(h:Lay P A sg cl ol){x:Int×gD Pu}(d:x∈sg):isNum x.1=true:=h.DX.sd _ (by rw[<-h.sd];exact Ed d)
def Lay.dm(h:Lay P A sg cl ol){x:Int×gD Pu}(d:x∈sg):x.1<=A.Ac:=h.EI.2 _ (h.de d) (h.gr d)
def Lay.aH(h:Lay P A sg cl ol){K:Nat}(X:gD (Int×gD Pu))(I:gD (gD Pu))(hc:Cm P (N+A.AR.length+K+3*I.length+8+A.j.An.length+sg.length+I.length) (R+Ds I+12+8*(X.length+I.length)))(hK:P.Az.length<=K)(aA:∀x∈X,x∈sg)(aO:(X.map (·.1)).Pairwise (· < ·))(hf:∀l∈I,(∀p∈l,Bm p)/\CG Cw l=true)(hn:isNum (A.j.Ac+1)=true)(a1:A.Ac+I.length<=4611686018427387904):
 (A.aH P (X.map (·.1)) I).1=0/\(A.aH P (X.map (·.1)) I).2.1=⟨⟨A.j.Ac+1,(X++C6 A.Ac I).map (·.1)⟩,⟨[],A.j.Ac,0,none⟩,A.Ac+I.length,[]⟩/\Cm (A.aH P (X.map (·.1)) I).2.2 N R/\
  Lay (A.aH P (X.map (·.1)) I).2.2 (A.aH P (X.map (·.1)) I).2.1 (X++C6 A.Ac I) [] none/\
  (∀m,(A.aH P (X.map (·.1)) I).2.2.bs m≠none->m∈AJ::(X++C6 A.Ac I).map λx=>AG x.1):=by
 have⟨s1,s2,s3,s4,s5⟩:=h.I (N:=N+K+3*I.length+8+A.j.An.length+sg.length+I.length) (R:=R+Ds I+12+8*(X.length+I.length)) (hc.ai (by omega) (Ao _));have aM:(({A with AR:=[]}:Ar).aV (A.I P).2.2).length<=K:=by
  refine AP ?_ hK;refine II (Wf Hq s3.cU) λm O=>?_;rw[Hw,<-s4];exact(Jo.1 O).1
 have⟨w1,w2,w3⟩:=Cm.az (A:={A with AR:=[]}) s3 (K:=K) (M:=N+3*I.length+8+A.j.An.length+sg.length+I.length) aM (by omega);have L:∀m,m∈({A with AR:=[]}:Ar).Az↔m=AJ\/(∃n∈A.j.An,m=Ah n)\/∃x∈sg,m=AG x.1:=λm=>by
  unfold Ar.Az;dsimp only
  rw[<-h.sd];simp[eq_comm]
 have aK:∀n,isNum n=true->A.Ac<n->(({A with AR:=[]}:Ar).az (A.I P).2.2).2.bs (AG n)=none:=λn hk hlt=>by
  rw[w3];split
  ·rw[s4];cases d:P.bs (AG n) with
   | none=>rfl
   | some c=>have:=h.EI.2 n hk (by rw[d];simp);omega
  ·rfl
 have⟨g1,g2,g3,g4,g5,g6⟩:=Cm.aq (N:=N+8+A.j.An.length+sg.length+I.length) (R:=R+12+8*(X.length+I.length)) I A.Ac (X.map (·.1)) (w2.ai (by omega) (by omega)) h.EI.1 a1 aK;generalize a3:(({A with AR:=[]}:Ar).az (A.I P).2.2).2=P1 at w3 aK g1 g2 g3 g4 g5 g6;generalize a4:(PD.aq I A.Ac (X.map (·.1)) P1).2.2.2=P2 at g4 g5 g6;obtain⟨Y,aD⟩:∃Y,X++C6 A.Ac I=Y:=⟨_,rfl⟩;have aJ:Y.map (·.1)=X.map (·.1)++(C6 A.Ac I).map (·.1):=by rw[<-aD,EG]
 have aW:Y.length=X.length+I.length:=by rw[<-aD,B3,MM]
 have aP:P2.bs Bw=none:=by
  rw[g6 _ λx _=>(Mr x.1).symm,w3,Af];rw[L];rintro (e|⟨n,_,e⟩|⟨x,_,e⟩)
  ·exact JA e.symm
  ·exact Lo n e.symm
  ·exact Mr x.1 e.symm
 have aB:∀x∈Y,isNum x.1=true:=λx d=>by
  rw[<-aD]at d;rcases AX.1 d with d|d
  ·exact h.de (aA x d)
  ·have:=H5 d;have:=h.EI.1;unfold isNum;simp;omega
 have aY:∀x∈Y,x.1<=A.Ac+I.length:=λx d=>by
  rw[<-aD]at d;rcases AX.1 d with d|d
  ·have:=h.dm (aA x d);omega
  ·have:=H5 d;omega
 have aH:(Y.map (·.1)).Pairwise (· < ·):=by
  rw[aJ];refine EF.2 ⟨aO,OP,λa ha b hb=>?_⟩;obtain⟨x,d,rfl⟩:=Cl.1 ha;obtain⟨y,hy,rfl⟩:=Cl.1 hb;have h1:=h.dm (aA x d);have h2:=H5 hy;omega
 have aF:∀x∈Y,((∀p∈x.2,Bm p)/\CG Cw x.2=true)/\P2.bs (AG x.1)=some (AT (AI (AG x.1)) (Cp x.2)):=λx d=>by
  rw[<-aD]at d;rcases AX.1 d with d|d
  ·have a0:=h.CD x (aA x d);refine⟨a0.1,?_⟩;rw[g6 _ λy hy e=>?_,w3,Ai ((L _).2 (.inr (.inr ⟨x,aA x d,rfl⟩))),s4,a0.2];have h2:=H5 hy;have h3:=h.EI.1;have:=Lh (h.de (aA x d)) (by unfold isNum;simp;omega) e;have h1:=h.dm (aA x d);omega
  ·exact⟨hf _ (H5 d).2.2,g5 x d⟩
 have aN:∃aE,(({A with AR:=[],Ac:=A.Ac+I.length}:Ar).an P2 (Y.map (·.1)))=(0,⟨⟨A.j.Ac+1,Y.map (·.1)⟩,⟨[],A.j.Ac,0,none⟩,A.Ac+I.length,[]⟩,aE)/\Cm aE (N+4+A.j.An.length+sg.length+I.length) R/\((aE.bs AJ=none/\A.j.Ac=0/\Y=[])\/aE.bs AJ=some (AT (AI AJ) (Cn (A.j.Ac+1) (Y.map (·.1)))))/\∀m,m≠AJ->aE.bs m=P2.bs m:=by
  unfold Ar.an;dsimp only
  by_cases z:A.ix.Bd=A.j.Ac+1/\A.ix.sd=Y.map (·.1)
  ·rw[Ai z];have aR:cl=[]:=by
    cases aR:cl with
    | nil=>rfl
    | cons x r=>
     (have d:x∈cl:=by rw[aR];exact BI ..);have h1:=h.F6.1 x d;have h2:=(h.CX x d).1.2;have:=z.1;omega
   have a2:ol=none:=by
    cases ol with
    | none=>rfl
    | some l=>have:=h.F6.2 (by simp);have:=z.1;omega
   subst aR a2;have hj:A.j=⟨[],A.j.Ac,0,none⟩:=by
    have h1:=h.AB;have h2:=h.GM;(have e:∀j:Jn,j.AB=none->j.An=[]->j.pd=0->j=⟨[],j.Ac,0,none⟩:=λj a b c=>by cases j;simp_all);exact e _ h1.1 (by simpa using h1.2) (by simpa[Ax] using h2)
   have hi:A.ix=⟨A.j.Ac+1,Y.map (·.1)⟩:=by
    have e:∀i:Ix,i=⟨i.Bd,i.sd⟩:=λi=>rfl;rw[e A.ix,z.1,z.2]
   refine⟨P2,?_,g4.ai (by omega) (by omega),?_,λ_ _=>rfl⟩
   ·conv=>lhs;rw[hj,hi]
   ·rw[g6 _ λx _=>(K7 x.1).symm,w3,Ai ((L _).2 (.inl rfl)),s4];rcases h.ix with⟨h1,h2⟩|h2
    ·rw[h2]at z;exact .inl ⟨h1,by have:=z.1;dsimp only at this;omega,by simpa using z.2⟩
    ·exact .inr (by rw[h2,z.1,z.2])
  ·rw[Af z];have⟨t1,t2,t3⟩:=Cm.an (N:=N+4+A.j.An.length+sg.length+I.length) (R:=R+12+8*Y.length) (g4.ai (by omega) (by rw[aW];omega)) (A.j.Ac+1) (Y.map (·.1)) aP (by simp);rw[Af (by simp[t1])];refine⟨_,rfl,t2.ai (Ao _) (by simp;omega),.inr (by rw[t3,Ai rfl]),λm O=>by rw[t3,Af O]⟩
 obtain⟨aE,t1,t2,t3,t4⟩:=aN;have aV:∀m,aE.bs m≠none->m=AJ\/(∃n∈A.j.An,m=Ah n)\/(∃x∈sg,m=AG x.1)\/∃x∈C6 A.Ac I,m=AG x.1:=λm O=>by
  by_cases e:m=AJ
  ·exact .inl e
  ·rw[t4 m e]at O;by_cases e2:∃x∈C6 A.Ac I,m=AG x.1
   ·exact .inr (.inr (.inr e2))
   ·rw[g6 m λx d e3=>e2 ⟨x,d,e3⟩,w3]at O;by_cases e3:m∈({A with AR:=[]}:Ar).Az
    ·rcases(L m).1 e3 with h|h|h
     ·exact .inl h
     ·exact .inr (.inl h)
     ·exact .inr (.inr (.inl h))
    ·rw[Af e3]at O;exact absurd rfl O
 obtain⟨aG,aI⟩:∃aG:Ar,(⟨⟨A.j.Ac+1,Y.map (·.1)⟩,⟨[],A.j.Ac,0,none⟩,A.Ac+I.length,[]⟩:Ar)=aG:=⟨_,rfl⟩;have E:∀m,m∈aG.Az↔m=AJ\/∃x∈Y,m=AG x.1:=λm=>by
  rw[<-aI];unfold Ar.Az;dsimp only;simp[eq_comm]
 have aQ:(aG.aV aE).length<=1+A.j.An.length+sg.length+I.length:=by
  have h1:(aG.aV aE).length<=(AJ::(A.j.An.map Ah++(sg.map (λx=>AG x.1)++(C6 A.Ac I).map λx=>AG x.1))).length:=
   II (Wf Hq t2.cU) λm O=>by
    rcases aV m (Jo.1 O).1 with h|⟨n,h1,h2⟩|⟨n,h1,h2⟩|⟨n,h1,h2⟩
    ·subst h;exact BI ..
    ·subst h2;exact BC _ (G1 _ (Ed h1))
    ·subst h2;exact BC _ (HJ _ (G1 _ (Cl.2 ⟨n,h1,rfl⟩)))
    ·subst h2;exact BC _ (HJ _ (HJ _ (Cl.2 ⟨n,h1,rfl⟩)))
  simp only[CA,B3,Fq,MM]at h1;omega
 have⟨v1,v2,v3⟩:=Cm.az (A:=aG) (t2.ai (N':=N+1+(1+A.j.An.length+sg.length+I.length)) (by omega) (Ao _)) aQ (M:=N+1) (by omega);have⟨d1,d2,d3⟩:=Cm.dY (N:=N) v2;obtain⟨aS,aX⟩:∃aS,(aG.az aE).2.aJ.2=aS:=⟨_,rfl⟩;have aZ:A.aH P (X.map (·.1)) I=(0,aG,aS):=by
  unfold Ar.aH;dsimp only
  rw[Af (by simp[s1]),s2,Af (by simp[w1]),a3];dsimp only
  rw[Af (by simp[g1]),g2,g3,a4,<-aJ,t1,aI];dsimp only
  rw[Af (by simp)];unfold Ar.a8;rw[Af (by simp[v1]),d1,aX]
 rw[aX]at d2 d3;have W:∀m,aS.bs m=if m∈aG.Az then aE.bs m else none:=λm=>by rw[d3,v3]
 have aL:∀x∈Y,aS.bs (AG x.1)=some (AT (AI (AG x.1)) (Cp x.2)):=λx d=>by
  rw[W,Ai ((E _).2 (.inr ⟨x,d,rfl⟩)),t4 _ (K7 _)];exact(aF x d).2
 have aU:aS.bs AJ=aE.bs AJ:=by rw[W,Ai ((E _).2 (.inl rfl))]
 rw[aZ];dsimp only
 rw[aD];refine⟨rfl,aI.symm,d2,?_,λm O=>?_⟩
 ·rw[<-aI];refine⟨⟨hn,λn O=>?_,Jj.2 aH⟩,?_,rfl,λx d=>⟨(aF x d).1,aL x d⟩,λx d=>(by cases d),λx d=>(by cases d),⟨λx d=>(by cases d),λh=>absurd rfl h⟩,trivial,rfl,⟨rfl,rfl⟩,⟨h.F4.1,Iv _,λn hk d=>?_⟩,⟨by have:=h.EI.1;dsimp only;omega,λn hk d=>?_⟩,λnm O=>(by cases O),List.Pairwise.nil,λnm O=>?_,λn hk _ d=>?_⟩
  ·obtain⟨x,d,rfl⟩:=Cl.1 O;exact aB x d
  ·rw[aU];rcases t3 with⟨q1,q2,q3⟩|q
   ·exact .inl ⟨q1,by dsimp only;rw[q2,q3];rfl⟩
   ·exact .inr q
  ·rw[W,Af]at d
   ·exact absurd rfl d
   ·rw[E];rintro (e|⟨x,_,e⟩)
    ·exact HT n e
    ·exact Gm n x.1 e
  ·rw[W]at d;split at d
   ·rename_i O;rcases(E _).1 O with e|⟨x,aT,e⟩
    ·exact absurd e (K7 n)
    ·have:=Lh hk (aB x aT) e;rw[this];exact aY x aT
   ·exact absurd rfl d
  ·rw[W]at O;split at O
   ·rename_i h2;rcases(E _).1 h2 with e|⟨x,d,e⟩
    ·subst e;rw[Tu];simp
    ·subst e;rw[OV (aB x d)];simp
   ·exact absurd rfl O
  ·rw[W,Af]at d
   ·exact absurd rfl d
   ·rw[E];rintro (e|⟨x,_,e⟩)
    ·exact HT n e
    ·exact Gm n x.1 e
 ·rw[W]at O;split at O
  ·rename_i h2;rcases(E _).1 h2 with e|⟨x,d,e⟩
   ·subst e;exact BI ..
   ·subst e;exact BC _ (Cl.2 ⟨x,d,rfl⟩)
  ·exact absurd rfl O
end
def Bz(l:gD Pu)(k t:Int):Option Int:=l.foldl (λo p=>if p.1=k/\p.2.1=t then some p.2.2 else o) none
def IP(l:gD Pu)(p:Pu)(k t:Int):Bz (l++[p]) k t=if p.1=k/\p.2.1=t then some p.2.2 else Bz l k t:=by simp[Bz]
def A0U(l:gD Pu)(k t:Int):∀o,l.foldl (λo p=>if p.1=k/\p.2.1=t then some p.2.2 else o) o=(Bz l k t).or o:=by
 induction l with
 | nil=>intro o;simp[Bz]
 | cons p r ih=>
  intro o;have h:=ih (if p.1=k/\p.2.1=t then some p.2.2 else o);have d:=ih (if p.1=k/\p.2.1=t then some p.2.2 else none);unfold Bz at h d ⊢;simp only[Qr]at h d ⊢;rw[h,d];cases r.foldl (λo p=>if p.1=k/\p.2.1=t then some p.2.2 else o) none with
  | some x=>simp
  | none=>
   simp only[Option.none_or];split<;>simp
def H6(a b:gD Pu)(k t:Int):Bz (a++b) k t=(Bz b k t).or (Bz a k t):=by
 have:=A0U b k t (Bz a k t);unfold Bz at this ⊢;rw[NF,this]
def TV(l:gD Pu)(k t:Int)(q:Pu->Bool)(E:∀p∈l,p.1=k->p.2.1=t->q p=true):Bz (l.filter q) k t=Bz l k t:=by
 induction l with
 | nil=>rfl
 | cons p r ih=>
  have d:=ih λx z=>E x (BC _ z);have e:∀x:Pu,∀l:gD Pu,Bz (x::l) k t=(Bz l k t).or (Bz [x] k t):=λx l=>H6 [x] l k t;by_cases h:q p=true
  ·rw[Jc h,e p r,e p (r.filter q),d]
  ·rw[KN h,e p r,d];have:¬(p.1=k/\p.2.1=t):=λz=>h (E p (BI ..) z.1 z.2);simp[Bz,this]
def P7{l:gD Pu}{k t:Int}:Bz l k t=none↔∀p∈l,¬(p.1=k/\p.2.1=t):=by
 induction l with
 | nil=>simp[Bz]
 | cons p r ih=>
  have e:Bz (p::r) k t=(Bz r k t).or (Bz [p] k t):=H6 [p] r k t;rw[e,Option.or_eq_none_iff,ih];simp only[BS,forall_eq_or_imp];constructor
  ·rintro⟨z,d⟩;exact⟨λh=>by simp[Bz,h]at d,z⟩
  ·rintro⟨z,d⟩;exact⟨d,by simp[Bz,z]⟩
def A0T{l:gD Pu}{k t v:Int}(h:Bz l k t=some v):(k,t,v)∈l:=by
 induction l with
 | nil=>cases h
 | cons p r ih=>
  have e:Bz (p::r) k t=(Bz r k t).or (Bz [p] k t):=H6 [p] r k t;rw[e]at h;cases hr:Bz r k t with
  | some x=>
   rw[hr]at h;simp at h;subst h;exact BC _ (ih hr)
  | none=>
   rw[hr]at h;simp only[Option.none_or]at h;by_cases d:p.1=k/\p.2.1=t
   ·simp[Bz,d]at h;obtain⟨a,b,c⟩:=p
    simp_all
   ·simp[Bz,d]at h
def IQ{len:Int}{p q:Pu}:AE len p q=true↔BH p.2.1 len<BH q.2.1 len\/BH p.2.1 len=BH q.2.1 len/\(p.1<q.1\/p.1=q.1/\p.2.1<q.2.1):=by simp[AE]
def A0Z{len:Int}{p q r:Pu}(h1:AE len p q=true)(h2:AE len q r=true):AE len p r=true:=by
 rw[IQ]at *;omega
def A02{len:Int}{p q:Pu}(h:AE len p q=true):¬(p.1=q.1/\p.2.1=q.2.1):=by
 rw[IQ]at h;rintro⟨h1,d⟩;rw[d]at h;omega
def V3{p q:Pu}:Cw p q=0↔p.1=q.1/\p.2.1=q.2.1:=by
 have h:∀x y:Int,Cr x y=0↔x=y:=λx y=>by
  unfold Cr;by_cases d:x<y
  ·simp[d];omega
  ·by_cases z:y<x
   ·simp[d,z];omega
   ·simp[d,z];omega
 unfold Cw;by_cases d:Cr p.1 q.1=0
 ·simp[h,(h _ _).1 d]
 ·simp only[Kk,d,OQ,Cq,false_iff];exact λE=>d ((h _ _).2 E.1)
def A29{p q:Pu}:Cw p q<0↔p.1<q.1\/p.1=q.1/\p.2.1<q.2.1:=by
 unfold Cw;by_cases h:p.1=q.1
 ·have:Cr p.1 q.1=0:=by rw[h];simp[Cr]
  rw[Af (by simp[this]),PX];omega
 ·have:Cr p.1 q.1≠0:=by
   unfold Cr;by_cases d:p.1<q.1
   ·simp[d]
   ·rw[Af d,Ai (by omega)];simp
  rw[Ai this,PX];omega
def A00{len:Int}{p q:Pu}(h:BH p.2.1 len=BH q.2.1 len)(E:AE len p q=false)(z:Cw p q≠0):AE len q p=true:=by
 have d:¬(AE len p q=true):=by simp[E]
 rw[IQ]at d ⊢;rw[Kk,V3]at z;omega
def A01{len:Int}{p q:Pu}(h:BH p.2.1 len≠BH q.2.1 len)(z:AE len p q=false):BH q.2.1 len<BH p.2.1 len:=by
 have d:¬(AE len p q=true):=by simp[z]
 rw[IQ]at d;omega
def XW(len:Int)(h:BZ (AE len))(l:gD Pu)(k t:Int):Bz (Em (AE len) l) k t=Bz l k t:=by
 have E:=h.cB l (k,t,0);have d:∀m:gD Pu,∀p∈m,p.1=k->p.2.1=t->eqv (AE len) (k,t,0) p=true:=λm p _ I z=>by
  subst I z;simp[eqv,AE]
 rw[<-TV l k t _ (d l),<-TV (Em (AE len) l) k t _ (d _),E]
structure WI (len:Int) (ws:gD (gD Pu)) (s:gD Pu):Prop where
 LH:ws.flatten.Pairwise (λa b=>AE len a b=true)
 Ac:∀k t,Bz ws.flatten k t=Bz s k t
 DD:∀x∈ws.flatten,x∈s
 ne:∀w∈ws,w≠[]
 Gh:∀w∈ws,∀p∈w,∀q∈w,BH p.2.1 len=BH q.2.1 len
 LJ:ws.Pairwise λw w'=>∀p∈w,∀q∈w',BH p.2.1 len<BH q.2.1 len
 Be:ws.flatten.length<=s.length
def WI.cL{len:Int}{ws:gD (gD Pu)}{s:gD Pu}(h:WI len ws s)(p:Pu)(O:∀x∈ws.flatten,BH x.2.1 len<BH p.2.1 len):WI len (ws++[[p]]) (s++[p]):=by
 have e:(ws++[[p]]).flatten=ws.flatten++[p]:=by simp
 have L:∀w∈ws,∀x∈w,x∈ws.flatten:=λw d x z=>KJ.2 ⟨w,d,z⟩;refine⟨?_,λk t=>?_,λx z=>?_,λw d=>?_,λw d=>?_,?_,?_⟩
 ·rw[e,EF];refine⟨h.LH,by simp,λa I b E=>?_⟩;simp at E;subst E;rw[IQ];exact .inl (O a I)
 ·rw[e,IP,IP,h.Ac]
 ·rw[e]at z;rcases AX.1 z with z|z
  ·exact G1 _ (h.DD x z)
  ·exact HJ _ z
 ·rcases AX.1 d with d|d
  ·exact h.ne w d
  ·simp at d;subst d;simp
 ·rcases AX.1 d with d|d
  ·exact h.Gh w d
  ·simp at d;subst d;intro a I b E;simp at I E;subst I E;rfl
 ·rw[EF];refine⟨h.LJ,by simp,λa I b E x z y W=>?_⟩;simp at E;subst E;simp at W;subst W;exact O x (L a I x z)
 ·rw[e,B3,B3];have:=h.Be;simp only[VY];omega
def WI.an{len:Int}{d:gD (gD Pu)}{w w':gD Pu}{s s':gD Pu}{q:Pu}(h:WI len (d++[w]) s)(hq:q∈w)(O:(d.flatten++w').Pairwise (λa b=>AE len a b=true))(L:∀k t,Bz (d.flatten++w') k t=Bz s' k t)(X:∀x∈w',x∈s')(Y:∀x∈s,x∈s')(aA:w'≠[])(E:∀p∈w',BH p.2.1 len=BH q.2.1 len)(hlen:w'.length+s.length<=w.length+s'.length):WI len (d++[w']) s':=by
 have e:∀v:gD Pu,(d++[v]).flatten=d.flatten++v:=λv=>by simp
 have W:=EF.1 h.LJ;refine⟨by rw[e];exact O,λk t=>by rw[e];exact L k t,λx I=>?_,λv z=>?_,λv z=>?_,?_,?_⟩
 ·rw[e]at I;rcases AX.1 I with I|I
  ·exact Y x (h.DD x (by rw[e];exact G1 _ I))
  ·exact X x I
 ·rcases AX.1 z with z|z
  ·exact h.ne v (G1 _ z)
  ·simp at z;subst z;exact aA
 ·rcases AX.1 z with z|z
  ·exact h.Gh v (G1 _ z)
  ·simp at z;subst z;intro a ha b hb;rw[E a ha,E b hb]
 ·rw[EF];refine⟨W.1,by simp,λa ha b hb x I y hy=>?_⟩;simp at hb;subst hb;rw[E y hy];exact W.2.2 a ha w (by simp) x I q hq
 ·rw[e];have:=h.Be;rw[e]at this;simp only[B3]at this ⊢;omega
def WI.ba{len:Int}{z:gD (gD Pu)}{L:gD Pu}{q E p:Pu}{s:gD Pu}(h:WI len (z++[L++[q]]) s)(hq:q.1=E.1/\q.2.1=E.2.1)(hp:AE len p E=false):
 ∃Y w1,EU len (z++[L++[q]]) false E p=Y++[w1++[p]]/\WI len (Y++[w1++[p]]) (s++[p]):=by
 have aE:AE len p q=false:=by
  have:AE len p q=AE len p E:=by unfold AE;rw[hq.1,hq.2]
  rw[this];exact hp
 have W:q∈L++[q]:=by simp
 have e:∀v:gD Pu,(z++[v]).flatten=z.flatten++v:=λv=>by simp
 have I:=h.LH;rw[e]at I;have hall:∀x∈z.flatten++(L++[q]),x=q\/AE len x q=true:=λx d=>by
  rw[<-Ci]at d I;rcases AX.1 d with d|d
  ·exact .inr ((EF.1 I).2.2 x d q (by simp))
  ·exact .inl (by simpa using d)
 unfold EU;dsimp only
 by_cases O:BH p.2.1 len=BH E.2.1 len
 ·have hw:BH p.2.1 len=BH q.2.1 len:=by rw[O,hq.2]
  have X:¬(false=true\/BH p.2.1 len≠BH E.2.1 len):=by simp[O]
  simp only[Af X];have hl:(z++[L++[q]]).getLastD []=L++[q]:=by simp
  have aF:(L++[q]).getLastD (0,0,0)=q:=by simp
  have hd:(z++[L++[q]]).dropLast=z:=by simp
  have aB:(L++[q]).dropLast=L:=by simp
  rw[hl,aF,hd,aB];by_cases hz:Cw p q=0
  ·rw[Ai ⟨by simp,hz⟩];have hk:=V3.1 hz;refine⟨z,L,rfl,h.an W ?_ (λk t=>?_) (λx d=>?_) (λx d=>G1 _ d) (by simp) (λx d=>?_) (by simp)⟩
   ·rw[<-Ci]at I ⊢;have ha:=EF.1 I;rw[EF];refine⟨ha.1,by simp,λa aG b hb=>?_⟩;simp at hb;subst hb;have:=ha.2.2 a aG q (by simp);rw[IQ]at this ⊢;rw[hk.1,hk.2];exact this
   ·rw[<-Ci,IP,IP,<-h.Ac,e,<-Ci,IP];by_cases d:p.1=k/\p.2.1=t
    ·simp[d]
    ·rw[Af d,Af d,Af (by rw[<-hk.1,<-hk.2];exact d)]
   ·rcases AX.1 d with d|d
    ·exact G1 _ (h.DD x (by rw[e];simp[d]))
    ·exact HJ _ d
   ·rcases AX.1 d with d|d
    ·exact h.Gh _ (by simp) x (by simp[d]) q W
    ·simp at d;subst d;exact hw
  ·rw[Af (by simp[hz])];have aA:=A00 hw aE hz;refine⟨z,L++[q],rfl,h.an W ?_ (λk t=>?_) (λx d=>?_) (λx d=>G1 _ d) (by simp) (λx d=>?_) (by simp;omega)⟩
   ·rw[<-Ci,EF];refine⟨I,by simp,λa ha b hb=>?_⟩;simp at hb;subst hb;rcases hall a ha with rfl|d
    ·exact aA
    ·exact A0Z d aA
   ·rw[<-Ci,IP,IP,<-h.Ac,e]
   ·rcases AX.1 d with d|d
    ·exact G1 _ (h.DD x (by rw[e];exact HJ _ d))
    ·exact HJ _ d
   ·rcases AX.1 d with d|d
    ·exact h.Gh _ (by simp) x d q W
    ·simp at d;subst d;exact hw
 ·have X:false=true\/BH p.2.1 len≠BH E.2.1 len:=.inr O;simp only[Ai X];have hl:(z++[L++[q]]++[[]]).getLastD []=([]:gD Pu):=by simp
  have hd:(z++[L++[q]]++[[]]).dropLast=z++[L++[q]]:=by simp
  rw[hl,hd,Af (by simp)];refine⟨z++[L++[q]],[],by simp,?_⟩;have aD:BH q.2.1 len<BH p.2.1 len:=by
   have:=A01 O hp;rw[hq.2];exact this
  have:=h.cL p λx d=>?_
  ·simpa using this
  ·rw[e]at d;rcases hall x d with rfl|d
   ·exact aD
   ·rw[IQ]at d;omega
def QR{len:Int}:∀(r:gD Pu) (z:gD (gD Pu)) (I:gD Pu) (q d:Pu) (s:gD Pu),WI len (z++[I++[q]]) s->q.1=d.1/\q.2.1=d.2.1->B6 (AE len) (d::r)->WI len (Ew len r false d (z++[I++[q]])) (s++r)
 | [],z,I,q,d,s,h,_,_=>by simpa[Ew] using h
 | p::r,z,I,q,d,s,h,hq,ha=>by
  have E:=Dk.1 ha;have⟨ws1,w1,h1,h2⟩:=h.ba hq (E.1 p (BI ..));unfold Ew;rw[h1];have:=QR r ws1 w1 p p (s++[p]) h2 ⟨rfl,rfl⟩ E.2;simpa using this
def WG{len:Int}(s:gD Pu)(z:B6 (AE len) s):WI len (Ew len s true (0,0,0) []) s:=by
 cases s with
 | nil=>exact⟨by simp[Ew],λ_ _=>rfl,λx h=>by simp[Ew]at h,λw d=>by simp[Ew]at d,λw d=>by simp[Ew]at d,by simp[Ew],by simp[Ew]⟩
 | cons p r=>
  unfold Ew;have e:EU len [] true (0,0,0) p=[]++[[]++[p]]:=by simp[EU]
  rw[e];have I:WI len [] []:=⟨by simp,λ_ _=>rfl,λx h=>by simp at h,λw d=>by simp at d,λw d=>by simp at d,by simp,by simp⟩;have E:=I.cL p (by simp);have:=QR r [] [] p p [p] (by simpa using E) ⟨rfl,rfl⟩ z;simpa using this
def Ik{len:Int}(E:BZ (AE len))(l:gD Pu):WI len (C3 len l) l:=by
 have h:=WG (len:=len) (Em (AE len) l) (E.eQ l);have d:∀x∈Em (AE len) l,x∈l:=λx L=>Bt.DD E (E.cB l).bI L;have z:(Em (AE len) l).length=l.length:=by
  have I:∀(l s:gD Pu),(l.foldl (λs x=>FG (AE len) x s) s).length=s.length+l.length:=by
   intro l
   induction l with
   | nil=>intro s;rfl
   | cons x r ih=>
    intro s;have O:∀m:gD Pu,(FG (AE len) x m).length=m.length+1:=by
     intro m
     induction m with
     | nil=>rfl
     | cons y m ihm=>unfold FG;split<;>simp[ihm]
    rw[Qr,ih,O,CA];omega
  have:=I l [];simpa[Em] using this
 exact⟨h.LH,λk t=>by rw[<-XW len E l k t];exact h.Ac k t,λx L=>d x (h.DD x L),h.ne,h.Gh,h.LJ,by rw[<-z];exact h.Be⟩
def WI.Fc{len:Int}{ws:gD (gD Pu)}{s:gD Pu}(h:WI len ws s){w:gD Pu}(L:w∈ws):CG Cw w=true:=by
 have z:=A4K (VR L) h.LH;have O:=h.Gh w L;have E:∀m:gD Pu,(∀x∈m,x∈w)->m.Pairwise (λa b=>AE len a b=true)->CG Cw m=true:=by
  intro m
  induction m with
  | nil=>intro _ _;rfl
  | cons a m ih=>
   intro I z;cases m with
   | nil=>rfl
   | cons b m=>
    have d:=Dk.1 z;simp only[CG,G3,E2];refine⟨?_,ih (λx W=>I x (BC _ W)) d.2⟩;have:=d.1 b (BI ..);rw[IQ]at this;have e:=O a (I a (BI ..)) b (I b (by simp));rw[A29];omega
 exact E w (λ_ h=>h) z
def HW{ws:gD (gD Pu)}(h:∀w∈ws,w≠[]):ws.length<=ws.flatten.length:=by
 induction ws with
 | nil=>simp
 | cons w r ih=>
  have h1:=ih λx d=>h x (BC _ d);have h2:=J9.2 (h w (BI ..));rw[JS,B3,CA];omega
def K8(ws:gD (gD Pu)):Ds ws=17*ws.flatten.length+4*ws.length:=by
 unfold Ds
 induction ws with
 | nil=>rfl
 | cons w r ih=>
  rw[GW,Qm,ih,JS,B3,CA];omega
section
variable{P P':PD}{A:Ar}{sg cl:gD (Int×gD Pu)}{ol:Option (gD Pu)}{N R:Nat}{wa od:Int}
def Lay.b4(h:Lay P A sg cl ol):∀p∈Ax cl++ol.getD [],Bm p:=by
 intro p d;rcases AX.1 d with d|d
 ·have⟨x,hx,d⟩:=List.mem_flatMap.1 d;exact(h.CX x hx).2 p d
 ·cases ol with
  | none=>simp at d
  | some l=>exact h.AB.2.2.2.1 p (by simpa using d)
def Lay.dc(h:Lay P A sg cl ol):∀p∈Ax sg,Bm p:=by
 intro p d;have⟨x,hx,d⟩:=List.mem_flatMap.1 d;exact(h.CD x hx).1.1 p d
def C4(o:Int)(a b:gD Pu):Prop:=(∀k t,o<=t->Bz a k t=Bz b k t)/\(∀p∈a,∃q∈b,q.1=p.1/\q.2.1=p.2.1)/\a.length<=b.length
def Lay.aS(h:Lay P A sg cl ol)(hw:BZ (AE wa)){K n:Nat}(hn:(Ax cl++ol.getD []).length<=n)(hn2:n<=1099511627776)(Y:P.Az.length<=K)(hsl:sg.length<=K)(hjl:A.j.An.length<=K)(hll:A.AR.length<=K)(hc:Cm P (N+4*K+4*n+8) (R+29*n+12+8*K))(I:isNum (A.j.Ac+1)=true)(hln:A.Ac+n<=4611686018427387904):
 (A.aS P wa).1=0/\Cm (A.aS P wa).2.2 N R/\
  ∃d,(A.aS P wa).2.1=⟨⟨A.j.Ac+1,(sg++C6 A.Ac d).map (·.1)⟩,⟨[],A.j.Ac,0,none⟩,A.Ac+d.length,[]⟩/\Lay (A.aS P wa).2.2 (A.aS P wa).2.1 (sg++C6 A.Ac d) [] none/\
   (∀m,(A.aS P wa).2.2.bs m≠none->m∈AJ::(sg++C6 A.Ac d).map λx=>AG x.1)/\d.length<=d.flatten.length/\d.flatten.length<=(Ax cl++ol.getD []).length/\(∀k t,Bz (Bj (sg++C6 A.Ac d) [] none) k t=Bz (Bj sg cl ol) k t)/\(∀p∈d.flatten,Bm p):=by
 have E:=h.pd (by rw[B3]at hn;omega);have z:=Ik hw (Ax cl++ol.getD []);generalize O:C3 wa (Ax cl++ol.getD [])=d at z;have W:=HW z.ne;have L:=z.Be;have hcost:=K8 d;have e:A.aS P wa=A.aH P (sg.map (·.1)) d:=by
  unfold Ar.aS;rw[E,Af (by simp),O,h.sd]
 rw[e];have⟨r1,r2,r3,r4,r5⟩:=h.aH (N:=N) (R:=R) (K:=K) sg d (hc.ai (by omega) (by omega)) Y (λ_ h=>h) (Jj.1 (by rw[h.sd];exact h.DX.Fc))
  (λl X=>⟨λp E=>h.b4 p (z.DD p (KJ.2 ⟨l,X,E⟩)),z.Fc X⟩) I (by omega)
 refine⟨r1,r3,d,r2,r4,r5,W,L,λk t=>?_,λp E=>h.b4 p (z.DD p E)⟩;unfold Bj;have e1:Ax (sg++C6 A.Ac d)=Ax sg++d.flatten:=by
  have:=@Lg d A.Ac;unfold Ax at this ⊢;rw[W2,this]
 rw[e1];simp only[Ax,List.flatMap_nil,Option.getD_none,Gt];rw[H6,H6,z.Ac];rfl
def H7(sd:gD (Int×gD Pu))(od:Int):gD (gD Pu)->gD (Int×gD Pu)
 | []=>[]
 | l::r=>if l.any (λp=>decide (od<=p.2.1))=false then H7 sd od r else
  match sd.find? λs=>decide (s.2=l) with
  | none=>H7 sd od r
  | some s=>s::H7 sd od r
def Lq(sd:gD (Int×gD Pu))(od:Int):∀ws,(BX sd od ws).1=(H7 sd od ws).map (·.1)
 | []=>rfl
 | l::r=>by
  have d:=Lq sd od r;unfold BX H7;split
  ·exact d
  ·cases sd.find? λs=>decide (s.2=l) with
   | none=>exact d
   | some s=>simp[d]
def Lr{sd:gD (Int×gD Pu)}{od:Int}:∀ {ws:gD (gD Pu)} {x:Int×gD Pu},x∈H7 sd od ws->x∈sd/\x.2∈ws
 | l::r,x,h=>by
  unfold H7 at h;split at h
  ·have:=Lr h;exact⟨this.1,BC _ this.2⟩
  ·cases hx:sd.find? λs=>decide (s.2=l) with
   | none=>rw[hx]at h;have:=Lr h;exact⟨this.1,BC _ this.2⟩
   | some s=>
    rw[hx]at h;rcases BS.1 h with rfl|h
    ·have d:=List.find?_some hx;simp at d;exact⟨A4w hx,by rw[d];exact BI ..⟩
    ·have:=Lr h;exact⟨this.1,BC _ this.2⟩
def Km{sd:gD (Int×gD Pu)}{od:Int}:∀ {ws:gD (gD Pu)} {l:gD Pu},l∈(BX sd od ws).2->l∈ws
 | w::r,l,h=>by
  unfold BX at h;split at h
  ·exact BC _ (Km h)
  ·cases hx:sd.find? λs=>decide (s.2=w) with
   | none=>
    rw[hx]at h;rcases BS.1 h with rfl|h
    ·exact BI ..
    ·exact BC _ (Km h)
   | some s=>rw[hx]at h;exact BC _ (Km h)
def JC{α:Type}(p:gD α->Bool)(ws:gD (gD α)):(ws.filter p).flatten.Sublist ws.flatten:=by
 induction ws with
 | nil=>exact A4J _
 | cons w r ih=>
  rw[Fu];split
  ·rw[JS,JS];exact List.Sublist.append (A4J _) ih
  ·rw[JS];exact ih.trans (List.sublist_append_right _ _)
def Ec(od:Int)(ws:gD (gD Pu)):gD (gD Pu):=ws.filter λl=>l.any λp=>decide (od<=p.2.1)
def Lp(sd:gD (Int×gD Pu))(od:Int):∀ws,((H7 sd od ws).map (·.2)++(BX sd od ws).2).Perm (Ec od ws)
 | []=>List.Perm.refl _
 | l::r=>by
  have h:=Lp sd od r;unfold BX H7 Ec;by_cases d:l.any (λp=>decide (od<=p.2.1))=false
  ·rw[Ai d,Ai d,KN (by simp[d])];exact h
  ·rw[Af d,Af d,Jc (by simpa using d)];cases hx:sd.find? λs=>decide (s.2=l) with
   | none=>
    dsimp only
    exact List.perm_middle.trans (h.cons _)
   | some s=>
    have z:=List.find?_some hx;simp at z;dsimp only
    rw[GW,z];exact h.cons _
def TW{len:Int}{ws:gD (gD Pu)}{s:gD Pu}(h:WI len ws s)(od k t:Int)(ht:od<=t):Bz (Ec od ws).flatten k t=Bz s k t:=by
 rw[<-h.Ac];clear h;unfold Ec
 induction ws with
 | nil=>rfl
 | cons w r ih=>
  by_cases d:w.any (λp=>decide (od<=p.2.1))=true
  ·(have e:(w::r).filter (λl=>l.any λp=>decide (od<=p.2.1))=w::r.filter (λl=>l.any λp=>decide (od<=p.2.1)):=by simp only[Fu,d,Cq]);rw[e,JS,JS,H6,H6,ih]
  ·(have e:(w::r).filter (λl=>l.any λp=>decide (od<=p.2.1))=r.filter (λl=>l.any λp=>decide (od<=p.2.1)):=by simp only[Fu,d];rfl);rw[e,JS,H6,ih];have:Bz w k t=none:=P7.2 λp z hx=>d (Ma.2 ⟨p,z,by simp;omega⟩);rw[this,VG]
def I3(l:gD Pu):Prop:=l.Pairwise λa b=>¬(a.1=b.1/\a.2.1=b.2.1)
def I3.Ac{l:gD Pu}(h:I3 l){k t v:Int}:Bz l k t=some v↔(k,t,v)∈l:=by
 refine⟨A0T,λd=>?_⟩
 induction l with
 | nil=>cases d
 | cons p r ih=>
  have z:=Dk.1 h;have e:Bz (p::r) k t=(Bz r k t).or (Bz [p] k t):=H6 [p] r k t;rw[e];rcases BS.1 d with rfl|d
  ·have:Bz r k t=none:=P7.2 λq I E=>z.1 q I ⟨E.1.symm,E.2.symm⟩;rw[this];simp[Bz]
  ·rw[ih z.2 d];simp
def I3.gn{l l':gD Pu}(h:I3 l)(z:l.Perm l'):I3 l':=(z.pairwise_iff (R:=λa b:Pu=>¬(a.1=b.1/\a.2.1=b.2.1)) λh d=>h ⟨d.1.symm,d.2.symm⟩).1 h
def I3.er{l l':gD Pu}(h:I3 l)(d:l.Perm l')(k t:Int):Bz l k t=Bz l' k t:=by
 have z:=h.gn d;cases hx:Bz l k t with
 | some v=>exact(z.Ac.2 (d.mem_iff.1 (h.Ac.1 hx))).symm
 | none=>
  cases hy:Bz l' k t with
  | none=>rfl
  | some v=>rw[h.Ac.2 (d.mem_iff.2 (z.Ac.1 hy))]at hx;cases hx
def WI.dr{len:Int}{ws:gD (gD Pu)}{s:gD Pu}(h:WI len ws s)(od:Int):I3 (Ec od ws).flatten:=by
 have z:(Ec od ws).flatten.Pairwise (λa b=>AE len a b=true):=h.LH.sublist (JC _ _);exact z.imp λd=>A02 d
def Nl{od:Int}{ws:gD (gD Pu)}{w:gD Pu}(h:w∈Ec od ws):w∈ws:=(GV.1 h).1
def Lay.aN(h:Lay P A sg cl ol)(hw:BZ (AE wa)){K n:Nat}(hn:(Bj sg cl ol).length<=n)(hn2:n<=1099511627776)(hK:P.Az.length<=K)(hsl:sg.length<=K)(hjl:A.j.An.length<=K)(hll:A.AR.length<=K)(hc:Cm P (N+4*K+4*n+8) (R+29*n+12+8*K))(aQ:isNum (A.j.Ac+1)=true)(hln:A.Ac+n<=4611686018427387904):
 (A.aN P wa od).1=0/\Cm (A.aN P wa od).2.2 N R/\
  ∃Y lh,(A.aN P wa od).2.1=⟨⟨A.j.Ac+1,Y.map (·.1)⟩,⟨[],A.j.Ac,0,none⟩,lh,[]⟩/\lh<=A.Ac+n/\Lay (A.aN P wa od).2.2 (A.aN P wa od).2.1 Y [] none/\
   (∀m,(A.aN P wa od).2.2.bs m≠none->m∈AJ::Y.map λx=>AG x.1)/\(Y.map (·.2)).Perm (Ec od (C3 wa (Bj sg cl ol)))/\∀k t,od<=t->Bz (Bj Y [] none) k t=Bz (Bj sg cl ol) k t:=by
 have aR:(Bj sg cl ol).length=(Ax sg).length+(Ax cl++ol.getD []).length:=by unfold Bj;rw[B3]
 have L:=h.pd (by rw[B3]at aR;omega);have E:=Ik hw (Bj sg cl ol);obtain⟨ws,aH⟩:∃ws,C3 wa (Bj sg cl ol)=ws:=⟨_,rfl⟩;rw[aH]at E;obtain⟨k0,aF⟩:∃k0,H7 sg od ws=k0:=⟨_,rfl⟩;obtain⟨I,aI⟩:∃I,(BX sg od ws).2=I:=⟨_,rfl⟩;have d:=Lp sg od ws;rw[aF,aI]at d;obtain⟨z,aJ⟩:∃z,k0.mergeSort (λx y=>decide (x.1<=y.1))=z:=⟨_,rfl⟩;have aD:z.Perm k0:=by rw[<-aJ];exact A4u _ _
 have aT:z.map (·.1)=((BX sg od ws).1).mergeSort λx y=>decide (x<=y):=by
  rw[Lq,aF,<-aJ,A4z (s:=λx y:Int=>decide (x<=y))];intro a _ b _;rfl
 have O:∀x∈z,x∈sg/\x.2∈ws:=λx hx=>Lr (by rw[aF];exact aD.mem_iff.1 hx);have aP:(Ec od ws).Nodup:=by
  have h1:(Ec od ws).Pairwise λw w'=>∀p∈w,∀q∈w',BH p.2.1 wa<BH q.2.1 wa:=E.LJ.sublist Hq;have W:∀w∈Ec od ws,w≠[]:=λw hw=>E.ne w (Nl hw);clear d;generalize Ec od ws=v at h1 W
  induction v with
  | nil=>simp
  | cons w r ih=>
   have aO:=Dk.1 h1;refine JR.2 ⟨λhm=>?_,ih aO.2 λx hx=>W x (BC _ hx)⟩;have⟨p,L⟩:=A4I w (W w (BI ..));have:=aO.1 w hm p L p L;omega
 have aN:(z.map (·.2)).Nodup:=by
  have h1:(k0.map (·.2)++I).Nodup:=d.nodup_iff.2 aP;have W:=(Hb.1 h1).1;exact(aD.map (·.2)).nodup_iff.2 W
 have aL:(sg.map (·.1)).Pairwise (· < ·):=Jj.1 (by rw[h.sd];exact h.DX.Fc);have aE:∀x∈sg,∀y∈sg,x.1=y.1->x=y:=λx hx y hy e=>by
  obtain⟨i,hi,rfl⟩:=DG hx;obtain⟨j,hj,rfl⟩:=DG hy;have L:=JQ.1 aL;rcases Qh i j with X|X|X
  ·have:=L i j (by simpa using hi) (by simpa using hj) X;simp at this;omega
  ·subst X;rfl
  ·have:=L j i (by simpa using hj) (by simpa using hi) X;simp at this;omega
 have aA:(z.map (·.1)).Pairwise (· < ·):=by
  have h1:z.Pairwise λx y=>x.1<=y.1:=by
   have:=VU (le:=λx y:Int×gD Pu=>decide (x.1<=y.1)) (λa b c h1 W=>by simp at *;omega) (λa b=>by simp;omega) k0;rw[aJ]at this;(exact this.imp λh=>by simpa using h)
  have W:z.Pairwise λx y=>x.2≠y.2:=KG.1 aN;rw[KG];have h3:=h1.and W;refine A4L (λ{a b} ha hb aM=>?_) h3;rcases A4P aM.1 with h|h
  ·exact h
  ·exact absurd (Ep Prod.snd (aE a (O a ha).1 b (O b hb).1 h)) aM.2
 have aG:∀l∈I,l∈ws:=λl hl=>Km (by rw[aI];exact hl);have aB:(Ax z++I.flatten).Perm (Ec od ws).flatten:=by
  have h1:(z.map (·.2)++I).Perm (Ec od ws):=((aD.map (·.2)).append_right _).trans d;have W:=h1.flatten;rw[W0]at W;have e:(z.map (·.2)).flatten=Ax z:=by unfold Ax;rw[NG]
  rwa [e]at W
 have hfl:I.length<=I.flatten.length:=HW λw hw=>E.ne w (aG w hw);have hcount:I.flatten.length<=n:=by
  have h1:=aB.length_eq;have W:(Ec od ws).flatten.length<=ws.flatten.length:=(JC _ ws).length_le;have h3:=E.Be;rw[B3]at h1;omega
 have hkl:z.length<=K:=by
  have:(z.map (·.1)).length<=(sg.map (·.1)).length:=II (aA.imp λh=>Wi h) λx hx=>by
   obtain⟨y,hy,rfl⟩:=Cl.1 hx;exact Ed (O y hy).1
  simp only[Fq]at this;omega
 have hcost:=K8 I;have aS:∀p∈Bj sg cl ol,Bm p:=λp L=>by
  rcases AX.1 L with L|L
  ·exact h.dc p L
  ·exact h.b4 p L
 have e:A.aN P wa od=A.aH P (z.map (·.1)) I:=by
  unfold Ar.aN;rw[h.ck];dsimp only
  have e2:sg.flatMap (·.2)++(P.pd A.j.An).1=Bj sg cl ol:=by rw[L];rfl
  rw[e2,aH,<-aT,aI,L,Af (by simp)]
 rw[e,aH];have⟨r1,r2,r3,r4,r5⟩:=h.aH (N:=N) (R:=R) (K:=K) z I (hc.ai (by omega) (by omega)) hK (λx hx=>(O x hx).1) aA
  (λl hl=>⟨λp L=>aS p (E.DD p (KJ.2 ⟨l,aG l hl,L⟩)),E.Fc (aG l hl)⟩) aQ (by omega)
 have aK:(C6 A.Ac I).map (·.2)=I:=by
  have aU:∀(l:gD (gD Pu)) (a:Int),(C6 a l).map (·.2)=l:=by
   intro l
   induction l with
   | nil=>intro a;rfl
   | cons x r ih=>intro a;simp[C6,ih]
  exact aU _ _
 refine⟨r1,r3,z++C6 A.Ac I,A.Ac+I.length,r2,by omega,r4,r5,?_,λk t ht=>?_⟩
 ·rw[EG,aK];exact((aD.map (·.2)).append_right _).trans d
 ·have e1:Bj (z++C6 A.Ac I) [] none=Ax z++I.flatten:=by
   have:=@Lg I A.Ac;unfold Bj Ax at *;simp[this]
  rw[e1,(E.dr od |>.er aB.symm k t).symm,TW E od k t ht]
end
def TS(a b:gC):less a b=true↔a.data.toList<b.data.toList:=by
 unfold less;rw[V9,KP,KP,E2]
def A1u(l:gD gC)(x:gC):∀k,k<=l.length->(∀i (z:i<l.length),EN l x k<=i->i<k->less x (l[i]'z)=true)/\∀(_:0<EN l x k) (z:EN l x k-1<l.length),less x (l[EN l x k-1]'z)=false:=by
 intro k
 induction k with
 | zero=>intro _;exact⟨λi z E I=>by omega,λh=>by simp[EN]at h⟩
 | succ k ih=>
  intro hk;have d:k<l.length:=by omega
  have⟨i1,i2⟩:=ih (by omega);by_cases h:less x (l[k]'d)=true
  ·rw[Ud l x k d h];refine⟨λi z E I=>?_,i2⟩;by_cases e:i=k
   ·subst e;exact h
   ·exact i1 i z E (by omega)
  ·rw[Uc l x k d (by simpa using h)];exact⟨λi z E I=>by omega,λ_ _=>by simpa using h⟩
def LN(l:gD gC):Prop:=l.Pairwise λa b=>a.data.toList<b.data.toList
def A1m{l:gD gC}(h:LN l){x:gC}(hx:x∉l):LN (ins l x):=by
 have⟨h1,h2⟩:=A1u l x l.length (Ao _);have aA:=Ue l x l.length;unfold ins;generalize EN l x l.length=k at h1 h2 aA;have hp:LN (l.take k++l.drop k):=by rw[E4];exact h
 have E:=EF.1 hp;refine EF.2 ⟨E.1,Dk.2 ⟨λy hy=>?_,E.2.1⟩,λa ha b Y=>?_⟩
 ·obtain⟨i,hi,rfl⟩:=DG hy;rw[Cz]at hi;rw[List.getElem_drop];exact(TS _ _).1 (h1 (k+i) (by omega) (by omega) (by omega))
 ·rcases BS.1 Y with rfl|Y
  ·obtain⟨i,hi,rfl⟩:=DG ha;rw[BK]at hi;(have z:k-1<l.length:=by omega);have O:=h2 (by omega) z;have d:(l[k-1]'z).data.toList<b.data.toList:=by
    (have W:¬b.data.toList<(l[k-1]'z).data.toList:=λX=>by rw[(TS _ _).2 X]at O;cases O);have L:=List.not_lt.1 W;by_cases I:(l[k-1]'z).data.toList<b.data.toList
    ·exact I
    ·refine absurd ?_ hx;have e:=List.le_antisymm L (List.not_lt.1 I);(have:l[k-1]'z=b:=by rw[<-FR (l[k-1]'z),<-FR b,e]);rw[<-this];exact BV _
   rw[Qp];by_cases e:i=k-1
   ·subst e;exact d
   ·have:=JQ.1 h i (k-1) (by omega) z (by omega);exact List.lt_trans this d
  ·exact E.2.2 a ha b Y
def A2k(es:gD AO)(E:(es.map (·.1)).Nodup):∀k,k<=es.length->LN (F7 es k):=by
 intro k
 induction k with
 | zero=>intro _;simp[F7,LN]
 | succ k ih=>
  intro hk;have d:k<es.length:=by omega
  rw[N6 es k d];refine A1m (ih (by omega)) λh=>?_;have:=(UL es k (by omega)).mem_iff.1 h;have⟨e,he,h2⟩:=Cl.1 this;obtain⟨i,z,rfl⟩:=DG he;rw[BK]at z;rw[Qp]at h2;have:i=k:=Jr E (by simp;omega) (by simpa using d) (by simpa using h2);omega
def Cm.up{P:PD}{N R:Nat}(h:Cm P N R):P.Az.Pairwise (· < ·):=by
 unfold PD.Az;rw[KG];exact A2k P.D.A6 h.Cg _ (Ao _)
def H4:Nat->Nat->Bs
 | 0,_=>[]
 | k+1,u=>H4 k (u/10)++[UInt8.ofNat (48+u % 10)]
def MI:∀k u,(H4 k u).length=k
 | 0,_=>rfl
 | k+1,u=>by simp[H4,MI k]
def SS:∀k,H4 k 0=List.replicate k 48
 | 0=>rfl
 | k+1=>by
  unfold H4;rw[Nat.zero_div,SS k,List.replicate_succ'];rfl
def SU:∀k u,u<10 ^ (k+1)->List.replicate (k+1-Lib.nDigits u) 48++Lib.decDigits u=H4 (k+1) u
 | 0,u,h=>by
  have d:u<10:=by simpa using h
  rw[Qs d,Lib.decDigits,PM d];simp[H4,Nat.mod_eq_of_lt d]
 | k+1,u,h=>by
  by_cases d:u<10
  ·rw[Qs d,Lib.decDigits,PM d];unfold H4;rw[Nat.div_eq_of_lt d,SS,Nat.mod_eq_of_lt d];rfl
  ·have z:=SU k (u/10) (by rw[KB]at h;omega);rw[Wg d,Lib.decDigits,PN d,<-Ci];(have e:k+1+1-(Lib.nDigits (u/10)+1)=k+1-Lib.nDigits (u/10):=by omega);rw[e,z]
   conv=>rhs;unfold H4
def TK:∀ {a b x y:Bs},a.length=b.length->a<b->a++x<b++y
 | [],b,x,y,hl,h=>by
  have:b=[]:=Hp.1 hl.symm;subst this;exact absurd h (M1 _)
 | c::a,[],x,y,hl,h=>by simp at hl
 | c::a,d::b,x,y,hl,h=>by
  rw[G2,G2,JT];rw[JT]at h;rcases h with h|⟨E,z⟩
  ·exact .inl h
  ·exact .inr ⟨E,TK (by simpa using hl) z⟩
def TJ:∀ {a x y:Bs},x<y->a++x<a++y
 | [],x,y,h=>h
 | c::a,x,y,h=>by rw[G2,G2,JT];exact .inr ⟨rfl,TJ h⟩
def OF:∀k {u v:Nat},v<10 ^ k->u<v->H4 k u<H4 k v
 | 0,u,v,hv,h=>by simp at hv;omega
 | k+1,u,v,hv,h=>by
  have d:v/10<10 ^ k:=by rw[KB]at hv;omega
  unfold H4;by_cases z:u/10<v/10
  ·exact TK (by rw[MI,MI]) (OF k d z)
  ·(have e:u/10=v/10:=by omega);rw[e];refine TJ ?_;rw[JT];refine .inl ?_;rw[UInt8.lt_iff_toNat_lt];simp;omega
def Lf{n:Int}(h0:1<=n)(h1:n<=4611686018427387904):Lib.repeatL [48] (19-(Lib.itoa n).length)++Lib.itoa n=H4 19 n.toNat:=by
 rw[MS (by omega),Wh,S6];exact SU 18 n.toNat (by (have:(10:Nat) ^ 19=10000000000000000000:=by decide);omega)
def A0g{a b:Int}(d:isNum a=true)(z:isNum b=true)(h:a<b):Ah a<Ah b:=by
 unfold isNum at d z;simp at d z;rw[Jt,Jt,Lf d.1 d.2,Lf z.1 z.2,JT];exact .inr ⟨rfl,OF 19 (by (have:(10:Nat) ^ 19=10000000000000000000:=by decide);omega) (by omega)⟩
def A0c{a b:Int}(d:isNum a=true)(z:isNum b=true)(h:a<b):AG a<AG b:=by
 unfold isNum at d z;simp at d z;rw[IK,IK,Lf d.1 d.2,Lf z.1 z.2,JT];exact .inr ⟨rfl,OF 19 (by (have:(10:Nat) ^ 19=10000000000000000000:=by decide);omega) (by omega)⟩
def A0v{f:Int->Bs}(z:∀a b,isNum a=true->isNum b=true->a<b->f a<f b){a b:Int}(E:isNum a=true)(I:isNum b=true)(h:f a<f b):a<b:=by
 rcases Int.lt_trichotomy a b with d|d|d
 ·exact d
 ·subst d;exact absurd h (M1 _)
 ·exact absurd (List.lt_trans h (z b a I E d)) (M1 _)
def OO{f:Int->Bs}(z:∀a b,isNum a=true->isNum b=true->a<b->f a<f b)(g:Bs->Option Int)(d:∀nm n,g nm=some n->isNum n=true/\f n=nm):∀ {l:gD Bs},l.Pairwise (· < ·)->(l.filterMap g).Pairwise (· < ·)
 | [],_=>by simp
 | nm::r,h=>by
  have E:=Dk.1 h;have I:=OO z g d E.2;cases hx:g nm with
  | none=>rw[List.filterMap_cons_none hx];exact I
  | some n=>
   rw[List.filterMap_cons_some hx];refine Dk.2 ⟨λm L=>?_,I⟩;have⟨nm2,h2,h3⟩:=M0.1 L;have⟨a1,a2⟩:=d nm n hx;have⟨b1,b2⟩:=d nm2 m h3;exact A0v z a1 b1 (by rw[a2,b2];exact E.1 nm2 h2)
def A0y{l:gD Bs}(d:Int)(h:l.Pairwise (· < ·)):(BU d l).Pairwise (· < ·):=by
 unfold BU;refine OO (f:=Ah) (λa b=>A0g) _ (λnm n z=>?_) h;by_cases E:(Bq nm).1=1/\d<=(Bq nm).2
 ·rw[Ai E]at z;simp at z;subst z;have:=OW E.1;exact⟨by unfold isNum;simp;exact this.1,this.2⟩
 ·rw[Af E]at z;cases z
def Yj{l:gD Bs}(h:l.Pairwise (· < ·)):(l.filterMap λnm=>if (Bq nm).1=2 then some (Bq nm).2 else none).Pairwise (· < ·):=by
 refine OO (f:=AG) (λa b=>A0c) _ (λnm n d=>?_) h;by_cases z:(Bq nm).1=2
 ·rw[Ai z]at d;simp at d;subst d;have:=OU z;exact⟨by unfold isNum;simp;exact this.1,this.2⟩
 ·rw[Af z]at d;cases d
def Oo{l:gD Int}(h:l.Pairwise (· < ·)){n:Int}(z:n∈l)(d:Int):n<=l.getLastD d:=by
 have E:l≠[]:=λe=>by subst e;cases z
 obtain⟨m,x,rfl⟩:∃m x,l=m++[x]:=⟨l.dropLast,l.getLast E,(NJ E).symm⟩;have e:(m++[x]).getLastD d=x:=by simp
 rw[e];rcases AX.1 z with z|z
 ·exact Int.le_of_lt ((EF.1 h).2.2 n z x (by simp))
 ·simp at z;omega
def RY:∀ {l l':gD Int},l.Pairwise (· < ·)->l'.Pairwise (· < ·)->(∀x,x∈l↔x∈l')->l=l'
 | [],[],_,_,_=>rfl
 | [],y::r,_,_,h=>by have:=(h y).2 (BI ..);cases this
 | x::r,[],_,_,h=>by have:=(h x).1 (BI ..);cases this
 | x::r,y::s,h1,h2,h=>by
  have E:=Dk.1 h1;have d:=Dk.1 h2;have L:x=y:=by
   rcases BS.1 ((h x).1 (BI ..)) with e|e
   ·exact e
   ·rcases BS.1 ((h y).2 (BI ..)) with O|O
    ·exact O.symm
    ·have a:=d.1 x e;have b:=E.1 y O;omega
  subst L
  congr 1
  refine RY E.2 d.2 λz=>⟨λI=>?_,λI=>?_⟩
  ·rcases BS.1 ((h z).1 (BC _ I)) with e|e
   ·subst e;have:=E.1 z I;omega
   ·exact e
  ·rcases BS.1 ((h z).2 (BC _ I)) with e|e
   ·subst e;have:=d.1 z I;omega
   ·exact e
def shut(cl:gD (Int×gD Pu))(d:Int):Option (gD Pu)->gD (Int×gD Pu)
 | none=>cl
 | some l=>cl++[(d,l)]
def Oc(cl:gD (Int×gD Pu))(d:Int)(ol:Option (gD Pu)):Ax (shut cl d ol)=Ax cl++ol.getD []:=by
 cases ol<;>simp[shut,Ax]
section
variable{P P':PD}{A:Ar}{sg cl:gD (Int×gD Pu)}{ol:Option (gD Pu)}{N R:Nat}
def Lay.bY(h:Lay P A sg cl ol):A.j.An=(shut cl A.j.Ac ol).map (·.1):=by
 have:=h.AB;cases ol with
 | none=>exact this.2
 | some l=>rw[this.2.1];simp[shut]
def Lay.ef(h:Lay P A sg cl ol)(d:(Ax cl).length<=1099511627776):Fo P 0 (shut cl A.j.Ac ol):=by
 have E:=h.AB;cases ol with
 | none=>exact h.An
 | some l=>
  obtain⟨-,h1,z,I,h4⟩:=E
  exact h.An.bZ (by
   have:=h.GM;rw[NM,<-this]
   exact P4 (t:=[]) (h.dE d) I (by simp) (by simpa using z))
def Lay.bb(h:Lay P A sg cl ol):P.bb=some A.ix:=by
 rcases h.ix with⟨d,z⟩|d
 ·rw[Pk d,z]
 ·exact A1z h.DX d
def Lay.aU(h:Lay P A sg cl ol)(hc:Cm P N R)(hl:(Ax cl).length<=1099511627776):
 ∃A',Ar.aU P=.ok (A',Bj sg cl ol)/\Lay P A' sg (shut cl A.j.Ac ol) none/\A'.ix=A.ix/\A'.j.Ac<=max A.j.Ac (A.ix.Bd-1)/\A'.Ac<=A.Ac/\A'.AR=A'.aY P:=by
 have aE:=hc.up;have aF:BU A.ix.Bd P.Az=A.j.An:=by
  refine RY (A0y _ aE) h.Hz λn=>⟨λhn=>?_,λhn=>?_⟩
  ·have⟨L,z,h3⟩:=OZ hn;exact h.HS n (by unfold isNum;simpa using z) L (Hw.1 h3)
  ·rw[h.bY]at hn;obtain⟨x,d,rfl⟩:=Cl.1 hn;have X:isNum x.1=true/\A.ix.Bd<=x.1:=by
    cases ol with
    | none=>exact⟨(h.CX x d).1.1,h.F6.1 x d⟩
    | some l=>
     rcases AX.1 d with d|d
     ·exact⟨(h.CX x d).1.1,h.F6.1 x d⟩
     ·simp at d;subst d;exact⟨h.AB.2.2.2.2,h.F6.2 (by simp)⟩
   have aG:=Hw.2 ((h.ef hl).DD d);unfold BU;refine M0.2 ⟨Ah x.1,aG,?_⟩;rw[Lk X.1];simp[X.2]
 have aH:P.Az.any (λnm=>decide ((Bq nm).1=0))=false:=by
  rw[Bool.eq_false_iff];intro d;have⟨nm,L,z⟩:=Ma.1 d;exact h.Ex nm (Hw.1 L) (by simpa using z)
 have hp:=h.pd hl;obtain⟨W,Y⟩:∃W,(P.Az.filterMap λnm=>if (Bq nm).1=2 then some (Bq nm).2 else none)=W:=⟨_,rfl⟩;have aA:=Yj aE;rw[Y]at aA;have aD:∀n,n∈W↔isNum n=true/\P.bs (AG n)≠none:=λn=>by
  rw[<-Y,M0];constructor
  ·rintro⟨nm,L,z⟩;by_cases d:(Bq nm).1=2
   ·rw[Ai d]at z;simp at z;subst z;have:=OU d;exact⟨by unfold isNum;simp;exact this.1,by rw[this.2];exact Hw.1 L⟩
   ·rw[Af d]at z;cases z
  ·rintro⟨L,z⟩;refine⟨AG n,Hw.2 z,?_⟩;rw[OV L];simp
 obtain⟨A',I⟩:∃A':Ar,(⟨A.ix,⟨A.j.An,A.j.An.getLastD (A.ix.Bd-1),((Ax cl++ol.getD []).length:Int),none⟩,W.getLastD 0,(⟨A.ix,⟨A.j.An,A.j.An.getLastD (A.ix.Bd-1),((Ax cl++ol.getD []).length:Int),none⟩,W.getLastD 0,[]⟩:Ar).aY P⟩:Ar)=A':=⟨_,rfl⟩;have aB:Ar.aU P=.ok (A',Bj sg cl ol):=by
  unfold Ar.aU;rw[h.bb];dsimp only
  rw[aH,Af (by simp),h.ck];dsimp only
  rw[aF,hp,Af (by simp),Y];have hj:P.bX A.ix.Bd=⟨A.j.An,A.j.An.getLastD (A.ix.Bd-1),((Ax cl++ol.getD []).length:Int),none⟩:=by
   unfold PD.bX;rw[aF,hp]
  rw[hj,<-I];rfl
 have O:∀x∈shut cl A.j.Ac ol,(isNum x.1=true/\x.1<=A.j.Ac)/\A.ix.Bd<=x.1/\∀p∈x.2,Bm p:=λx d=>by
  cases ol with
  | none=>exact⟨(h.CX x d).1,h.F6.1 x d,(h.CX x d).2⟩
  | some l=>
   rcases AX.1 d with d|d
   ·exact⟨(h.CX x d).1,h.F6.1 x d,(h.CX x d).2⟩
   ·simp at d;subst d;exact⟨⟨h.AB.2.2.2.2,Iv _⟩,h.F6.2 (by simp),h.AB.2.2.2.1⟩
 have E:∀n∈A.j.An,n<=A.j.An.getLastD (A.ix.Bd-1):=λn hn=>Oo h.Hz hn _;have hge:A.ix.Bd-1<=A.j.An.getLastD (A.ix.Bd-1):=by
  cases d:A.j.An with
  | nil=>simp
  | cons y r=>
   (have hy:y∈A.j.An:=by rw[d];exact BI ..);have L:=E y hy;rw[d]at L;have z:A.ix.Bd<=y:=by
    rw[h.bY]at hy;have⟨x,hx3,hx4⟩:=Cl.1 hy;rw[<-hx4];exact(O x hx3).2.1
   omega
 have aI:A.j.An.getLastD (A.ix.Bd-1)<=max A.j.Ac (A.ix.Bd-1):=by
  cases d:A.j.An with
  | nil=>simp;omega
  | cons y r=>
   have hm:(y::r).getLastD (A.ix.Bd-1)∈A.j.An:=by
    rw[d];(have:(y::r).getLastD (A.ix.Bd-1)=(y::r).getLast (by simp):=by rw[KL,A4E (by simp)];rfl);rw[this];exact List.getLast_mem _
   rw[h.bY]at hm;have⟨x,hx2,hx3⟩:=Cl.1 hm;have:=(O x hx2).1.2;rw[hx3]at this;omega
 have hfn:1<=A.ix.Bd:=by have:=h.DX.Bd;unfold isNum at this;simp at this;exact this.1
 refine⟨A',aB,?_,by rw[<-I],by rw[<-I];exact aI,?_,by rw[<-I];rfl⟩
 ·rw[<-I]
  refine⟨h.DX,h.ix,h.sd,h.CD,λx d=>⟨⟨(O x d).1.1,E _ (by rw[h.bY];exact Ed d)⟩,(O x d).2.2⟩,λx _ d=>absurd rfl d,⟨λx d=>(O x d).2.1,λd=>absurd rfl d⟩,h.ef hl,?_,⟨rfl,h.bY⟩,
   ⟨by dsimp only;omega,by dsimp only;omega,λn hk d=>?_⟩,⟨?_,λn hk d=>Oo aA ((aD n).2 ⟨hk,d⟩) 0⟩,λnm hm=>?_,h.Hz,h.Ex,h.HS⟩
  ·dsimp only;rw[Oc]
  ·dsimp only
   by_cases hf:A.ix.Bd<=n
   ·exact E n (h.HS n hk hf d)
   ·omega
  ·dsimp only
   cases d:W with
   | nil=>simp
   | cons y r=>
    have L:=Oo aA (n:=y) (by rw[d];exact BI ..) 0;have z:=((aD y).1 (by rw[d];exact BI ..)).1;unfold isNum at z;simp at z;rw[d]at L;omega
  ·exact Hw.1 (GV.1 hm).1
 ·rw[<-I];dsimp only
  cases d:W with
  | nil=>simp;exact h.EI.1
  | cons y r=>
   have hm:(y::r).getLastD 0∈W:=by
    rw[d];(have:(y::r).getLastD 0=(y::r).getLast (by simp):=by rw[KL,A4E (by simp)];rfl);rw[this];exact List.getLast_mem _
   have:=(aD _).1 hm;exact h.EI.2 _ this.1 this.2
def Lay.gw(h:∀nm,P.bs nm=none):Lay P ⟨⟨1,[]⟩,⟨[],0,0,none⟩,0,[]⟩ [] [] none:=
 ⟨⟨by decide,λn E=>(by cases E),rfl⟩,.inl ⟨h _,rfl⟩,rfl,λx d=>(by cases d),λx d=>(by cases d),λx d=>(by cases d),⟨λx d=>(by cases d),λh=>absurd rfl h⟩,trivial,rfl,⟨rfl,rfl⟩,⟨by decide,by decide,λn _ d=>absurd (h _) d⟩,⟨by decide,λn _ d=>absurd (h _) d⟩,λnm z=>(by cases z),List.Pairwise.nil,λnm z=>absurd (h _) z,λn _ _ d=>absurd (h _) d⟩
end
abbrev View:=Bs->Option FC
def vw(F:Nat->FC)(s:gD AO):View:=λnm=>(lookup s (Ab nm)).map F
def Cb(c:FC):Prop:=c.2=c.1.length
def Jw(V:View)(n a:Int):gD Pu×Int:=match V (Ah n) with
 | some c=>Gy (AI (Ah n)) a c.1
 | none=>([],8)
def A0G(P:PD)(n a:Int):P.aX n a=Jw P.fl n a:=by
 unfold Jw;cases hx:P.fl (Ah n) with
 | some c=>
  have d:P.bs (Ah n)=some c.1:=by unfold PD.bs;rw[hx];rfl
  exact TM d
 | none=>
  have d:P.bs (Ah n)=none:=by unfold PD.bs;rw[hx];rfl
  unfold PD.aX H0;have e:Eb P.D P.F ⟨(Ah n).toArray⟩=([],8):=by have:=@JJ P (Ah n);unfold PD.Cy at this;rw[d]at this;exact this
  rw[e];simp
def G0(V:View):Int->gD (Int×gD Pu)->Prop
 | _,[]=>True
 | a,x::r=>Jw V x.1 a=(x.2,0)/\G0 V (a+x.2.length) r
def G0.at{P:PD}:∀ {a:Int} {l:gD (Int×gD Pu)},G0 P.fl a l↔Fo P a l
 | _,[]=>QB
 | a,x::r=>by
  unfold G0 Fo;rw[A0G,G0.at]
def G0.bz{V V':View}:∀ {a:Int} {l:gD (Int×gD Pu)},G0 V a l->(∀x∈l,(V' (Ah x.1)).map (·.1)=(V (Ah x.1)).map (·.1))->G0 V' a l
 | _,[],_,_=>trivial
 | a,x::r,h,hb=>by
  refine⟨?_,h.2.bz λy z=>hb y (BC _ z)⟩;rw[<-h.1];have:=hb x (BI ..);unfold Jw;cases h1:V (Ah x.1) with
  | none=>rw[h1]at this;cases h2:V' (Ah x.1) with
   | none=>rfl
   | some c=>rw[h2]at this;cases this
  | some c=>rw[h1]at this;cases h2:V' (Ah x.1) with
   | none=>rw[h2]at this;cases this
   | some d=>rw[h2]at this;simp at this;dsimp only;rw[this]
def G0.bZ{V:View}:∀ {a:Int} {l:gD (Int×gD Pu)} {x:Int×gD Pu},G0 V a l->Jw V x.1 (a+(Ax l).length)=(x.2,0)->G0 V a (l++[x])
 | a,[],x,_,h=>⟨by simpa[Ax] using h,trivial⟩
 | a,y::r,x,h,h2=>⟨h.1,h.2.bZ (by
  rw[<-h2];congr 1
  simp only[Ax,M6,B3];omega)⟩
def Ir(b nm:Bs)(d:Int)(l:gD Pu):Prop:=(∃t:Bs,b=Ej nm d l++t/\t.length<21)\/(l=[]/\b.length<12)
def Ir.aZ{b nm:Bs}{d:Int}{l:gD Pu}(h:Ir b nm d l)(E:Ay d)(z:∀p∈l,Bm p):Gy (AI nm) d b=(l,0):=by
 rcases h with⟨t,rfl,I⟩|⟨rfl,L⟩
 ·exact Su _ _ _ _ E z I
 ·exact Z9 _ _ _ L
def TN:∀(l:gD Pu) (s:Nat) (t:Bs) (j:Nat),t.length<21->∃d:Bs,(Ei s l++t).take j=Ei s (l.take (j/21))++d/\d.length<21
 | [],s,t,j,ht=>⟨t.take j,by simp[Ei],by rw[BK];omega⟩
 | p::r,s,t,j,ht=>by
  have h:(AT s (Bg p.1 p.2.1 p.2.2)).length=21:=by rw[EJ,FB]
  by_cases hj:j<21
  ·refine⟨(AT s (Bg p.1 p.2.1 p.2.2)).take j,?_,by rw[BK];omega⟩;(have e:j/21=0:=by omega);rw[e];simp only[Ei,Fp,Fa,Ci];rw[Hn (by omega)]
  ·have⟨d,h1,h2⟩:=TN r (AY s (Bg p.1 p.2.1 p.2.2)) t (j-21) ht;refine⟨d,?_,h2⟩;(have e:j/21=(j-21)/21+1:=by omega);rw[e,FJ];simp only[Ei,Ci];rw[List.take_append,h,h1,El (by omega)]
def Ir.cb{b nm:Bs}{d:Int}{l:gD Pu}(h:Ir b nm d l)(j:Nat)(hj:j<=b.length):Ir (b.take j) nm d (l.take ((j-12)/21)):=by
 rcases h with⟨t,rfl,E⟩|⟨rfl,hb⟩
 ·by_cases h12:j<12
  ·exact .inr ⟨by (have:(j-12)/21=0:=by omega);rw[this];rfl,by rw[BK];omega⟩
  ·have⟨t',h1,h2⟩:=TN l (AY (AI nm) (AQ d)) t (j-12) E;refine .inl ⟨t',?_,h2⟩;unfold Ej;(have z:(AT (AI nm) (AQ d)).length=12:=by rw[EJ,CP]);rw[Ci,List.take_append,z,h1,El (by omega),Ci]
 ·exact .inr ⟨by simp,by rw[BK];omega⟩
def Fg(c:FC)(l:gD Pu):Nat:=min l.length ((c.2.toNat-12)/21)
def FI(bd:Int×Int)(nm:Bs):Prop:=(Bq nm).1≠0/\((Bq nm).1=1->(Bq nm).2<=bd.1)/\((Bq nm).1=2->(Bq nm).2<=bd.2)
def A0n:Bq Bw=(4,0):=by
 have h:En [108] Bw=none:=Lm (by decide);have d:En [115] Bw=none:=Lm (by decide);unfold Bq Hy;rw[h,d];simp[Hx,IL,Bw,AJ]
def A0e{bd:Int×Int}{n:Int}(h:isNum n=true)(d:n<=bd.1):FI bd (Ah n):=by unfold FI;rw[Lk h];exact⟨by simp,λ_=>d,λh=>by simp at h⟩
def Th{bd:Int×Int}{n:Int}(h:isNum n=true)(d:n<=bd.2):FI bd (AG n):=by unfold FI;rw[OV h];exact⟨by simp,λh=>by simp at h,λ_=>d⟩
def A0f(bd:Int×Int):FI bd AJ:=by unfold FI;rw[Tu];exact⟨by decide,λh=>absurd h (by decide),λh=>absurd h (by decide)⟩
def Ti(bd:Int×Int):FI bd Bw:=by unfold FI;rw[A0n];exact⟨by decide,λh=>absurd h (by decide),λh=>absurd h (by decide)⟩
def I9(bd:Int×Int)(ix:Ix)(sg:gD (Int×gD Pu)):Prop:=NL ix/\ix.Bd<=bd.1+1/\∀x∈sg,x.2≠[]
def Ia(bd d:Int×Int):Prop:=bd.1<=d.1/\bd.2<=d.2
def FI.aW{bd d:Int×Int}{nm:Bs}(h:FI bd nm)(z:Ia bd d):FI d nm:=⟨h.1,λe=>Md (h.2.1 e) z.1,λe=>Md (h.2.2 e) z.2⟩
def I9.aW{bd d:Int×Int}{ix:Ix}{sg:gD (Int×gD Pu)}(h:I9 bd ix sg)(z:Ia bd d):I9 d ix sg:=⟨h.1,by have:=h.2.1;have:=z.1;omega,h.2.2⟩
structure D9 (bd:Int×Int) (V:View) (ix:Ix) (sg cl:gD (Int×gD Pu)) (lo:Option (Int×gD Pu)):Prop where
 DX:I9 bd ix sg
 IU:(V AJ=none/\ix=⟨1,[]⟩)\/∃c,V AJ=some c/\Cb c/\c.1=AT (AI AJ) (Cn ix.Bd ix.sd)
 sd:sg.map (·.1)=ix.sd
 CD:∀x∈sg,((∀p∈x.2,Bm p)/\CG Cw x.2=true)/\∃c,V (AG x.1)=some c/\Cb c/\c.1=AT (AI (AG x.1)) (Cp x.2)
 CX:∀x∈cl,(isNum x.1=true/\ix.Bd<=x.1)/\(∀p∈x.2,Bm p)/\∃c,V (Ah x.1)=some c/\Cb c
 An:G0 V 0 cl
 Ac:∀n l,lo=some (n,l)->(isNum n=true/\ix.Bd<=n)/\(∀p∈l,Bm p)/\∃c,V (Ah n)=some c/\Ir c.1 (Ah n) (Ax cl).length l
 Fc:(cl.map (·.1)++(lo.map (·.1)).toList).Pairwise (· < ·)
 Cy:∀n,isNum n=true->ix.Bd<=n->V (Ah n)≠none->n∈cl.map (·.1)++(lo.map (·.1)).toList
 Ex:∀nm,V nm≠none->FI bd nm
 Eg:∀nm c,V nm=some c->0<=c.2/\c.2<=c.1.length
def Iz(V V':View):Prop:=∀nm,(V nm=none/\V' nm=none)\/∃c,∃j:Nat,V nm=some c/\c.2<=j/\j<=c.1.length/\V' nm=some (c.1.take j,(j:Int))
section
variable{bd:Int×Int}{V V':View}{ix:Ix}{sg cl:gD (Int×gD Pu)}{lo:Option (Int×gD Pu)}
def Iz.eB(h:Iz V V'){nm:Bs}(z:V nm=none):V' nm=Option.none:=by
 rcases h nm with⟨_,E⟩|⟨c,j,d,_⟩
 ·exact E
 ·rw[z]at d;cases d
def Iz.b5(h:Iz V V'){nm:Bs}{c:FC}(E:V nm=some c):∃j:Nat,c.2<=j/\j<=c.1.length/\V' nm=Option.some (c.1.take j,(j:Int)):=by
 rcases h nm with⟨z,_⟩|⟨d,j,z,I⟩
 ·rw[E]at z;cases z
 ·rw[E]at z;cases z;exact⟨j,I⟩
def Iz.GH(h:Iz V V'){nm:Bs}{c:FC}(z:V nm=Option.some c)(d:Cb c):V' nm=Option.some c:=by
 have⟨j,h1,h2,h3⟩:=h.b5 z;unfold Cb at d;have e:j=c.1.length:=by omega
 rw[h3,e,C5,<-d]
def D9.CW(h:D9 bd V ix sg cl lo)(Y:Iz V V'):(∀nm c,V' nm=some c->Cb c)/\
 match lo with
 | none=>D9 bd V' ix sg cl none
 | some (n,l)=>∃c i,V (Ah n)=some c/\Fg c l<=i/\i<=l.length/\D9 bd V' ix sg cl (some (n,l.take i)):=by
 have X:∀nm c,V' nm=some c->Cb c:=λnm c L=>by
  rcases Y nm with⟨_,z⟩|⟨d,j,E,z,I,W⟩
  ·rw[L]at z;cases z
  ·rw[W]at L;cases L;unfold Cb;dsimp only;rw[BK];omega
 have aB:∀nm,V' nm≠none->V nm≠none:=λnm L hv=>L (Y.eB hv);have aA:G0 V' 0 cl:=h.An.bz λx hx=>by
  have⟨_,_,c,E,z⟩:=h.CX x hx;rw[Y.GH E z,E]
 have key:∀O:Option (Int×gD Pu),O.map (·.1)=lo.map (·.1)->(∀n l,O=some (n,l)->(isNum n=true/\ix.Bd<=n)/\(∀p∈l,Bm p)/\∃c,V' (Ah n)=some c/\Ir c.1 (Ah n) (Ax cl).length l)->D9 bd V' ix sg cl O:=λO e hl=>
  ⟨h.DX,by
   rcases h.IU with⟨E,z⟩|⟨c,E,z,I⟩
   ·exact .inl ⟨Y.eB E,z⟩
   ·exact .inr ⟨c,Y.GH E z,z,I⟩,h.sd,λx hx=>by
   have⟨E,c,z,I,W⟩:=h.CD x hx
   exact⟨E,c,Y.GH z I,I,W⟩,λx hx=>by
   have⟨E,z,c,I,W⟩:=h.CX x hx
   exact⟨E,z,c,Y.GH I W,W⟩,aA,hl,by rw[e];exact h.Fc,λn E z I=>by rw[e];exact h.Cy n E z (aB _ I),λnm L=>h.Ex nm (aB _ L),λnm c L=>by
   have:=X nm c L;unfold Cb at this;omega⟩
 refine⟨X,?_⟩;cases lo with
 | none=>exact key none rfl λn l e=>by cases e
 | some x=>
  obtain⟨n,l⟩:=x;have⟨E,z,c,I,W⟩:=h.Ac n l rfl;have⟨j,j1,j2,j3⟩:=Y.b5 I;refine⟨c,min l.length ((j-12)/21),I,?_,Nat.min_le_left _ _,key _ rfl λn' l' e=>?_⟩
  ·unfold Fg;have:(c.2.toNat-12)/21<=(j-12)/21:=A4p (by omega);omega
  ·cases e;have ht:l.take (min l.length ((j-12)/21))=l.take ((j-12)/21):=by
    rw[List.take_eq_take_iff];omega
   rw[ht];exact⟨E,λp hp=>z p (Ho hp),_,j3,W.cb j j2⟩
def D9.bL(h:D9 bd V ix sg cl lo)(X:∀nm,nm=AJ\/(∃x∈sg,nm=AG x.1)\/(∃n,isNum n=true/\ix.Bd<=n/\nm=Ah n)->(V nm=none/\V' nm=none)\/∃c d,V nm=some c/\V' nm=some d/\d.1=c.1/\(d.2=c.2\/Cb d))(h2:∀nm,V' nm≠none->FI bd nm)(h3:∀nm c,V' nm=some c->0<=c.2/\c.2<=c.1.length):D9 bd V' ix sg cl lo:=by
 have up:∀ {nm:Bs} {c:FC},(nm=AJ\/(∃x∈sg,nm=AG x.1)\/(∃n,isNum n=true/\ix.Bd<=n/\nm=Ah n))->V nm=some c->∃d,V' nm=some d/\d.1=c.1/\(Cb c->Cb d):=λ{nm c} hn hv=>by
  rcases X nm hn with⟨q,_⟩|⟨c',d,z,L,I,E⟩
  ·rw[hv]at q;cases q
  ·rw[hv]at z;cases z;refine⟨d,L,I,λY=>?_⟩;rcases E with E|E
   ·unfold Cb at Y ⊢;rw[I,E];exact Y
   ·exact E
 have O:∀x∈cl,(V' (Ah x.1)).map (·.1)=(V (Ah x.1)).map (·.1):=λx W=>by
  have⟨z,_,c,I,_⟩:=h.CX x W;have⟨d,d1,d2,_⟩:=up (.inr (.inr ⟨x.1,z.1,z.2,rfl⟩)) I;rw[d1,I];simp[d2]
 refine⟨h.DX,?_,h.sd,λx W=>?_,λx W=>?_,h.An.bz O,λn l e=>?_,h.Fc,λn z L I=>h.Cy n z L λq=>?_,h2,h3⟩
 ·rcases h.IU with⟨z,L⟩|⟨c,z,L,I⟩
  ·rcases X AJ (.inl rfl) with⟨_,q⟩|⟨c',d,E,_⟩
   ·exact .inl ⟨q,L⟩
   ·rw[z]at E;cases E
  ·have⟨d,d1,d2,d3⟩:=up (.inl rfl) z;exact .inr ⟨d,d1,d3 L,by rw[d2];exact I⟩
 ·have⟨z,c,L,I,E⟩:=h.CD x W;have⟨d,d1,d2,d3⟩:=up (.inr (.inl ⟨x,W,rfl⟩)) L;exact⟨z,d,d1,d3 I,by rw[d2];exact E⟩
 ·have⟨z,L,c,I,E⟩:=h.CX x W;have⟨d,d1,d2,d3⟩:=up (.inr (.inr ⟨x.1,z.1,z.2,rfl⟩)) I;exact⟨z,L,d,d1,d3 E⟩
 ·have⟨z,L,c,I,E⟩:=h.Ac n l e;have⟨d,d1,d2,d3⟩:=up (.inr (.inr ⟨n,z.1,z.2,rfl⟩)) I;exact⟨z,L,d,d1,by rw[d2];exact E⟩
 ·rcases X (Ah n) (.inr (.inr ⟨n,z,L,rfl⟩)) with⟨_,E⟩|⟨c,d,E,_⟩
  ·exact I E
  ·rw[q]at E;cases E
def D9.aW{d:Int×Int}(h:D9 bd V ix sg cl lo)(z:Ia bd d):D9 d V ix sg cl lo:=
 ⟨h.DX.aW z,h.IU,h.sd,h.CD,h.CX,h.An,h.Ac,h.Fc,h.Cy,λnm E=>(h.Ex nm E).aW z,h.Eg⟩
end
def C4.C(o:Int)(a:gD Pu):C4 o a a:=⟨λ_ _ _=>rfl,λp d=>⟨p,d,rfl,rfl⟩,Ao _⟩
def C4.AH{o:Int}{a b c:gD Pu}(h:C4 o a b)(d:C4 o b c):C4 o a c:=⟨λk t z=>(h.1 k t z).trans (d.1 k t z),λp E=>by
 have⟨q,hq,e1,e2⟩:=h.2.1 p E;have⟨r,hr,e3,e4⟩:=d.2.1 q hq
 exact⟨r,hr,e3.trans e1,e4.trans e2⟩,AP h.2.2 d.2.2⟩
def C4.bj{o d:Int}{a b:gD Pu}(h:C4 o a b)(ho:o<=d):C4 d a b:=⟨λk t ht=>h.1 k t (by omega),h.2⟩
def C4.dM{o:Int}{a b:gD Pu}(h:C4 o a b)(c:gD Pu):C4 o (a++c) (b++c):=⟨λk t z=>by rw[H6,H6,h.1 k t z],λp d=>by
 rcases AX.1 d with d|d
 ·have⟨q,hq,e⟩:=h.2.1 p d;exact⟨q,G1 _ hq,e⟩
 ·exact⟨p,HJ _ d,rfl,rfl⟩,by have:=h.2.2;rw[B3,B3];omega⟩
def C4.eR{o:Int}{a b:gD Pu}(z:∀k t,o<=t->Bz a k t=Bz b k t)(h:∀p∈a,p∈b)(E:a.length<=b.length):C4 o a b:=⟨z,λp d=>⟨p,h p d,rfl,rfl⟩,E⟩
def Holds(bd:Int×Int)(V:View)(pd:gD Pu)(Ad:Nat)(o:Int):Prop:=
 ∃ix z h d nb,D9 bd V ix z h d/\nb<=pd.length/\C4 o (Ax z++Ax h) (pd.take nb)/\
  (∀n l,d=some (n,l)->∃c,V (Ah n)=some c/\Ad<=nb+Fg c l/\l=(pd.drop nb).take l.length)/\(d=none->Ad<=nb)
def EY:Option (Int×gD Pu)->gD Pu
 | none=>[]
 | some x=>x.2
section
variable{bd:Int×Int}{V V':View}{pd:gD Pu}{Ad:Nat}{o:Int}
def Holds.CW(h:Holds bd V pd Ad o)(X:Iz V V'):∃ix d z E n,D9 bd V' ix d z E/\(∀nm c,V' nm=some c->Cb c)/\Ad<=n/\n<=pd.length/\C4 o (Ax d++Ax z++EY E) (pd.take n):=by
 obtain⟨ix,d,z,E,nb,Y,I,L,W,O⟩:=h;have⟨hd,hcut⟩:=Y.CW X;cases E with
 | none=>exact⟨ix,d,z,none,nb,hcut,hd,O rfl,I,by simpa[EY] using L⟩
 | some x=>
  obtain⟨n,l⟩:=x;obtain⟨c,i,c1,c2,c3,c4⟩:=hcut;have⟨c',d1,d2,d3⟩:=W n l rfl;rw[c1]at d1;cases d1;have hl:l.length<=(pd.drop nb).length:=by
   have:=Ep List.length d3;rw[BK]at this;omega
  rw[Cz]at hl;refine⟨ix,d,z,some (n,l.take i),nb+i,c4,hd,by omega,by omega,?_⟩;have e:pd.take (nb+i)=pd.take nb++l.take i:=by
   rw[List.take_add,d3,KF]
   congr 2;omega
  rw[e];exact L.dM _
def Holds.aW{d:Int×Int}(h:Holds bd V pd Ad o)(I:Ia bd d):Holds d V pd Ad o:=by
 obtain⟨ix,O,z,L,nb,E,r⟩:=h;exact⟨ix,O,z,L,nb,E.aW I,r⟩
def Holds.bj{z:Int}(h:Holds bd V pd Ad o)(I:o<=z):Holds bd V pd Ad z:=by
 obtain⟨ix,sg,E,Y,nb,O,d,X,W,L⟩:=h;exact⟨ix,sg,E,Y,nb,O,d,X.bj I,W,L⟩
def Holds.cd(h:Holds bd V pd Ad o)(q:gD Pu):Holds bd V (pd++q) Ad o:=by
 obtain⟨ix,Y,z,E,nb,O,d,X,W,L⟩:=h;refine⟨ix,Y,z,E,nb,O,by simp;omega,by rw[Hn d];exact X,λn l e=>?_,L⟩;have⟨c,d1,d2,d3⟩:=W n l e;refine⟨c,d1,d2,?_⟩;have I:l.length<=(pd.drop nb).length:=by
  have:=Ep List.length d3;rw[BK]at this;omega
 rw[M8 d,Hn I];exact d3
def Holds.bG{ix:Ix}{z h:gD (Int×gD Pu)}(I:D9 bd V ix z h none)(E:C4 o (Ax z++Ax h) pd)(d:Ad<=pd.length):Holds bd V pd Ad o:=
 ⟨ix,z,h,none,pd.length,I,Ao _,by rw[C5];exact E,λn l e=>(by cases e),λ_=>d⟩
def UC{c d:FC}{l:gD Pu}(E:d.1=c.1)(h:d.2=c.2\/Cb d)(z:c.2<=c.1.length):Fg c l<=Fg d l:=by
 unfold Fg;have:c.2<=d.2:=by
  rcases h with h|h
  ·omega
  ·unfold Cb at h;rw[h,E];exact z
 have:(c.2.toNat-12)/21<=(d.2.toNat-12)/21:=A4p (by omega);omega
def Holds.bL(h:Holds bd V pd Ad o)(I:∀nm,(∀c,V nm=some c->∃d,V' nm=some d/\d.1=c.1/\(d.2=c.2\/Cb d))/\(V nm=none->V' nm=none)):Holds bd V' pd Ad o:=by
 obtain⟨ix,Y,cl,lo,nb,O,W,hs,g1,X⟩:=h;have L:∀nm,V' nm≠none->V nm≠none:=λnm z E=>z ((I nm).2 E);refine⟨ix,Y,cl,lo,nb,O.bL (λnm _=>?_) (λnm z=>O.Ex nm (L nm z)) (λnm c z=>?_),W,hs,λn l e=>?_,X⟩
 ·cases E:V nm with
  | none=>exact .inl ⟨rfl,(I nm).2 E⟩
  | some c=>have⟨d,d1,d2,d3⟩:=(I nm).1 c E;exact .inr ⟨c,d,rfl,d1,d2,d3⟩
 ·cases E:V nm with
  | none=>rw[(I nm).2 E]at z;cases z
  | some x=>
   have⟨d,d1,d2,d3⟩:=(I nm).1 x E;rw[d1]at z;cases z;have:=O.Eg nm x E;rcases d3 with d3|d3
   ·rw[d2,d3];exact this
   ·unfold Cb at d3;omega
 ·have⟨c,d1,d2,d3⟩:=g1 n l e;have⟨d,e1,e2,e3⟩:=(I _).1 c d1;exact⟨d,e1,AP d2 (LV (UC e2 e3 (O.Eg _ _ d1).2) _),d3⟩
def Fl(bd:Int×Int)(V:View)(pd:gD Pu)(Ad:Nat)(o:Int)(n:Int)(h:Nat):Prop:=
 ∃ix z d l nb c,D9 bd V ix z d (some (n,l))/\nb<=pd.length/\C4 o (Ax z++Ax d) (pd.take nb)/\V (Ah n)=some c/\c.1=Ej (Ah n) h l/\h=(Ax d).length/\Ad<=nb+Fg c l/\l=pd.drop nb
def Fl.aW{d:Int×Int}{n:Int}{z:Nat}(h:Fl bd V pd Ad o n z)(I:Ia bd d):Fl d V pd Ad o n z:=by
 obtain⟨ix,O,E,l,nb,c,L,r⟩:=h;exact⟨ix,O,E,l,nb,c,L.aW I,r⟩
def Fl.cf{n:Int}{Y:Nat}(h:Fl bd V pd Ad o n Y):Holds bd V pd Ad o:=by
 obtain⟨ix,O,X,l,nb,c,L,d,W,E,h2,h3,z,I⟩:=h;exact⟨ix,O,X,some (n,l),nb,L,d,W,λn' l' e=>by cases e;exact⟨c,E,z,by rw[<-I,C5]⟩,λe=>by cases e⟩
def Fl.av{n:Int}{ag:Nat}(h:Fl bd V pd Ad o n ag)(p:Pu)(hp:Bm p)(j:Nat){s:Nat}(aE:∀l c,V (Ah n)=some c->c.1=Ej (Ah n) ag l->s=FE (Ah n) ag l)(I:∀nm,nm≠Ah n->V' nm=V nm)(h2:∀c,V (Ah n)=some c->V' (Ah n)=some (c.1++(AT s (Bg p.1 p.2.1 p.2.2)).take j,c.2)):
 (21<=j->Fl bd V' (pd++[p]) Ad o n ag)/\(j<21->Holds bd V' pd Ad o):=by
 obtain⟨ix,sg,Y,l,nb,c,E,X,hs,g1,g2,g3,g4,g5⟩:=h;have aG:=aE l c g1 g2;have hv:=h2 c g1;have hpl:(AT s (Bg p.1 p.2.1 p.2.2)).length=21:=by rw[EJ,FB]
 have⟨q1,q2,c',q3,q4⟩:=E.Ac n l rfl;rw[g1]at q3;cases q3;have L:=(EF.1 E.Fc).2.2;have aA:∀x∈Y,Ah x.1≠Ah n:=λx z e=>by
  have e2:=Gi (E.CX x z).1.1 q1.1 e;have:=L x.1 (Ed z) n (by simp);omega
 have W:G0 V' 0 Y:=E.An.bz λx z=>by rw[I _ (aA x z)]
 have mk:∀l',(∀p∈l',Bm p)->Ir (c.1++(AT s (Bg p.1 p.2.1 p.2.2)).take j) (Ah n) (Ax Y).length l'->D9 bd V' ix sg Y (some (n,l')):=λl' aD aB=>
  ⟨E.DX,by rw[I _ (HT n).symm];exact E.IU,E.sd,λx z=>by rw[I _ (Gm n x.1).symm];exact E.CD x z,λx z=>by rw[I _ (aA x z)];exact E.CX x z,W,
   λn' l2 e=>by cases e;exact⟨q1,aD,_,hv,aB⟩,E.Fc,λk k1 k2 k3=>by
    by_cases e:Ah k=Ah n
    ·have:=Gi k1 q1.1 e;subst this;simp
    ·rw[I _ e]at k3;exact E.Cy k k1 k2 k3,λnm O=>by
    by_cases e:nm=Ah n
    ·subst e;exact E.Ex _ (by rw[g1];simp)
    ·rw[I _ e]at O;exact E.Ex nm O,λnm d O=>by
    by_cases e:nm=Ah n
    ·subst e;rw[hv]at O;cases O;have:=E.Eg _ _ g1;dsimp only;rw[B3];omega
    ·rw[I _ e]at O;exact E.Eg nm d O⟩
 constructor
 ·intro hj;have ht:(AT s (Bg p.1 p.2.1 p.2.2)).take j=AT s (Bg p.1 p.2.1 p.2.2):=El (by omega);have hb:c.1++(AT s (Bg p.1 p.2.1 p.2.2)).take j=Ej (Ah n) ag (l++[p]):=by rw[ht,g2,aG,(TQ _ _ _ _).1]
  have aF:∀x∈l++[p],Bm x:=λx z=>by
   rcases AX.1 z with z|z
   ·exact q2 x z
   ·simp at z;subst z;exact hp
  refine⟨ix,sg,Y,l++[p],nb,_,mk _ aF (.inl ⟨[],by rw[hb,g3];simp,by simp⟩),by simp;omega,by rw[Hn X];exact hs,hv,hb,g3,?_,by rw[M8 X,<-g5]⟩;have:Fg c l<=Fg (c.1++(AT s (Bg p.1 p.2.1 p.2.2)).take j,c.2) (l++[p]):=by unfold Fg;simp;omega
  omega
 ·intro hj
  refine⟨ix,sg,Y,some (n,l),nb,mk l q2 (.inl ⟨_,by rw[g2,g3],by rw[BK];omega⟩),X,hs,λn' l' e=>by
   cases e
   exact⟨_,hv,by unfold Fg at g4 ⊢;exact g4,by rw[<-g5,C5]⟩,λe=>by cases e⟩
end
structure AK (P Q:PD):Prop where
 A6:P.D.A6=Q.D.A6
 AF:P.D.AF=Q.D.AF
 As:P.D.As=Q.D.As
 EC:P.F=Q.F
structure Hm (P:PD):Prop where
 Aq:(P.D.A6.map (·.2)).Nodup
 Cg:(P.D.A6.map (·.1)).Nodup
def PD.aQ(P:PD):PD:=⟨{P.D with n:=⟨(AU P.F P.D.A6:Int)+4611686018427387904,0,0,0,0,0,0,false⟩},P.F⟩
def AK.aQ(P:PD):AK P P.aQ:=⟨rfl,rfl,rfl,rfl⟩
def Hm.aQ{P:PD}(h:Hm P):Cm P.aQ 4611686018427387904 4611686018427387904:=
 ⟨rfl,rfl,rfl,⟨by simp[PD.aQ],by simp[PD.aQ]⟩,by simp[PD.aQ],h.Aq,h.Cg⟩
def Hi{n:DN}(h:(bg n).2.1=0):(bg n).1=true:=by
 unfold bg at h ⊢;dsimp only at h ⊢;split at h
 ·cases h
 ·split at h
  ·cases h
  ·split at h
   ·cases h
   ·rename_i z d E;rw[Af z,Af d,Af E]
section
variable{P Q:PD}{N R:Nat}{nm oe:gC}
def AK.AV(h:AK P Q):P.D.AV=Q.D.AV:=by unfold DS.AV;rw[h.A6,h.AF,h.As]
def AK.fl(h:AK P Q)(m:Bs):P.fl m=Q.fl m:=by unfold PD.fl;rw[h.A6,h.EC]
def AK.bs(h:AK P Q)(m:Bs):P.bs m=Q.bs m:=by unfold PD.bs;rw[h.fl]
def AK.au(h:AK P Q)(I:Cm Q (N+1) R)(d:(P.au nm).1=0):(Q.au nm).1=0/\AK (P.au nm).2 (Q.au nm).2/\Cm (Q.au nm).2 N R:=by
 have O:=h.AV;unfold PD.au CV at d ⊢;rw[h.A6]at d ⊢;by_cases z:nm=ByteArray.empty\/B9 Q.D.A6 nm≥0
 ·rw[Ai z]at d;cases d
 ·rw[Af z]at d;rw[Af z,Af z];dsimp only at d ⊢;rw[Hi d,I.bg,O,h.EC];dsimp only
  rw[Ai rfl,Ai rfl];refine⟨rfl,⟨rfl,h.AF,by dsimp only;rw[h.As],rfl⟩,?_⟩;have E:¬nm=ByteArray.empty:=λe=>z (.inl e);have X:lookup Q.D.A6 nm=none:=(JF _ _).1 (by (have:¬B9 Q.D.A6 nm≥0:=λe=>z (.inr e));omega);have L:=FR nm;have W:Q.fl nm.data.toList=none:=by unfold PD.fl;rw[L,X];rfl
  have:=(Cm.au (nm:=nm.data.toList) I W (λe=>E (by rw[<-L,e];rfl))).2.1;rw[L]at this;unfold PD.au CV at this;rw[Af z]at this;dsimp only at this;rw[I.bg]at this;simpa using this
def AK.ad(h:AK P Q)(z:Cm Q (N+1) R)(d:(P.ad nm).1=0):(Q.ad nm).1=0/\AK (P.ad nm).2 (Q.ad nm).2/\Cm (Q.ad nm).2 N R:=by
 have E:=FR nm;have key:lookup Q.D.A6 nm≠none->Cm (Q.ad nm).2 N R:=λI=>by
  cases hx:lookup Q.D.A6 nm with
  | none=>exact absurd hx I
  | some f=>
   have:=(Cm.ad (nm:=nm.data.toList) (c:=Q.F f) z (by unfold PD.fl;rw[E,hx];rfl)).2.1
   rwa [E]at this
 unfold PD.ad CN at d key ⊢;rw[h.A6]at d ⊢;cases hx:lookup Q.D.A6 nm with
 | none=>rw[hx]at d;cases d
 | some f=>
  rw[hx]at d key;dsimp only at d key ⊢;rw[d,Ai rfl];rw[z.bg]at key ⊢;dsimp only at key ⊢;rw[Ai rfl]at key ⊢;exact⟨rfl,⟨rfl,h.AF,h.As,by dsimp only;rw[h.EC]⟩,key (by simp)⟩
def AK.aJ(h:AK P Q)(z:Cm Q (N+1) R)(d:P.aJ.1=0):Q.aJ.1=0/\AK P.aJ.2 Q.aJ.2/\Cm Q.aJ.2 N R:=by
 have key:=z.aJ.2.1;refine⟨z.aJ.1,?_,key⟩;unfold PD.aJ E9 at d ⊢;dsimp only at d ⊢;rw[d,Ai rfl,z.bg];dsimp only
 rw[Ai rfl];exact⟨h.A6,h.A6,rfl,h.EC⟩
def AK.aG(h:AK P Q)(E:Cm Q (N+1) R)(d:(P.aG nm).1=0):(Q.aG nm).1=0/\AK (P.aG nm).2 (Q.aG nm).2/\Cm (Q.aG nm).2 N R:=by
 have I:=FR nm;have key:lookup Q.D.A6 nm≠none->(Q.aG nm).1=0/\Cm (Q.aG nm).2 N R:=λL=>by
  cases z:lookup Q.D.A6 nm with
  | none=>exact absurd z L
  | some f=>
   have:=(Cm.aG (nm:=nm.data.toList) (c:=Q.F f) E (by unfold PD.fl;rw[I,z];rfl));rw[I]at this;exact⟨this.1,this.2.1⟩
 have z:¬B9 Q.D.A6 nm<0:=λz=>by
  unfold PD.aG Dx at d;rw[h.A6,Ai z]at d;cases d
 have⟨k1,k2⟩:=key λe=>z ((JF _ _).2 e);refine⟨k1,?_,k2⟩;unfold PD.aG Dx at d ⊢;rw[h.A6,Af z]at d;rw[h.A6,Af z,Af z];dsimp only at d ⊢;rw[Hi d,E.bg];dsimp only
 rw[Ai rfl,Ai rfl];exact⟨rfl,h.AF,by dsimp only;rw[h.As],h.EC⟩
def AK.aR(h:AK P Q)(L:Cm Q (N+1) R)(O:oe≠nm)(d:(P.aR oe nm).1=0):(Q.aR oe nm).1=0/\AK (P.aR oe nm).2 (Q.aR oe nm).2/\Cm (Q.aR oe nm).2 N R:=by
 have I:=FR nm;have E:=FR oe;unfold PD.aR D8 at d;rw[h.A6]at d;cases hx:lookup Q.D.A6 oe with
 | none=>rw[hx]at d;cases d
 | some f=>
  rw[hx]at d;dsimp only at d;by_cases z:nm=ByteArray.empty
  ·rw[Ai z]at d;cases d
  ·rw[Af z]at d;dsimp only at d;have key:=Cm.aR (nm:=nm.data.toList) (oe:=oe.data.toList) (c:=Q.F f) L (by unfold PD.fl;rw[E,hx];rfl) (λe=>z (by rw[<-I,e];rfl)) (λe=>O (by rw[<-I,<-E,e]));rw[I,E]at key;refine⟨key.1,?_,key.2.1⟩;unfold PD.aR D8;rw[h.A6,hx];dsimp only
   rw[Af z,Af z];dsimp only
   rw[Hi d,L.bg];dsimp only
   rw[Ai rfl,Ai rfl];exact⟨rfl,h.AF,by dsimp only;rw[h.As],h.EC⟩
def AK.av{l:Bs}(h:AK P Q)(X:Cm Q (N+1) R)(hl:l.length<=R)(d:(P.av nm l).1=0):(Q.av nm l).1=0/\AK (P.av nm l).2 (Q.av nm l).2/\Cm (Q.av nm l).2 N (R-l.length):=by
 have Y:=FR nm;have W:¬(bg P.D.n).2.1≠0:=λz=>by
  unfold PD.av BA at d;rw[h.A6]at d;cases hx:lookup Q.D.A6 nm with
  | none=>rw[hx]at d;cases d
  | some f=>
   rw[hx]at d;dsimp only at d;have E:∀D n0,(BP D P.F f (Ab l) n0 (bg P.D.n).2.1).1≠0:=λD n0=>by
    unfold BP;split
    ·dsimp only;first|exact z|(rw[Af z];exact z)
    ·exact z
   split at d
   ·exact E _ _ d
   ·split at d
    ·exact E _ _ d
    ·exact z d
 have z:(bg P.D.n).2.1=0:=by
  by_cases e:(bg P.D.n).2.1=0
  ·exact e
  ·exact absurd e W
 cases hx:lookup Q.D.A6 nm with
 | none=>
  unfold PD.av BA at d;rw[h.A6,hx]at d;cases d
 | some f=>
  have key:=Cm.av (nm:=nm.data.toList) (c:=Q.F f) X (by unfold PD.fl;rw[Y,hx];rfl) l hl;rw[Y]at key;refine⟨key.1,?_,key.2.1⟩;have L:∀D:DS,D.A6=Q.D.A6->D.n.Av=Q.D.n.Av->¬((Ab l).size:Int)>Gn D Q.F:=λD h1 O=>by
   have:=X.Av;unfold Gn;rw[h1,O,Li];omega
  unfold PD.av BA at d ⊢;rw[h.A6,hx]at d;rw[h.A6,hx];dsimp only at d ⊢;rw[Hi z,Ai rfl,z]at d;rw[Hi z,Ai rfl,z,X.bg];dsimp only
  rw[Ai rfl];unfold BP at d ⊢;split at d
  ·simp at d
  ·rename_i I;rw[Af I];split
   ·rename_i O;exact absurd O (L _ rfl rfl)
   ·exact⟨rfl,h.AF,h.As,by dsimp only;rw[h.EC]⟩
end
def nn{x:Int}(h:x=0):¬x≠0:=λk=>k h
section
variable{P Q:PD}{N R:Nat}{nm oe:Bs}{A:Ar}{J:Jn}
def AK.Az(h:AK P Q):P.Az=Q.Az:=by unfold PD.Az;rw[h.A6]
def AK.aV(h:AK P Q):A.aV P=A.aV Q:=by unfold Ar.aV;rw[h.Az]
def AK.aX(h:AK P Q)(n a:Int):P.aX n a=Q.aX n a:=by
 unfold PD.aX H0 Eb;rw[h.A6,h.EC]
def AK.bq(h:AK P Q):∀(l:gD Int) (d:gD Pu),P.bq l d=Q.bq l d
 | [],_=>rfl
 | n::r,d=>by simp only[PD.bq];rw[h.aX,h.bq r]
def AK.pd(h:AK P Q)(l:gD Int):P.pd l=Q.pd l:=h.bq l []
def AK.Cy(h:AK P Q)(m:Bs):P.Cy m=Q.Cy m:=by unfold PD.Cy Eb;rw[h.A6,h.EC]
def AK.aZ(h:AK P Q)(m:Bs):P.aZ m=Q.aZ m:=by unfold PD.aZ;rw[h.Cy]
def AK.CD(h:AK P Q)(n:Int):P.CD n=Q.CD n:=by unfold PD.CD;rw[h.aZ]
def AK.sd(h:AK P Q):∀l:gD Int,P.sd l=Q.sd l
 | []=>rfl
 | n::r=>by simp only[PD.sd];rw[h.CD,h.sd r]
def AK.b1{s:Nat}{l:Bs}(h:AK P Q)(E:Cm Q (N+1) R)(hl:l.length+4<=R)(d:(P.af (Ab nm) s l).2.1=0):
 (P.af (Ab nm) s l).1=(Q.af (Ab nm) s l).1/\(Q.af (Ab nm) s l).2.1=0/\AK (P.af (Ab nm) s l).2.2 (Q.af (Ab nm) s l).2.2/\Cm (Q.af (Ab nm) s l).2.2 N (R-(l.length+4)):=by
 have z:=EJ s l;have⟨a1,a2,a3⟩:=h.av (nm:=Ab nm) (l:=AT s l) E (by omega) d;rw[z]at a3;refine⟨?_,a1,a2,a3⟩;have e:∀X:PD,(X.af (Ab nm) s l).1=decide ((CJ (X.av (Ab nm) (AT s l)).2.D (X.av (Ab nm) (AT s l)).2.F (Ab nm)).1-(CJ X.D X.F (Ab nm)).1=(AT s l).length):=λX=>rfl;rw[e P,e Q];unfold CJ;rw[a2.A6,a2.EC,h.A6,h.EC]
def AK.aI{s:Nat}{l:Bs}(h:AK P Q)(X:Cm Q (N+3) R)(L:l.length+4<=R)(d:(P.aI nm s l).1=0):
 (Q.aI nm s l).1=0/\AK (P.aI nm s l).2 (Q.aI nm s l).2/\Cm (Q.aI nm s l).2 N (R-(l.length+4)):=by
 unfold PD.aI at d ⊢;by_cases E:(P.au (Ab nm)).1=0
 ·rw[Af (nn E)]at d;have⟨a1,a2,a3⟩:=h.au (N:=N+2) (nm:=Ab nm) X E;by_cases z:((P.au (Ab nm)).2.af (Ab nm) s l).2.1=0
  ·rw[Af (nn z)]at d;obtain⟨-,I,O,W⟩:=a2.b1 (N:=N+1) (nm:=nm) a3 L z;have⟨c1,c2,c3⟩:=O.ad (N:=N) (nm:=Ab nm) W d;rw[Af (nn E),Af (nn z),Af (nn a1),Af (nn I)];exact⟨c1,c2,c3⟩
  ·rw[Ai z]at d;exact absurd d z
 ·rw[Ai E]at d;exact absurd d E
def AK.ay:∀(l:gD Bs) {P Q:PD},AK P Q->Cm Q (N+l.length) R->(PD.ay l P).1=0->(PD.ay l Q).1=0/\AK (PD.ay l P).2 (PD.ay l Q).2/\Cm (PD.ay l Q).2 N R
 | [],P,Q,h,hc,_=>⟨rfl,h,hc⟩
 | x::r,P,Q,h,hc,hok=>by
  unfold PD.ay at hok ⊢;by_cases d:(P.ad (Ab x)).1=0
  ·rw[Af (nn d)]at hok;obtain⟨E,z,I⟩:=h.ad (N:=N+r.length) (nm:=Ab x) (by simpa[Nat.add_assoc] using hc) d;rw[Af (nn d),Af (nn E)];exact AK.ay r z I hok
  ·rw[Ai d]at hok;exact absurd hok d
def AK.aO:∀(l:gD Bs) {P Q:PD},AK P Q->Cm Q (N+l.length) R->(PD.aO l P).1=0->(PD.aO l Q).1=0/\AK (PD.aO l P).2 (PD.aO l Q).2/\Cm (PD.aO l Q).2 N R
 | [],P,Q,h,hc,_=>⟨rfl,h,hc⟩
 | x::r,P,Q,h,hc,hok=>by
  unfold PD.aO at hok ⊢;by_cases d:(P.aG (Ab x)).1=0
  ·rw[Af (nn d)]at hok;obtain⟨E,z,I⟩:=h.aG (N:=N+r.length) (nm:=Ab x) (by simpa[Nat.add_assoc] using hc) d;rw[Af (nn d),Af (nn E)];exact AK.aO r z I hok
  ·rw[Ai d]at hok;exact absurd hok d
def AK.I(h:AK P Q)(E:Cm Q (N+A.AR.length) R)(d:(A.I P).1=0):(A.I Q).1=0/\(A.I P).2.1=(A.I Q).2.1/\AK (A.I P).2.2 (A.I Q).2.2/\Cm (A.I Q).2.2 N R:=by
 unfold Ar.I at d ⊢;by_cases z:(P.ay A.AR).1=0
 ·have⟨a1,a2,a3⟩:=AK.ay A.AR h E z;rw[Af (nn z),Af (nn a1)];exact⟨rfl,rfl,a2,a3⟩
 ·rw[Ai z]at d;exact absurd d z
def AK.az(h:AK P Q)(z:Cm Q (N+(A.aV Q).length) R)(d:(A.az P).1=0):(A.az Q).1=0/\AK (A.az P).2 (A.az Q).2/\Cm (A.az Q).2 N R:=by
 unfold Ar.az at d ⊢;rw[h.aV]at d ⊢;exact AK.aO _ h z d
def AK.ax(h:AK P Q)(W:Cm Q (N+2) R)(hR:12<=R)(d:(J.ax P).1=0):(J.ax Q).1=0/\(J.ax P).2.1=(J.ax Q).2.1/\AK (J.ax P).2.2 (J.ax Q).2.2/\Cm (J.ax Q).2.2 N (R-12):=by
 unfold Jn.ax at d ⊢;by_cases z:(P.au (Ab (Ah (J.Ac+1)))).1=0
 ·rw[Af (nn z)]at d;have⟨a1,a2,a3⟩:=h.au (N:=N+1) W z;dsimp only at d ⊢;by_cases E:((P.au (Ab (Ah (J.Ac+1)))).2.af (Ab (Ah (J.Ac+1))) (AI (Ah (J.Ac+1))) (AQ J.pd)).2.1=0
  ·obtain⟨-,L,O,I⟩:=a2.b1 (N:=N) (nm:=Ah (J.Ac+1)) (s:=AI (Ah (J.Ac+1))) (l:=AQ J.pd) a3 (by rw[CP];omega) E;rw[CP]at I;rw[Af (nn z),Af (nn E),Af (nn a1),Af (nn L)];exact⟨rfl,rfl,O,I⟩
  ·rw[Ai E]at d;exact absurd d E
 ·rw[Ai z]at d;exact absurd d z
def AK.aF(h:AK P Q)(z:Cm Q (N+1) R)(hR:21<=R)(p:Pu)(d:(J.aF P p).2.1=0):(J.aF P p).1=(J.aF Q p).1/\(J.aF Q p).2.1=0/\(J.aF P p).2.2.1=(J.aF Q p).2.2.1/\AK (J.aF P p).2.2.2 (J.aF Q p).2.2.2/\Cm (J.aF Q p).2.2.2 N (R-21):=by
 unfold Jn.aF at d ⊢;cases hx:J.AB with
 | none=>exact⟨rfl,rfl,rfl,h,z.ai (by omega) (by omega)⟩
 | some x=>
  obtain⟨n,s⟩:=x;rw[hx]at d;dsimp only at d ⊢;have⟨b0,b1,b2,b3⟩:=h.b1 (N:=N) (nm:=Ah n) z (by rw[FB];omega) d;rw[FB]at b3;exact⟨b0,b1,rfl,b2,b3⟩
def AK.fk(h:AK P Q)(z:Cm Q (N+1) R)(d:(J.ad P).1=0):(J.ad Q).1=0/\AK (J.ad P).2 (J.ad Q).2/\Cm (J.ad Q).2 N R:=by
 unfold Jn.ad at d ⊢;cases hx:J.AB with
 | none=>exact⟨rfl,h,z.ai (by omega) (Ao _)⟩
 | some x=>
  obtain⟨n,s⟩:=x;rw[hx]at d;exact h.ad (N:=N) z d
def AK.aq:∀(L:gD (gD Pu)) (d:Int) (E:gD Int) {P Q:PD},AK P Q->Cm Q (N+3*L.length) (R+Ds L)->(PD.aq L d E P).1=0->
 (PD.aq L d E Q).1=0/\(PD.aq L d E P).2.1=(PD.aq L d E Q).2.1/\(PD.aq L d E P).2.2.1=(PD.aq L d E Q).2.2.1/\AK (PD.aq L d E P).2.2.2 (PD.aq L d E Q).2.2.2/\Cm (PD.aq L d E Q).2.2.2 N R
 | [],d,E,P,Q,h,hc,_=>⟨rfl,rfl,rfl,h,by simpa[Ds,PD.aq] using hc⟩
 | l::r,d,E,P,Q,h,hc,hok=>by
  have I:Ds (l::r)=(17*l.length+4)+Ds r:=by simp[Ds]
  have z:∀X:PD,PD.aq (l::r) d E X=if (X.aK (d+1) l).1≠0 then ((X.aK (d+1) l).1,d+1,E,(X.aK (d+1) l).2) else PD.aq r (d+1) (E++[d+1]) (X.aK (d+1) l).2:=λ_=>rfl
  rw[z P]at hok;rw[z P,z Q];by_cases O:(P.aK (d+1) l).1=0
  ·rw[Af (nn O)]at hok;have⟨a1,a2,a3⟩:=AK.aI (N:=N+3*r.length) (R:=R+Ds (l::r)) (nm:=AG (d+1)) (s:=AI (AG (d+1))) (l:=Cp l) h (hc.ai (by simp;omega) (Ao _)) (by rw[IF,I];omega) O;rw[IF]at a3;have W:(Q.aK (d+1) l).1=0:=a1;rw[Af (nn O),Af (nn W)];exact AK.aq r (d+1) (E++[d+1]) a2 (a3.ai (Ao _) (by rw[I];omega)) hok
  ·rw[Ai O]at hok;exact absurd hok O
def AK.dd{d:Int}{sd:gD Int}(h:AK P Q)(L:Cm Q (N+4) R)(hR:12+8*sd.length<=R)(z:(P.an d sd).1=0):(Q.an d sd).1=0/\AK (P.an d sd).2 (Q.an d sd).2/\Cm (Q.an d sd).2 N (R-(12+8*sd.length)):=by
 have I:(Cn d sd).length=8+8*sd.length:=by unfold Cn;rw[B3,CP,JE]
 unfold PD.an at z ⊢;by_cases E:(P.aI Bw (AI AJ) (Cn d sd)).1=0
 ·rw[Af (nn E)]at z;have⟨a1,a2,a3⟩:=h.aI (N:=N+1) L (by omega) E;have⟨b1,b2,b3⟩:=a2.aR (N:=N) a3 (λe=>JA (Gj.1 e).symm) z;rw[Af (nn E),Af (nn a1)];exact⟨b1,b2,by rw[I]at b3;exact b3.ai (Ao _) (by omega)⟩
 ·rw[Ai E]at z;exact absurd z E
def AK.cD{sd:gD Int}(h:AK P Q)(I:Cm Q (N+4) R)(L:12+8*sd.length<=R)(d:(A.an P sd).1=0):(A.an Q sd).1=0/\(A.an P sd).2.1=(A.an Q sd).2.1/\AK (A.an P sd).2.2 (A.an Q sd).2.2/\Cm (A.an Q sd).2.2 N (R-(12+8*sd.length)):=by
 unfold Ar.an at d ⊢;by_cases z:A.ix.Bd=A.j.Ac+1/\A.ix.sd=sd
 ·rw[Ai z,Ai z];exact⟨rfl,rfl,h,I.ai (by omega) (by omega)⟩
 ·rw[Af z]at d;rw[Af z,Af z];by_cases E:(P.an (A.j.Ac+1) sd).1=0
  ·have⟨a1,a2,a3⟩:=h.dd I L E;rw[Af (nn E),Af (nn a1)];exact⟨rfl,rfl,a2,a3⟩
  ·rw[Ai E]at d;exact absurd d E
end
def PD.dl(P:PD):Nat:=P.D.A6.length
def IZ(P:PD):P.Az.length=P.dl:=by
 unfold PD.Az PD.dl;rw[Fq,(LC P.D.A6).length_eq,Fq]
def A2d(P:PD)(nm:gC):(P.au nm).2.dl<=P.dl+1:=by
 unfold PD.dl PD.au CV;split
 ·exact ER _
 ·dsimp only;split
  ·simp
  ·exact ER _
def A2f(P:PD)(f:Nat)(x:gC)(n0 e:Int):(BP P.D P.F f x n0 e).2.1.A6=P.D.A6:=by
 unfold BP;split
 ·dsimp only;split<;>rfl
 ·rfl
def A2e(P:PD)(nm:gC)(l:Bs):(P.av nm l).2.dl=P.dl:=by
 unfold PD.dl PD.av BA;cases lookup P.D.A6 nm with
 | none=>rfl
 | some f=>
  dsimp only
  have h:∀n0 e,(BP {P.D with n:=(bg P.D.n).2.2} P.F f (Ab l) n0 e).2.1.A6=P.D.A6:=λn0 e=>A2f ⟨{P.D with n:=(bg P.D.n).2.2},P.F⟩ f (Ab l) n0 e;split
  ·rw[h]
  ·split
   ·rw[h]
   ·rfl
def UE(P:PD)(nm:gC):(P.ad nm).2.dl=P.dl:=by
 unfold PD.dl PD.ad CN;cases lookup P.D.A6 nm<;>rfl
def UG(P:PD)(nm:gC):(P.aG nm).2.dl<=P.dl:=by
 unfold PD.dl PD.aG Dx;split
 ·exact Ao _
 ·dsimp only;split
  ·dsimp only;rw[B3,BK,Cz];omega
  ·exact Ao _
def UF(P:PD)(oe nm:gC):(P.aR oe nm).2.dl<=P.dl+1:=by
 unfold PD.dl PD.aR D8;cases lookup P.D.A6 oe with
 | none=>exact ER _
 | some f=>
  dsimp only
  split
  ·exact ER _
  ·dsimp only;split
   ·dsimp only
    have:=Ot P.D.A6 (B9 P.D.A6 oe).toNat nm P.D.A6.length;rw[B3];simp;omega
   ·exact ER _
def N4(P:PD)(nm:Bs)(s:Nat)(l:Bs):(P.aI nm s l).2.dl<=P.dl+1:=by
 have d:=A2d P (Ab nm);have h:((P.au (Ab nm)).2.af (Ab nm) s l).2.2.dl=(P.au (Ab nm)).2.dl:=A2e _ _ _;unfold PD.aI;split
 ·exact d
 ·split
  ·rw[h];exact d
  ·rw[UE,h];exact d
def PH:∀(l:gD Bs) (P:PD),(PD.aO l P).2.dl<=P.dl
 | [],P=>Ao _
 | x::r,P=>by
  have d:=UG P (Ab x);unfold PD.aO;split
  ·exact d
  ·exact AP (PH r _) d
def PG:∀(l:gD Bs) (P:PD),(PD.ay l P).2.dl=P.dl
 | [],P=>rfl
 | x::r,P=>by
  have d:=UE P (Ab x);unfold PD.ay;split
  ·exact d
  ·exact(PG r _).trans d
def N5:∀(E:gD (gD Pu)) (d:Int) (h:gD Int) (P:PD),(PD.aq E d h P).2.2.2.dl<=P.dl+E.length/\(PD.aq E d h P).2.2.1.length<=h.length+E.length
 | [],d,h,P=>⟨Ao _,by simp[PD.aq]⟩
 | l::r,d,h,P=>by
  have h1:(P.aK (d+1) l).2.dl<=P.dl+1:=N4 _ _ _ _;have z:PD.aq (l::r) d h P=if (P.aK (d+1) l).1≠0 then ((P.aK (d+1) l).1,d+1,h,(P.aK (d+1) l).2) else PD.aq r (d+1) (h++[d+1]) (P.aK (d+1) l).2:=rfl
  rw[z];split
  ·exact⟨by simp;omega,by simp⟩
  ·have⟨i1,i2⟩:=N5 r (d+1) (h++[d+1]) (P.aK (d+1) l).2;exact⟨by simp;omega,by simp at i2 ⊢;omega⟩
def UH(A:Ar)(P:PD)(l:gD Int):(A.an P l).2.2.dl<=P.dl+2:=by
 have d:(P.an (A.j.Ac+1) l).2.dl<=P.dl+2:=by
  unfold PD.an;have h2:=N4 P Bw (AI AJ) (Cn (A.j.Ac+1) l);split
  ·omega
  ·have h3:=UF (P.aI Bw (AI AJ) (Cn (A.j.Ac+1) l)).2 (Ab Bw) (Ab AJ);omega
 unfold Ar.an;split
 ·exact VQ _ _
 ·split
  ·exact d
  ·exact d
def MJ(A:Ar)(P:PD):(A.aV P).length<=P.dl:=by
 rw[<-IZ];unfold Ar.aV;exact KK _ _
section
variable{P Q:PD}{N R:Nat}{A:Ar}
def AK.aH(h:AK P Q)(E:gD Int)(z:gD (gD Pu))(hc:Cm Q (N+A.AR.length+2*Q.dl+4*z.length+8) (R+Ds z+12+8*(E.length+z.length)))(d:(A.aH P E z).1=0):
 (A.aH Q E z).1=0/\(A.aH P E z).2.1=(A.aH Q E z).2.1/\AK (A.aH P E z).2.2 (A.aH Q E z).2.2/\Cm (A.aH Q E z).2.2 N R:=by
 unfold Ar.aH at d ⊢;dsimp only at d ⊢;by_cases Y:(A.I P).1=0
 ·rw[Af (nn Y)]at d;have⟨a1,a2,a3,a4⟩:=h.I (N:=N+2*Q.dl+4*z.length+8) (hc.ai (by omega) (Ao _)) Y;rw[Af (nn Y),Af (nn a1)];rw[a2]at d ⊢;have d1:(A.I Q).2.2.dl=Q.dl:=by unfold Ar.I;split<;>exact PG _ _
  by_cases W:((A.I Q).2.1.az (A.I P).2.2).1=0
  ·rw[Af (nn W)]at d;have o1:=MJ (A.I Q).2.1 (A.I Q).2.2;have⟨b1,b2,b3⟩:=a3.az (A:=(A.I Q).2.1) (N:=N+Q.dl+4*z.length+8) (a4.ai (by omega) (Ao _)) W;(have d2:((A.I Q).2.1.az (A.I Q).2.2).2.dl<=Q.dl:=by rw[<-d1];exact PH _ _);rw[Af (nn W),Af (nn b1)];by_cases h3:(PD.aq z (A.I Q).2.1.Ac E ((A.I Q).2.1.az (A.I P).2.2).2).1=0
   ·rw[Af (nn h3)]at d;have⟨c1,c2,c3,c4,c5⟩:=AK.aq (N:=N+Q.dl+z.length+8) (R:=R+12+8*(E.length+z.length)) z (A.I Q).2.1.Ac E b2 (b3.ai (by omega) (by omega)) h3;have⟨d3,d4⟩:=N5 z (A.I Q).2.1.Ac E ((A.I Q).2.1.az (A.I Q).2.2).2;rw[Af (nn h3),Af (nn c1)];rw[c2,c3]at d ⊢;obtain⟨I,aD⟩:∃I:Ar,({ (A.I Q).2.1 with Ac:=(PD.aq z (A.I Q).2.1.Ac E ((A.I Q).2.1.az (A.I Q).2.2).2).2.1}:Ar)=I:=⟨_,rfl⟩;rw[aD]at d ⊢;generalize hsg:(PD.aq z (A.I Q).2.1.Ac E ((A.I Q).2.1.az (A.I Q).2.2).2).2.2.1=sg at d d4 ⊢;obtain⟨aB,aA⟩:∃aB,(PD.aq z (A.I Q).2.1.Ac E ((A.I Q).2.1.az (A.I P).2.2).2).2.2.2=aB:=⟨_,rfl⟩;obtain⟨L,O⟩:∃L,(PD.aq z (A.I Q).2.1.Ac E ((A.I Q).2.1.az (A.I Q).2.2).2).2.2.2=L:=⟨_,rfl⟩;rw[aA]at d c4;rw[aA,O];rw[O]at c4 c5 d3;by_cases X:(I.an aB sg).1=0
    ·rw[Af (nn X)]at d;have⟨e1,e2,e3,e4⟩:=c4.cD (A:=I) (sd:=sg) (N:=N+Q.dl+z.length+4) (c5.ai (by omega) (Ao _)) (by omega) X;have d5:=UH I L sg;rw[Af (nn X),Af (nn e1)];rw[e2]at d ⊢;unfold Ar.a8 at d ⊢;by_cases h5:((I.an L sg).2.1.az (I.an aB sg).2.2).1=0
     ·rw[Af (nn h5)]at d;have o2:=MJ (I.an L sg).2.1 (I.an L sg).2.2;have⟨f1,f2,f3⟩:=e3.az (A:=(I.an L sg).2.1) (N:=N+1) (e4.ai (by omega) (Ao _)) h5;have⟨g1,g2,g3⟩:=f2.aJ (N:=N) f3 d;rw[Af (nn h5),Af (nn f1)];exact⟨g1,rfl,g2,g3.ai (Ao _) (by omega)⟩
     ·rw[Ai h5]at d;exact absurd d h5
    ·rw[Ai X]at d;exact absurd d X
   ·rw[Ai h3]at d;exact absurd d h3
  ·rw[Ai W]at d;exact absurd d W
 ·rw[Ai Y]at d;exact absurd d Y
end
def CC(n:DN)(e:Int)(n':DN):Prop:=
 (e≠5/\e≠6/\n'.Bk=n.Bk/\n'.fulls=n.fulls/\n'.Bh=n.Bh)\/(e=5/\n'.Bk=wrap64 (n.Bk+1)/\n'.fulls=n.fulls)\/(e=6/\n'.Bk=wrap64 (n.Bk+1)/\n'.fulls=wrap64 (n.fulls+1)/\n'.Bh=n.Bh)
def CC.C(n:DN){e:Int}(d:e≠5)(h:e≠6):CC n e n:=.inl ⟨d,h,rfl,rfl,rfl⟩
def CC.AH{n E n2:DN}{a e:Int}(h:CC n a E)(I:a=0)(d:CC E e n2):CC n e n2:=by
 subst I;rcases h with⟨_,_,O,W,L⟩|⟨z,_⟩|⟨z,_⟩
 ·unfold CC at d ⊢;rw[O,W,L]at d;exact d
 ·cases z
 ·cases z
def Ky(n:DN):CC n (bg n).2.1 (bg n).2.2:=by
 unfold bg;dsimp only
 split
 ·exact .inr (.inl ⟨rfl,rfl,rfl⟩)
 ·split
  ·exact .inr (.inl ⟨rfl,rfl,rfl⟩)
  ·split
   ·exact .inr (.inl ⟨rfl,rfl,rfl⟩)
   ·exact .inl ⟨by simp,by simp,rfl,rfl,rfl⟩
def HE(n:DN):(bg n).2.1=0\/(bg n).2.1=5:=by
 unfold bg;dsimp only
 split
 ·exact .inr rfl
 ·split
  ·exact .inr rfl
  ·split
   ·exact .inr rfl
   ·exact .inl rfl
section
variable{P:PD}{A:Ar}{J:Jn}{nm oe:gC}
def LK(P:PD)(nm:gC):CC P.D.n (P.au nm).1 (P.au nm).2.D.n:=by
 unfold PD.au CV;split
 ·exact CC.C _ (by simp) (by simp)
 ·have:=Ky P.D.n;dsimp only
  split<;>exact this
def Ni(P:PD)(nm:gC):CC P.D.n (P.ad nm).1 (P.ad nm).2.D.n:=by
 unfold PD.ad CN;split
 ·exact CC.C _ (by simp) (by simp)
 ·exact Ky P.D.n
def Vp(P:PD):CC P.D.n P.aJ.1 P.aJ.2.D.n:=by
 have:=Ky P.D.n;unfold PD.aJ E9;dsimp only
 split<;>exact this
def Vr(P:PD)(nm:gC):CC P.D.n (P.aG nm).1 (P.aG nm).2.D.n:=by
 have:=Ky P.D.n;unfold PD.aG Dx;split
 ·exact CC.C _ (by simp) (by simp)
 ·dsimp only
  split<;>exact this
def A30(P:PD)(oe nm:gC):CC P.D.n (P.aR oe nm).1 (P.aR oe nm).2.D.n:=by
 have:=Ky P.D.n;unfold PD.aR D8;split
 ·exact CC.C _ (by simp) (by simp)
 ·split
  ·exact CC.C _ (by simp) (by simp)
  ·dsimp only
   split<;>exact this
def Vv(D:DS)(F:Nat->FC)(f:Nat)(x:gC)(n0 e:Int)(n:DN)(h:CC n e D.n)(z:e=0\/e=5):CC n (BP D F f x n0 e).1 (BP D F f x n0 e).2.1.n:=by
 unfold BP;split
 ·dsimp only
  rcases z with rfl|rfl
  ·rw[Ai rfl,Ai rfl];rcases h with⟨_,_,I,L,E⟩|⟨d,_⟩|⟨d,_⟩
   ·exact .inr (.inr ⟨rfl,by dsimp only;rw[I],by dsimp only;rw[L],E⟩)
   ·cases d
   ·cases d
  ·rw[Af (by decide),Af (by decide)];exact h
 ·exact h
def A38(P:PD)(nm:gC)(l:Bs):CC P.D.n (P.av nm l).1 (P.av nm l).2.D.n:=by
 have d:=Ky P.D.n;have h:=HE P.D.n;unfold PD.av BA;split
 ·exact CC.C _ (by simp) (by simp)
 ·dsimp only
  split
  ·exact Vv _ _ _ _ _ _ _ d h
  ·split
   ·exact Vv _ _ _ _ _ _ _ d h
   ·exact d
def Nk(P:PD)(nm:gC)(s:Nat)(l:Bs):CC P.D.n (P.af nm s l).2.1 (P.af nm s l).2.2.D.n:=A38 P nm (AT s l)
def Ez{x:Int}(h:¬x≠0):x=0:=by omega
def Nh(P:PD)(nm:Bs)(s:Nat)(l:Bs):CC P.D.n (P.aI nm s l).1 (P.aI nm s l).2.D.n:=by
 unfold PD.aI;split
 ·exact LK P _
 ·rename_i d;split
  ·exact(LK P _).AH (Ez d) (Nk _ _ _ _)
  ·rename_i h;exact((LK P _).AH (Ez d) (Nk _ _ _ _)).AH (Ez h) (Ni _ _)
def Vq:∀(l:gD Bs) (P:PD),CC P.D.n (PD.ay l P).1 (PD.ay l P).2.D.n
 | [],P=>CC.C _ (by simp[PD.ay]) (by simp[PD.ay])
 | nm::r,P=>by
  unfold PD.ay;split
  ·exact Ni P _
  ·rename_i d;exact(Ni P _).AH (Ez d) (Vq r _)
def Nj:∀(l:gD Bs) (P:PD),CC P.D.n (PD.aO l P).1 (PD.aO l P).2.D.n
 | [],P=>CC.C _ (by simp[PD.aO]) (by simp[PD.aO])
 | nm::r,P=>by
  unfold PD.aO;split
  ·exact Vr P _
  ·rename_i d;exact(Vr P _).AH (Ez d) (Nj r _)
def Kx(A:Ar)(P:PD):CC P.D.n (A.I P).1 (A.I P).2.2.D.n:=by
 have:=Vq A.AR P;unfold Ar.I;split
 ·exact this
 ·rename_i d;rw[Ez d]at this;exact this
def Vu(J:Jn)(P:PD):CC P.D.n (J.ax P).1 (J.ax P).2.2.D.n:=by
 unfold Jn.ax;split
 ·exact LK P _
 ·rename_i d;have:=(LK P _).AH (Ez d) (Nk (P.au (Ab (Ah (J.Ac+1)))).2 (Ab (Ah (J.Ac+1))) (AI (Ah (J.Ac+1))) (AQ J.pd));dsimp only
  split
  ·exact this
  ·rename_i h;rw[Ez h]at this;exact this
def Vs(J:Jn)(P:PD)(p:Pu):CC P.D.n (J.aF P p).2.1 (J.aF P p).2.2.2.D.n:=by
 unfold Jn.aF;split
 ·exact CC.C _ (by simp) (by simp)
 ·exact Nk P _ _ _
def A33(J:Jn)(P:PD)(p:Pu):CC P.D.n (J.af P p).2.1 (J.af P p).2.2.2.D.n:=by
 unfold Jn.af;split
 ·split
  ·exact Vu J P
  ·rename_i d;exact(Vu J P).AH (Ez d) (Vs _ _ p)
 ·exact Vs J P p
def A37(A:Ar)(P:PD)(p:Pu):CC P.D.n (A.af P p).2.1 (A.af P p).2.2.2.D.n:=by
 unfold Ar.af;split
 ·exact Kx A P
 ·rename_i d;exact(Kx A P).AH (Ez d) (A33 _ _ p)
def A32(J:Jn)(P:PD):CC P.D.n (J.ad P).1 (J.ad P).2.D.n:=by
 unfold Jn.ad;split
 ·exact CC.C _ (by simp) (by simp)
 ·exact Ni P _
def A36(A:Ar)(P:PD):CC P.D.n (A.ad P).1 (A.ad P).2.2.D.n:=by
 unfold Ar.ad;split
 ·exact Kx A P
 ·rename_i z;have h:=(Kx A P).AH (Ez z) (A32 (A.I P).2.1.j (A.I P).2.2);split
  ·exact h
  ·rename_i d;exact h.AH (Ez d) (Vp _)
def Vt:∀(z:gD (gD Pu)) (h:Int) (d:gD Int) (P:PD),CC P.D.n (PD.aq z h d P).1 (PD.aq z h d P).2.2.2.D.n
 | [],_,_,P=>CC.C _ (by simp[PD.aq]) (by simp[PD.aq])
 | l::r,h,d,P=>by
  unfold PD.aq;split
  ·exact Nh P _ _ _
  ·rename_i E;exact(Nh P _ _ _).AH (Ez E) (Vt r _ _ _)
def A31(P:PD)(d:Int)(sd:gD Int):CC P.D.n (P.an d sd).1 (P.an d sd).2.D.n:=by
 unfold PD.an;split
 ·exact Nh P _ _ _
 ·rename_i h;exact(Nh P _ _ _).AH (Ez h) (A30 _ _ _)
def A35(A:Ar)(P:PD)(sd:gD Int):CC P.D.n (A.an P sd).1 (A.an P sd).2.2.D.n:=by
 have:=A31 P (A.j.Ac+1) sd;unfold Ar.an;split
 ·exact CC.C _ (by simp) (by simp)
 ·split
  ·exact this
  ·rename_i d;rw[Ez d]at this;exact this
def A34(A:Ar)(P:PD):CC P.D.n (A.a8 P).1 (A.a8 P).2.2.D.n:=by
 unfold Ar.a8;split
 ·exact Nj _ P
 ·rename_i d;exact(Nj _ P).AH (Ez d) (Vp _)
def A3Z(A:Ar)(P:PD)(d:gD Int)(h:gD (gD Pu)):CC P.D.n (A.aH P d h).1 (A.aH P d h).2.2.D.n:=by
 unfold Ar.aH;dsimp only
 split
 ·exact Kx A P
 ·rename_i W;have z:=(Kx A P).AH (Ez W) (Nj ((A.I P).2.1.aV (A.I P).2.2) (A.I P).2.2);split
  ·exact z
  ·rename_i L;have E:=z.AH (Ez L) (Vt h (A.I P).2.1.Ac d _);split
   ·exact E
   ·rename_i X;have I:=E.AH (Ez X) (A35 { (A.I P).2.1 with Ac:=(PD.aq h (A.I P).2.1.Ac d ((A.I P).2.1.az (A.I P).2.2).2).2.1} _ (PD.aq h (A.I P).2.1.Ac d ((A.I P).2.1.az (A.I P).2.2).2).2.2.1);split
    ·exact I
    ·rename_i O;exact I.AH (Ez O) (A34 _ _)
def Re(P:PD)(nm:gC):(P.ad nm).1≠6:=by
 unfold PD.ad CN;split
 ·simp
 ·have:=HE P.D.n;dsimp only;omega
def Xj(P:PD):P.aJ.1≠6:=by
 have:=HE P.D.n;unfold PD.aJ E9;dsimp only;omega
def Rk:∀(l:gD Bs) (P:PD),(PD.ay l P).1≠6
 | [],P=>by simp[PD.ay]
 | nm::r,P=>by
  unfold PD.ay;split
  ·exact Re P _
  ·exact Rk r _
def RB(A:Ar)(P:PD):(A.I P).1≠6:=by
 unfold Ar.I;split
 ·exact Rk _ P
 ·simp
def Vl(A:Ar)(P:PD):(A.ad P).1≠6:=by
 unfold Ar.ad;split
 ·exact RB A P
 ·split
  ·unfold Jn.ad;split
   ·simp
   ·exact Re _ _
  ·exact Xj _
end
def BB(P:PD):gD (gD AO):=P.D.AF::P.D.As
structure DI (bd:Int×Int) (P:PD) (pd:gD Pu) (Ad:Nat) (o:Int):Prop where
 DZ:∀s∈BB P,Holds bd (vw P.F s) pd Ad o
 Aq:∀s∈BB P,(s.map (·.2)).Nodup
 Cg:∀s∈BB P,(s.map (·.1)).Nodup
 CH:P.D.A6∈BB P
section
variable{bd:Int×Int}{P P':PD}{pd:gD Pu}{Ad:Nat}{o:Int}{nm:Bs}
def DI.bk(h:DI bd P pd Ad o):Hm P:=⟨h.Aq _ h.CH,h.Cg _ h.CH⟩
def DI.cd(h:DI bd P pd Ad o)(q:gD Pu):DI bd P (pd++q) Ad o:=⟨λs d=>(h.DZ s d).cd q,h.Aq,h.Cg,h.CH⟩
def DI.bj{d:Int}(h:DI bd P pd Ad o)(z:o<=d):DI bd P pd Ad d:=⟨λs E=>(h.DZ s E).bj z,h.Aq,h.Cg,h.CH⟩
def DI.aW{d:Int×Int}(h:DI bd P pd Ad o)(z:Ia bd d):DI d P pd Ad o:=⟨λs E=>(h.DZ s E).aW z,h.Aq,h.Cg,h.CH⟩
def IV{s:gD AO}(d:s∈BB P){e:AO}(z:e∈s):e.2≠P.D.AV:=λh=>P.D.cC (by
 rcases BS.1 d with rfl|d
 ·exact .inr (.inl ⟨e,z,h⟩)
 ·exact .inr (.inr ⟨s,d,e,z,h⟩))
def KZ{F F':Nat->FC}{s:gD AO}(h:∀e∈s,F' e.2=F e.2):vw F' s=vw F s:=by
 funext m
 unfold vw;cases hx:lookup s (Ab m) with
 | none=>rfl
 | some f=>simp[h _ (Eh hx)]
def KY{F:Nat->FC}{s:gD AO}{g:Nat}(z:lookup s (Ab nm)=none)(m:Bs):vw F (s++[(Ab nm,g)]) m=if m=nm then some (F g) else vw F s m:=by
 unfold vw;rw[lookup_append];by_cases d:m=nm
 ·subst d;rw[z];simp[lookup]
 ·have h:¬Ab nm=Ab m:=λe=>d (Gj.1 e).symm;simp[lookup,h,d]
def Holds.bS{V V':View}(h:Holds bd V pd Ad o)(h0:V nm=none)(z:nm=Bw\/∃k,(isNum k=true/\k<=bd.2)/\nm=AG k)(c:FC)(hc:0<=c.2/\c.2<=c.1.length)(hV:∀m,V' m=if m=nm then some c else V m):Holds bd V' pd Ad o:=by
 obtain⟨ix,sg,cl,lo,nb,W,X,hs,g1,g2⟩:=h;have I:∀m,(m=AJ\/(∃x∈sg,m=AG x.1)\/∃n,isNum n=true/\ix.Bd<=n/\m=Ah n)->m≠nm:=by
  rintro m (rfl|⟨x,hx,rfl⟩|⟨n,hn,_,rfl⟩) e
  ·rcases z with z|⟨k,_,z⟩
   ·exact JA (e.trans z)
   ·exact K7 k (z.symm.trans e.symm)
  ·have⟨_,d,L,_⟩:=W.CD x hx;rw[e,h0]at L;cases L
  ·rcases z with z|⟨k,_,z⟩
   ·exact Lo n (e.trans z)
   ·exact Gm n k (e.trans z)
 have E:∀m,m≠nm->V' m=V m:=λm O=>by rw[hV,Af O]
 refine⟨ix,sg,cl,lo,nb,W.bL (λm O=>?_) (λm O=>?_) (λm d L=>?_),X,hs,λn l e=>?_,g2⟩
 ·rw[E m (I m O)];cases hv:V m with
  | none=>exact .inl ⟨rfl,rfl⟩
  | some d=>exact .inr ⟨d,d,rfl,rfl,rfl,.inl rfl⟩
 ·by_cases e:m=nm
  ·subst e;rcases z with rfl|⟨k,Y,rfl⟩
   ·exact Ti bd
   ·exact Th Y.1 Y.2
  ·rw[E m e]at O;exact W.Ex m O
 ·by_cases e:m=nm
  ·rw[hV,Ai e]at L;cases L;exact hc
  ·rw[E m e]at L;exact W.Eg m d L
 ·have⟨d,d1,d2,d3⟩:=g1 n l e;have hq:=(W.Ac n l e).1;exact⟨d,by rw[E _ (I _ (.inr (.inr ⟨n,hq.1,hq.2,rfl⟩)))];exact d1,d2,d3⟩
structure Extra (P:PD) (nm:Bs) (P':PD):Prop where
 EC:∀f,f≠P.D.AV->P'.F f=P.F f
 Eg:0<=(P'.F P.D.AV).2/\(P'.F P.D.AV).2<=(P'.F P.D.AV).1.length
 AF:P'.D.AF=P.D.AF
 da:(P'.D.A6=P.D.A6/\P'.D.As=P.D.As)\/(lookup P.D.A6 (Ab nm)=none/\P'.D.A6=P.D.A6++[(Ab nm,P.D.AV)]/\P'.D.As=P.D.As++[P.D.A6++[(Ab nm,P.D.AV)]])
def DI.bS(h:DI bd P pd Ad o)(I:Extra P nm P')(W:nm=Bw\/∃k,(isNum k=true/\k<=bd.2)/\nm=AG k):DI bd P' pd Ad o:=by
 have oe:∀s∈BB P,vw P'.F s=vw P.F s:=λs d=>KZ λe L=>I.EC _ (IV d L);rcases I.da with⟨d1,d2⟩|⟨d0,d1,d2⟩
 ·have es:BB P'=BB P:=by unfold BB;rw[I.AF,d2]
  exact⟨λs d=>by rw[es]at d;rw[oe s d];exact h.DZ s d,by rw[es];exact h.Aq,by rw[es];exact h.Cg,by rw[es,d1];exact h.CH⟩
 ·have es:BB P'=BB P++[P.D.A6++[(Ab nm,P.D.AV)]]:=by unfold BB;rw[I.AF,d2];rfl
  have z:∀s,s∈BB P'->s∈BB P\/s=P.D.A6++[(Ab nm,P.D.AV)]:=λs d=>by
   rw[es]at d;rcases AX.1 d with d|d
   ·exact .inl d
   ·exact .inr (by simpa using d)
  refine⟨λs d=>?_,λs d=>?_,λs d=>?_,by rw[es,d1];simp⟩
  ·rcases z s d with d|rfl
   ·rw[oe s d];exact h.DZ s d
   ·refine(h.DZ _ h.CH).bS (nm:=nm) (c:=P'.F P.D.AV) (by unfold vw;rw[d0];rfl) W I.Eg λm=>?_;rw[KY d0,oe _ h.CH]
  ·rcases z s d with d|rfl
   ·exact h.Aq s d
   ·rw[EG,Hb];refine⟨h.Aq _ h.CH,by simp,λa O b E=>?_⟩;simp at E;subst E;obtain⟨e,L,rfl⟩:=Cl.1 O;exact IV h.CH L
  ·rcases z s d with d|rfl
   ·exact h.Cg s d
   ·rw[EG,Hb];refine⟨h.Cg _ h.CH,by simp,λa O b E=>?_⟩;simp at E;subst E;obtain⟨e,L,rfl⟩:=Cl.1 O;exact(IN.1 d0) e L
end
section
variable{bd:Int×Int}{P P':PD}{pd:gD Pu}{Ad:Nat}{o:Int}{nm:Bs}
def Lz(P:PD)(nm:Bs):Extra P nm (P.au (Ab nm)).2/\((P.au (Ab nm)).1=0->lookup (P.au (Ab nm)).2.D.A6 (Ab nm)=some P.D.AV):=by
 unfold PD.au CV;by_cases E:Ab nm=ByteArray.empty\/B9 P.D.A6 (Ab nm)≥0
 ·rw[Ai E];exact⟨⟨λf d=>by simp[upd,d],by simp[upd],rfl,.inl ⟨rfl,rfl⟩⟩,λh=>by cases h⟩
 ·rw[Af E];have I:lookup P.D.A6 (Ab nm)=none:=(JF _ _).1 (by (have:¬B9 P.D.A6 (Ab nm)≥0:=λe=>E (.inr e));omega);dsimp only
  by_cases z:(bg P.D.n).1=true
  ·rw[Ai z];refine⟨⟨λf d=>by simp[upd,d],by simp[upd],rfl,.inr ⟨I,rfl,rfl⟩⟩,λ_=>?_⟩;dsimp only
   rw[lookup_append,I];simp[lookup]
  ·rw[Af z];exact⟨⟨λf d=>by simp[upd,d],by simp[upd],rfl,.inl ⟨rfl,rfl⟩⟩,λh=>absurd (Hi h) z⟩
def UM(D:DS)(F:Nat->FC)(f:Nat)(x:gC)(n0 e:Int):(BP D F f x n0 e).2.1.A6=D.A6/\(BP D F f x n0 e).2.1.AF=D.AF/\(BP D F f x n0 e).2.1.As=D.As/\∃j:Nat,(BP D F f x n0 e).2.2=upd F f ((F f).1++x.data.toList.take j,(F f).2):=by
 unfold BP;split
 ·dsimp only
  refine⟨?_,?_,?_,_,rfl⟩<;>split<;>rfl
 ·exact⟨rfl,rfl,rfl,_,rfl⟩
def J2{P:PD}{nm:gC}{f:Nat}(l:Bs)(h:lookup P.D.A6 nm=some f):(P.av nm l).2.D.A6=P.D.A6/\(P.av nm l).2.D.AF=P.D.AF/\(P.av nm l).2.D.As=P.D.As/\
 ((P.av nm l).2.F=P.F\/∃j:Nat,(P.av nm l).2.F=upd P.F f ((P.F f).1++l.take j,(P.F f).2)):=by
 unfold PD.av BA;rw[h];dsimp only
 have d:(Ab l).data.toList=l:=by simp[Ab]
 split
 ·have⟨a1,a2,a3,j,a4⟩:=UM {P.D with n:=(bg P.D.n).2.2} P.F f (Ab l) (Ab l).size (bg P.D.n).2.1;exact⟨a1,a2,a3,.inr ⟨j,by rw[a4,d]⟩⟩
 ·split
  ·have⟨a1,a2,a3,j,a4⟩:=UM {P.D with n:=(bg P.D.n).2.2} P.F f (Ab l) ((bg P.D.n).2.2.BG % (Ab l).size) (bg P.D.n).2.1;exact⟨a1,a2,a3,.inr ⟨j,by rw[a4,d]⟩⟩
  ·exact⟨rfl,rfl,rfl,.inl rfl⟩
def Jf{P:PD}{nm:gC}{f:Nat}(h:lookup P.D.A6 nm=some f):(P.ad nm).2.D.A6=P.D.A6/\(P.ad nm).2.D.AF=P.D.AF/\(P.ad nm).2.D.As=P.D.As/\
 ((P.ad nm).2.F=P.F\/(P.ad nm).2.F=upd P.F f ((P.F f).1,(P.F f).1.length)):=by
 unfold PD.ad CN;rw[h];dsimp only
 refine⟨rfl,rfl,rfl,?_⟩;split
 ·exact .inr rfl
 ·exact .inl rfl
def Extra.av(h:Extra P nm P')(E:lookup P'.D.A6 (Ab nm)=some P.D.AV)(l:Bs):Extra P nm (P'.av (Ab nm) l).2:=by
 have⟨a1,a2,a3,d⟩:=J2 l E;refine⟨λf z=>?_,?_,a2.trans h.AF,by rw[a1,a3];exact h.da⟩
 ·rcases d with d|⟨j,d⟩
  ·rw[d];exact h.EC f z
  ·rw[d];simp[upd,z];exact h.EC f z
 ·have:=h.Eg;rcases d with d|⟨j,d⟩
  ·rw[d];exact this
  ·rw[d];simp only[upd,Cq,B3];omega
def Extra.ad(h:Extra P nm P')(E:lookup P'.D.A6 (Ab nm)=some P.D.AV):Extra P nm (P'.ad (Ab nm)).2:=by
 have⟨a1,a2,a3,d⟩:=Jf E;refine⟨λf z=>?_,?_,a2.trans h.AF,by rw[a1,a3];exact h.da⟩
 ·rcases d with d|d
  ·rw[d];exact h.EC f z
  ·rw[d];simp[upd,z];exact h.EC f z
 ·have:=h.Eg;rcases d with d|d
  ·rw[d];exact this
  ·rw[d];simp only[upd,Cq];omega
def Ks(P:PD)(nm:Bs)(s:Nat)(l:Bs):Extra P nm (P.aI nm s l).2/\((P.aI nm s l).1=0->lookup (P.aI nm s l).2.D.A6 (Ab nm)=some P.D.AV/\Cb ((P.aI nm s l).2.F P.D.AV)):=by
 have⟨e1,e2⟩:=Lz P nm;unfold PD.aI;by_cases z:(P.au (Ab nm)).1=0
 ·rw[Af (nn z)];have I:=e2 z;have O:=e1.av I (AT s l);have d:lookup ((P.au (Ab nm)).2.av (Ab nm) (AT s l)).2.D.A6 (Ab nm)=some P.D.AV:=by rw[(J2 (AT s l) I).1];exact I
  have W:((P.au (Ab nm)).2.af (Ab nm) s l).2.2=((P.au (Ab nm)).2.av (Ab nm) (AT s l)).2:=rfl;by_cases L:((P.au (Ab nm)).2.af (Ab nm) s l).2.1=0
  ·rw[Af (nn L),W];refine⟨O.ad d,λE=>?_⟩;have⟨a1,_,_,_⟩:=Jf d;refine⟨by rw[a1];exact d,?_⟩;unfold PD.ad CN at E ⊢;rw[d]at E ⊢;dsimp only at E ⊢;rw[Ai E];simp[upd,Cb]
  ·rw[Ai L];exact⟨O,λh=>absurd h L⟩
 ·rw[Ai z];exact⟨e1,λh=>absurd h z⟩
def DI.aI(h:DI bd P pd Ad o)(d:nm=Bw\/∃k,(isNum k=true/\k<=bd.2)/\nm=AG k)(s:Nat)(l:Bs):DI bd (P.aI nm s l).2 pd Ad o:=h.bS (Ks P nm s l).1 d
def DI.aq:∀(I:gD (gD Pu)) (d:Int) (E:gD Int) {P:PD},DI bd P pd Ad o->0<=d->d+I.length<=4611686018427387904->d+I.length<=bd.2->DI bd (PD.aq I d E P).2.2.2 pd Ad o
 | [],d,E,P,h,_,_,_=>h
 | l::r,d,E,P,h,h0,h1,h2=>by
  simp only[CA]at h1 h2;have z:PD.aq (l::r) d E P=if (P.aK (d+1) l).1≠0 then ((P.aK (d+1) l).1,d+1,E,(P.aK (d+1) l).2) else PD.aq r (d+1) (E++[d+1]) (P.aK (d+1) l).2:=rfl
  have L:DI bd (P.aK (d+1) l).2 pd Ad o:=h.aI (.inr ⟨d+1,⟨by unfold isNum;simp;omega,by omega⟩,rfl⟩) _ _;rw[z];split
  ·exact L
  ·exact DI.aq r (d+1) _ L (by omega) (by omega) (by omega)
def DI.cE(h:DI bd P pd Ad o)(nm:gC):DI bd (P.ad nm).2 pd Ad o:=by
 cases hx:lookup P.D.A6 nm with
 | none=>
  have e:(P.ad nm).2=P:=by unfold PD.ad CN;rw[hx]
  rw[e];exact h
 | some f=>
  have⟨a1,a2,a3,d⟩:=Jf hx;have es:BB (P.ad nm).2=BB P:=by unfold BB;rw[a2,a3]
  refine⟨λs E=>?_,by rw[es];exact h.Aq,by rw[es];exact h.Cg,by rw[es,a1];exact h.CH⟩;rw[es]at E;rcases d with d|d
  ·rw[d];exact h.DZ s E
  ·refine(h.DZ s E).bL λm=>?_;unfold vw;cases hk:lookup s (Ab m) with
   | none=>exact⟨λc z=>by simp at z,λ_=>rfl⟩
   | some g=>
    refine⟨λc z=>?_,λI=>by simp at I⟩;simp at z;subst z;rw[d];by_cases e:g=f
    ·subst e;exact⟨_,rfl,by simp[upd],.inr (by simp[upd,Cb])⟩
    ·exact⟨P.F g,by simp[upd,e],rfl,.inl rfl⟩
def DI.ay:∀(l:gD Bs) {P:PD},DI bd P pd Ad o->DI bd (PD.ay l P).2 pd Ad o
 | [],P,h=>h
 | x::r,P,h=>by
  have d:=h.cE (Ab x);unfold PD.ay;split
  ·exact d
  ·exact DI.ay r d
def DI.I{A:Ar}(h:DI bd P pd Ad o):DI bd (A.I P).2.2 pd Ad o:=by
 unfold Ar.I;split
 ·exact h.ay _
 ·exact h.ay _
def DI.eC(h:DI bd P pd Ad o):DI bd P.aJ.2 pd Ad o:=by
 unfold PD.aJ E9;dsimp only
 split
 ·have z:=h.CH;exact⟨λs d=>by simp[BB]at d;subst d;exact h.DZ _ z,λs d=>by simp[BB]at d;subst d;exact h.Aq _ z,λs d=>by simp[BB]at d;subst d;exact h.Cg _ z,by simp[BB]⟩
 ·exact⟨h.DZ,h.Aq,h.Cg,h.CH⟩
end
end
end Go.Proofs.YtodcnkbblippnaaGreatDoor
