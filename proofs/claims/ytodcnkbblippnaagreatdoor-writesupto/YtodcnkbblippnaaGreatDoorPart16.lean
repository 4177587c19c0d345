/- Part 16 of a proof: walks of the program. -/
import Derived.Test.YtodcnkbblippnaaGreatDoorPart15
namespace Go.Proofs.YtodcnkbblippnaaGreatDoor
set_option maxRecDepth 100000
set_option maxHeartbeats 32000000
set_option linter.defProp false
open Go.Proofs.Tryz
section
open Go.RowKit
def OY{x y:Int}:Ch x y<0↔x<y:=by
 unfold Ch;by_cases h:x<y
 ·simp[h]
 ·rw[Ae h];split<;>simp<;>omega
def Kl:∀ {l:List Int},Cr Ch l=true↔l.Pairwise (· < ·)
 | []=>by simp[Cr]
 | [x]=>by simp[Cr]
 | x::y::r=>by
  have O:=@Kl (y::r);simp only[Cr,FZ,DO,OY,O];constructor
  ·rintro⟨L,I⟩;refine Dn.2 ⟨λz d=>?_,I⟩;rcases BX.1 d with rfl|d
   ·exact L
   ·exact Int.lt_trans L ((Dn.1 I).1 z d)
  ·intro h;have E:=Dn.1 h;exact⟨E.1 y (BQ ..),E.2⟩
def Ku{α:Type}[DecidableEq α]:∀ {l l':List α},l.Nodup->(∀x∈l,x∈l')->l.length<=l'.length
 | [],l',_,_=>by simp
 | x::r,l',h,hs=>by
  have d:=MT.1 h;have E:=hs x (BQ ..);have ih:=Ku (l':=l'.erase x) d.2 λy z=>(A3J (λe=>d.1 (by subst e;exact z))).2 (hs y (BW _ z))
  have hl:=A3M E;have:0<l'.length:=A3L E;simp only[Cq];omega
def CE:Int->List (List Pu)->List (Int×List Pu)
 | _,[]=>[]
 | last,l::r=>(last+1,l):: CE (last+1) r
def GH:∀ {l:List (List Pu)} {last:Int} {x:Int×List Pu},x∈CE last l->last<x.1/\x.1<=last+l.length/\x.2∈l
 | [],_,_,h=>by cases h
 | a::r,last,x,h=>by
  rcases BX.1 h with rfl|h
  ·simp;omega
  ·obtain⟨h1,h2,d⟩:=GH h;simp only[Cq];exact⟨by omega,by omega,BW _ d⟩
def O3:∀ {l:List (List Pu)} {last:Int},((CE last l).map (·.1)).Pairwise (· < ·)
 | [],_=>by simp[CE]
 | a::r,last=>by
  simp only[CE,HC];refine Dn.2 ⟨λz h=>?_,O3⟩;obtain⟨x,d,rfl⟩:=CD.1 h;exact(GH d).1
def M1:∀ {l:List (List Pu)} {last:Int},(CE last l).length=l.length
 | [],_=>rfl
 | a::r,last=>by simp[CE,M1]
def O4:∀ {l:List (List Pu)} {last:Int},AG (CE last l)=l.flatten
 | [],_=>rfl
 | a::r,last=>by
  have:=@O4 r (last+1);unfold AG at this ⊢;simp[CE,this]
def Df(l:List (List Pu)):Nat:=(l.map λx=>17*x.length+4).sum
section
variable {P P':PD} {A:Ar} {sg cl:List (Int×List Pu)} {ol:Option (List Pu)} {N R:Nat}
def Cm.an:∀(fresh:List (List Pu)) (last:Int) (kept:List Int) {P:PD},Cm P (N+3*fresh.length) (R+Df fresh)->0<=last->last+fresh.length<=4611686018427387904->
 (∀n,isNum n=true->last<n->P.bs (AJ n)=none)->
 (PD.an fresh last kept P).1=0/\(PD.an fresh last kept P).2.1=last+fresh.length/\(PD.an fresh last kept P).2.2.1=kept++(CE last fresh).map (·.1)/\Cm (PD.an fresh last kept P).2.2.2 N R/\
  (∀x∈CE last fresh,(PD.an fresh last kept P).2.2.2.bs (AJ x.1)=some (AS (AI (AJ x.1)) (Cf x.2)))/\
  ∀m,(∀x∈CE last fresh,m≠AJ x.1)->(PD.an fresh last kept P).2.2.2.bs m=P.bs m
 | [],last,kept,P,hc,h0,h1,hn=>⟨rfl,by simp[PD.an],by simp[PD.an,CE],by simpa[PD.an,Df] using hc,⟨λx z=>by simp[CE]at z,λm _=>rfl⟩⟩
 | l::r,last,kept,P,hc,h0,h1,hn=>by
  simp only[Cq]at h1;have h:isNum (last+1)=true:=by unfold isNum;simp;omega
  have d:Df (l::r)=(17*l.length+4)+Df r:=by simp[Df]
  obtain⟨a1,a2,I⟩:=Cm.aG (N:=N+3*r.length) (R:=R+Df (l::r)) (nm:=AJ (last+1)) (hc.ad (by simp;omega) (Ao _)) (hn _ h (by omega)) (Xh _) (AI (AJ (last+1))) (Cf l) (by rw[IN,d];omega);rw[IN]at a2;have O:=a2.ad (N':=N+3*r.length) (R':=R+Df r) (Ao _) (by rw[d];omega);obtain⟨b1,b2,b3,b4,b5,W⟩:=Cm.an r (last+1) (kept++[last+1]) O (by omega) (by omega) λn X hlt=>by
   (have E:AJ n≠AJ (last+1):=λe=>by have:=Kv X h e;omega);rw[I,Ae E];exact hn n X (by omega)
  have e:PD.an (l::r) last kept P=PD.an r (last+1) (kept++[last+1]) (P.aH (last+1) l).2:=by
   conv=>lhs;unfold PD.an
   rw[Ae (by unfold PD.aH;simp[a1])]
  have e2:(P.aH (last+1) l).2=(P.aG (AJ (last+1)) (AI (AJ (last+1))) (Cf l)).2:=rfl;rw[e,e2];refine⟨b1,by rw[b2];simp only[Cq];omega,by rw[b3];simp[CE],b4,λx z=>?_,λm hm=>?_⟩
  ·rcases BX.1 z with rfl|z
   ·dsimp only
    rw[W _ λy Y e=>?_,I,Ai rfl];have Y:=GH Y;(have L:isNum y.1=true:=by unfold isNum;simp;omega);have:=Kv h L e;omega
   ·exact b5 x z
  ·rw[W m λx z=>hm x (BW _ z),I,Ae (hm _ (BQ ..))]
def IQ{nm:Bs}:nm∈A.aS P↔P.bs nm≠none/\nm∉A.Az:=by
 unfold Ar.aS;rw[Hg,H6];simp
def Cm.ax(E:Cm P N R){K M:Nat}(hK:(A.aS P).length<=K)(hN:N=M+K):(A.ax P).1=0/\Cm (A.ax P).2 M R/\∀m,(A.ax P).2.bs m=if m∈A.Az then P.bs m else none:=by
 obtain⟨L,I,O⟩:=Cm.aL (N:=M) (A.aS P) (E.ad (by omega) (Ao _)) (US HG E.cM) λm d=>(IQ.1 d).1
 refine⟨L,I,λm=>?_⟩;show (PD.aL (A.aS P) P).2.bs m=_;rw[O];by_cases d:m∈A.Az
 ·rw[Ae (λh=>(IQ.1 h).2 d),Ai d]
 ·rw[Ae d];by_cases z:P.bs m=none
  ·rw[z];simp
  ·rw[Ai (IQ.2 ⟨z,d⟩)]
def Cm.ak(hc:Cm P (N+4) R)(d:Int)(segs:List Int)(E:P.bs Bv=none)(hR:12+8*segs.length<=R):
 (P.ak d segs).1=0/\Cm (P.ak d segs).2 N (R-(12+8*segs.length))/\∀m,(P.ak d segs).2.bs m=if m=AK then some (AS (AI AK) (Cj d segs)) else P.bs m:=by
 have O:(Cj d segs).length=8+8*segs.length:=by unfold Cj;rw[Ba,CL,JL]
 obtain⟨W,X,I⟩:=Cm.aG (N:=N+1) hc E (by simp[Bv]) (AI AK) (Cj d segs) (by omega);obtain⟨L,Y,b3⟩:=Cm.fM (N:=N) (nm:=AK) X (by rw[I,Ai rfl]) (by simp[AK]) J3.symm;unfold PD.ak;rw[Ae (by simp[W])];refine⟨L,by have:=Y;rw[O]at this;exact this.ad (Ao _) (by omega),λm=>?_⟩;rw[b3];by_cases h:m=AK
 ·simp[h]
 ·rw[Ae h,Ae h];by_cases z:m=Bv
  ·rw[Ai z,z,E]
  ·rw[Ae z,I,Ae z]
def Lay.gf(h:Lay P A sg cl ol){x:Int×List Pu}(d:x∈sg):P.bs (AJ x.1)≠none:=by rw[(h.Cy x d).2];simp
def Lay.cU(h:Lay P A sg cl ol){x:Int×List Pu}(d:x∈sg):isNum x.1=true:=h.Ea.segs _ (by rw[<-h.segs];exact Ed d)
def Lay.cZ(h:Lay P A sg cl ol){x:Int×List Pu}(d:x∈sg):x.1<=A.Ac:=h.Ey.2 _ (h.cU d) (h.gf d)
def Lay.aJ(h:Lay P A sg cl ol){K:Nat}(W:List (Int×List Pu))(fresh:List (List Pu))(hc:Cm P (N+A.AR.length+K+3*fresh.length+8+A.j.Av.length+sg.length+fresh.length) (R+Df fresh+12+8*(W.length+fresh.length)))(hK:P.Az.length<=K)(aA:∀x∈W,x∈sg)(aO:(W.map (·.1)).Pairwise (· < ·))(hf:∀l∈fresh,(∀p∈l,Bq p)/\Cr Ck l=true)(hn:isNum (A.j.Ac+1)=true)(a1:A.Ac+fresh.length<=4611686018427387904):
 (A.aJ P (W.map (·.1)) fresh).1=0/\(A.aJ P (W.map (·.1)) fresh).2.1=⟨⟨A.j.Ac+1,(W++CE A.Ac fresh).map (·.1)⟩,⟨[],A.j.Ac,0,none⟩,A.Ac+fresh.length,[]⟩/\Cm (A.aJ P (W.map (·.1)) fresh).2.2 N R/\
  Lay (A.aJ P (W.map (·.1)) fresh).2.2 (A.aJ P (W.map (·.1)) fresh).2.1 (W++CE A.Ac fresh) [] none/\
  (∀m,(A.aJ P (W.map (·.1)) fresh).2.2.bs m≠none->m∈AK::(W++CE A.Ac fresh).map λx=>AJ x.1):=by
 obtain⟨s1,s2,s3,s4,s5⟩:=h.I (N:=N+K+3*fresh.length+8+A.j.Av.length+sg.length+fresh.length) (R:=R+Df fresh+12+8*(W.length+fresh.length)) (hc.ad (by omega) (Ao _));have aM:(({A with AR:=[]}:Ar).aS (A.I P).2.2).length<=K:=by
  refine AQ ?_ hK;refine Ku (US HG s3.cM) λm L=>?_;rw[H6,<-s4];exact(IQ.1 L).1
 obtain⟨w1,w2,w3⟩:=Cm.ax (A:={A with AR:=[]}) s3 (K:=K) (M:=N+3*fresh.length+8+A.j.Av.length+sg.length+fresh.length) aM (by omega);have I:∀m,m∈({A with AR:=[]}:Ar).Az↔m=AK\/(∃n∈A.j.Av,m=Ah n)\/∃x∈sg,m=AJ x.1:=λm=>by
  unfold Ar.Az;dsimp only
  rw[<-h.segs];simp[eq_comm]
 have aK:∀n,isNum n=true->A.Ac<n->(({A with AR:=[]}:Ar).ax (A.I P).2.2).2.bs (AJ n)=none:=λn hk hlt=>by
  rw[w3];split
  ·rw[s4];cases d:P.bs (AJ n) with
   | none=>rfl
   | some c=>have:=h.Ey.2 n hk (by rw[d];simp);omega
  ·rfl
 obtain⟨g1,g2,g3,g4,g5,g6⟩:=Cm.an (N:=N+8+A.j.Av.length+sg.length+fresh.length) (R:=R+12+8*(W.length+fresh.length)) fresh A.Ac (W.map (·.1)) (w2.ad (by omega) (by omega)) h.Ey.1 a1 aK;generalize a3:(({A with AR:=[]}:Ar).ax (A.I P).2.2).2=P1 at w3 aK g1 g2 g3 g4 g5 g6;generalize a4:(PD.an fresh A.Ac (W.map (·.1)) P1).2.2.2=P2 at g4 g5 g6;obtain⟨X,aD⟩:∃X,W++CE A.Ac fresh=X:=⟨_,rfl⟩;have aJ:X.map (·.1)=W.map (·.1)++(CE A.Ac fresh).map (·.1):=by rw[<-aD,EV]
 have aW:X.length=W.length+fresh.length:=by rw[<-aD,Ba,M1]
 have aP:P2.bs Bv=none:=by
  rw[g6 _ λx _=>(LF x.1).symm,w3,Ae];rw[I];rintro (e|⟨n,_,e⟩|⟨x,_,e⟩)
  ·exact J3 e.symm
  ·exact KE n e.symm
  ·exact LF x.1 e.symm
 have aB:∀x∈X,isNum x.1=true:=λx d=>by
  rw[<-aD]at d;rcases AY.1 d with d|d
  ·exact h.cU (aA x d)
  ·have:=GH d;have:=h.Ey.1;unfold isNum;simp;omega
 have aY:∀x∈X,x.1<=A.Ac+fresh.length:=λx d=>by
  rw[<-aD]at d;rcases AY.1 d with d|d
  ·have:=h.cZ (aA x d);omega
  ·have:=GH d;omega
 have aH:(X.map (·.1)).Pairwise (· < ·):=by
  rw[aJ];refine Ew.2 ⟨aO,O3,λa ha b hb=>?_⟩;obtain⟨x,d,rfl⟩:=CD.1 ha;obtain⟨y,hy,rfl⟩:=CD.1 hb;have h1:=h.cZ (aA x d);have Y:=GH hy;omega
 have aF:∀x∈X,((∀p∈x.2,Bq p)/\Cr Ck x.2=true)/\P2.bs (AJ x.1)=some (AS (AI (AJ x.1)) (Cf x.2)):=λx d=>by
  rw[<-aD]at d;rcases AY.1 d with d|d
  ·have a0:=h.Cy x (aA x d);refine⟨a0.1,?_⟩;rw[g6 _ λy hy e=>?_,w3,Ai ((I _).2 (.inr (.inr ⟨x,aA x d,rfl⟩))),s4,a0.2];have Y:=GH hy;have h3:=h.Ey.1;have:=Kv (h.cU (aA x d)) (by unfold isNum;simp;omega) e;have h1:=h.cZ (aA x d);omega
  ·exact⟨hf _ (GH d).2.2,g5 x d⟩
 have aN:∃aE,(({A with AR:=[],Ac:=A.Ac+fresh.length}:Ar).ak P2 (X.map (·.1)))=(0,⟨⟨A.j.Ac+1,X.map (·.1)⟩,⟨[],A.j.Ac,0,none⟩,A.Ac+fresh.length,[]⟩,aE)/\Cm aE (N+4+A.j.Av.length+sg.length+fresh.length) R/\((aE.bs AK=none/\A.j.Ac=0/\X=[])\/aE.bs AK=some (AS (AI AK) (Cj (A.j.Ac+1) (X.map (·.1)))))/\∀m,m≠AK->aE.bs m=P2.bs m:=by
  unfold Ar.ak;dsimp only
  by_cases z:A.ix.B9=A.j.Ac+1/\A.ix.segs=X.map (·.1)
  ·rw[Ai z];have aR:cl=[]:=by
    cases aR:cl with
    | nil=>rfl
    | cons x r=>
     (have d:x∈cl:=by rw[aR];exact BQ ..);have h1:=h.ER.1 x d;have Y:=(h.CO x d).1.2;have:=z.1;omega
   have a2:ol=none:=by
    cases ol with
    | none=>rfl
    | some l=>have:=h.ER.2 (by simp);have:=z.1;omega
   subst aR a2;have hj:A.j=⟨[],A.j.Ac,0,none⟩:=by
    have h1:=h.AE;have Y:=h.Gx;(have e:∀j:Jn,j.AE=none->j.Av=[]->j.puts=0->j=⟨[],j.Ac,0,none⟩:=λj a b c=>by cases j;simp_all);exact e _ h1.1 (by simpa using h1.2) (by simpa[AG] using Y)
   have hi:A.ix=⟨A.j.Ac+1,X.map (·.1)⟩:=by
    have e:∀i:Ix,i=⟨i.B9,i.segs⟩:=λi=>rfl;rw[e A.ix,z.1,z.2]
   refine⟨P2,?_,g4.ad (by omega) (by omega),?_,λ_ _=>rfl⟩
   ·conv=>lhs;rw[hj,hi]
   ·rw[g6 _ λx _=>(Jw x.1).symm,w3,Ai ((I _).2 (.inl rfl)),s4];rcases h.ix with⟨h1,Y⟩|Y
    ·rw[Y]at z;exact .inl ⟨h1,by have:=z.1;dsimp only at this;omega,by simpa using z.2⟩
    ·exact .inr (by rw[Y,z.1,z.2])
  ·rw[Ae z];obtain⟨t1,t2,t3⟩:=Cm.ak (N:=N+4+A.j.Av.length+sg.length+fresh.length) (R:=R+12+8*X.length) (g4.ad (by omega) (by rw[aW];omega)) (A.j.Ac+1) (X.map (·.1)) aP (by simp);rw[Ae (by simp[t1])];refine⟨_,rfl,t2.ad (Ao _) (by simp;omega),.inr (by rw[t3,Ai rfl]),λm L=>by rw[t3,Ae L]⟩
 obtain⟨aE,t1,t2,t3,t4⟩:=aN;have aV:∀m,aE.bs m≠none->m=AK\/(∃n∈A.j.Av,m=Ah n)\/(∃x∈sg,m=AJ x.1)\/∃x∈CE A.Ac fresh,m=AJ x.1:=λm L=>by
  by_cases e:m=AK
  ·exact .inl e
  ·rw[t4 m e]at L;by_cases e2:∃x∈CE A.Ac fresh,m=AJ x.1
   ·exact .inr (.inr (.inr e2))
   ·rw[g6 m λx d e3=>e2 ⟨x,d,e3⟩,w3]at L;by_cases e3:m∈({A with AR:=[]}:Ar).Az
    ·rcases(I m).1 e3 with h|h|h
     ·exact .inl h
     ·exact .inr (.inl h)
     ·exact .inr (.inr (.inl h))
    ·rw[Ae e3]at L;exact absurd rfl L
 obtain⟨aG,aI⟩:∃aG:Ar,(⟨⟨A.j.Ac+1,X.map (·.1)⟩,⟨[],A.j.Ac,0,none⟩,A.Ac+fresh.length,[]⟩:Ar)=aG:=⟨_,rfl⟩;have E:∀m,m∈aG.Az↔m=AK\/∃x∈X,m=AJ x.1:=λm=>by
  rw[<-aI];unfold Ar.Az;dsimp only;simp[eq_comm]
 have aQ:(aG.aS aE).length<=1+A.j.Av.length+sg.length+fresh.length:=by
  have h1:(aG.aS aE).length<=(AK::(A.j.Av.map Ah++(sg.map (λx=>AJ x.1)++(CE A.Ac fresh).map λx=>AJ x.1))).length:=
   Ku (US HG t2.cM) λm L=>by
    rcases aV m (IQ.1 L).1 with h|⟨n,h1,Y⟩|⟨n,h1,Y⟩|⟨n,h1,Y⟩
    ·subst h;exact BQ ..
    ·subst Y;exact BW _ (FJ _ (Ed h1))
    ·subst Y;exact BW _ (Hh _ (FJ _ (CD.2 ⟨n,h1,rfl⟩)))
    ·subst Y;exact BW _ (Hh _ (Hh _ (CD.2 ⟨n,h1,rfl⟩)))
  simp only[Cq,Ba,HD,M1]at h1;omega
 obtain⟨v1,v2,v3⟩:=Cm.ax (A:=aG) (t2.ad (N':=N+1+(1+A.j.Av.length+sg.length+fresh.length)) (by omega) (Ao _)) aQ (M:=N+1) (by omega);obtain⟨d1,d2,d3⟩:=Cm.dO (N:=N) v2;obtain⟨aS,aX⟩:∃aS,(aG.ax aE).2.aF.2=aS:=⟨_,rfl⟩;have aZ:A.aJ P (W.map (·.1)) fresh=(0,aG,aS):=by
  unfold Ar.aJ;dsimp only
  rw[Ae (by simp[s1]),s2,Ae (by simp[w1]),a3];dsimp only
  rw[Ae (by simp[g1]),g2,g3,a4,<-aJ,t1,aI];dsimp only
  rw[Ae (by simp)];unfold Ar.a6;rw[Ae (by simp[v1]),d1,aX]
 rw[aX]at d2 d3;have O:∀m,aS.bs m=if m∈aG.Az then aE.bs m else none:=λm=>by rw[d3,v3]
 have aL:∀x∈X,aS.bs (AJ x.1)=some (AS (AI (AJ x.1)) (Cf x.2)):=λx d=>by
  rw[O,Ai ((E _).2 (.inr ⟨x,d,rfl⟩)),t4 _ (Jw _)];exact(aF x d).2
 have aU:aS.bs AK=aE.bs AK:=by rw[O,Ai ((E _).2 (.inl rfl))]
 rw[aZ];dsimp only
 rw[aD];refine⟨rfl,aI.symm,d2,?_,λm L=>?_⟩
 ·rw[<-aI];refine⟨⟨hn,λn L=>?_,Kl.2 aH⟩,?_,rfl,λx d=>⟨(aF x d).1,aL x d⟩,λx d=>(by cases d),λx d=>(by cases d),⟨λx d=>(by cases d),λh=>absurd rfl h⟩,trivial,rfl,⟨rfl,rfl⟩,⟨h.EN.1,I1 _,λn hk d=>?_⟩,⟨by have:=h.Ey.1;dsimp only;omega,λn hk d=>?_⟩,λnm L=>(by cases L),List.Pairwise.nil,λnm L=>?_,λn hk _ d=>?_⟩
  ·obtain⟨x,d,rfl⟩:=CD.1 L;exact aB x d
  ·rw[aU];rcases t3 with⟨q1,q2,q3⟩|q
   ·exact .inl ⟨q1,by dsimp only;rw[q2,q3];rfl⟩
   ·exact .inr q
  ·rw[O,Ae]at d
   ·exact absurd rfl d
   ·rw[E];rintro (e|⟨x,_,e⟩)
    ·exact Hs n e
    ·exact G8 n x.1 e
  ·rw[O]at d;split at d
   ·rename_i L;rcases(E _).1 L with e|⟨x,aT,e⟩
    ·exact absurd e (Jw n)
    ·have:=Kv hk (aB x aT) e;rw[this];exact aY x aT
   ·exact absurd rfl d
  ·rw[O]at L;split at L
   ·rename_i Y;rcases(E _).1 Y with e|⟨x,d,e⟩
    ·subst e;rw[Sf];simp
    ·subst e;rw[O9 (aB x d)];simp
   ·exact absurd rfl L
  ·rw[O,Ae]at d
   ·exact absurd rfl d
   ·rw[E];rintro (e|⟨x,_,e⟩)
    ·exact Hs n e
    ·exact G8 n x.1 e
 ·rw[O]at L;split at L
  ·rename_i Y;rcases(E _).1 Y with e|⟨x,d,e⟩
   ·subst e;exact BQ ..
   ·subst e;exact BW _ (CD.2 ⟨x,d,rfl⟩)
  ·exact absurd rfl L
end
def Cg(l:List Pu)(k t:Int):Option Int:=l.foldl (λo p=>if p.1=k/\p.2.1=t then some p.2.2 else o) none
def Ik(l:List Pu)(p:Pu)(k t:Int):Cg (l++[p]) k t=if p.1=k/\p.2.1=t then some p.2.2 else Cg l k t:=by simp[Cg]
def A0c(l:List Pu)(k t:Int):∀o,l.foldl (λo p=>if p.1=k/\p.2.1=t then some p.2.2 else o) o=(Cg l k t).or o:=by
 induction l with
 | nil=>intro o;simp[Cg]
 | cons p r ih=>
  intro o;have h:=ih (if p.1=k/\p.2.1=t then some p.2.2 else o);have d:=ih (if p.1=k/\p.2.1=t then some p.2.2 else none);unfold Cg at h d ⊢;simp only[Pr]at h d ⊢;rw[h,d];cases r.foldl (λo p=>if p.1=k/\p.2.1=t then some p.2.2 else o) none with
  | some x=>simp
  | none=>
   simp only[Option.none_or];split<;>simp
def Il(a b:List Pu)(k t:Int):Cg (a++b) k t=(Cg b k t).or (Cg a k t):=by
 have:=A0c b k t (Cg a k t);unfold Cg at this ⊢;rw[MY,this]
def SL(l:List Pu)(k t:Int)(q:Pu->Bool)(E:∀p∈l,p.1=k->p.2.1=t->q p=true):Cg (l.filter q) k t=Cg l k t:=by
 induction l with
 | nil=>rfl
 | cons p r ih=>
  have d:=ih λx z=>E x (BW _ z);have e:∀x:Pu,∀l:List Pu,Cg (x::l) k t=(Cg l k t).or (Cg [x] k t):=λx l=>Il [x] l k t;by_cases h:q p=true
  ·rw[Jg h,e p r,e p (r.filter q),d]
  ·rw[Lh h,e p r,d];have:¬(p.1=k/\p.2.1=t):=λz=>h (E p (BQ ..) z.1 z.2);simp[Cg,this]
def A0b{l:List Pu}{k t:Int}:Cg l k t=none↔∀p∈l,¬(p.1=k/\p.2.1=t):=by
 induction l with
 | nil=>simp[Cg]
 | cons p r ih=>
  have e:Cg (p::r) k t=(Cg r k t).or (Cg [p] k t):=Il [p] r k t;rw[e,Option.or_eq_none_iff,ih];simp only[BX,forall_eq_or_imp];constructor
  ·rintro⟨z,d⟩;exact⟨λh=>by simp[Cg,h]at d,z⟩
  ·rintro⟨z,d⟩;exact⟨d,by simp[Cg,z]⟩
def J1{len:Int}{p q:Pu}:AH len p q=true↔BJ p.2.1 len<BJ q.2.1 len\/BJ p.2.1 len=BJ q.2.1 len/\(p.1<q.1\/p.1=q.1/\p.2.1<q.2.1):=by simp[AH]
def A0f{len:Int}{p q r:Pu}(h1:AH len p q=true)(h2:AH len q r=true):AH len p r=true:=by
 rw[J1]at *;omega
def TK{p q:Pu}:Ck p q=0↔p.1=q.1/\p.2.1=q.2.1:=by
 have h:∀x y:Int,Ch x y=0↔x=y:=λx y=>by
  unfold Ch;by_cases d:x<y
  ·simp[d];omega
  ·by_cases z:y<x
   ·simp[d,z];omega
   ·simp[d,z];omega
 unfold Ck;by_cases d:Ch p.1 q.1=0
 ·simp[h,(h _ _).1 d]
 ·simp only[JH,d,O5,Ci,false_iff];exact λE=>d ((h _ _).2 E.1)
def A2i{p q:Pu}:Ck p q<0↔p.1<q.1\/p.1=q.1/\p.2.1<q.2.1:=by
 unfold Ck;by_cases h:p.1=q.1
 ·have:Ch p.1 q.1=0:=by rw[h];simp[Ch]
  rw[Ae (by simp[this]),OY];omega
 ·have:Ch p.1 q.1≠0:=by
   unfold Ch;by_cases d:p.1<q.1
   ·simp[d]
   ·rw[Ae d,Ai (by omega)];simp
  rw[Ai this,OY];omega
def A0g{len:Int}{p q:Pu}(h:BJ p.2.1 len=BJ q.2.1 len)(E:AH len p q=false)(z:Ck p q≠0):AH len q p=true:=by
 have d:¬(AH len p q=true):=by simp[E]
 rw[J1]at d ⊢;rw[JH,TK]at z;omega
def A0h{len:Int}{p q:Pu}(h:BJ p.2.1 len≠BJ q.2.1 len)(z:AH len p q=false):BJ q.2.1 len<BJ p.2.1 len:=by
 have d:¬(AH len p q=true):=by simp[z]
 rw[J1]at d;omega
def X6(len:Int)(h:Ca (AH len))(l:List Pu)(k t:Int):Cg (E7 (AH len) l) k t=Cg l k t:=by
 have E:=h.cv l (k,t,0);have d:∀m:List Pu,∀p∈m,p.1=k->p.2.1=t->eqv (AH len) (k,t,0) p=true:=λm p _ I z=>by
  subst I z;simp[eqv,AH]
 rw[<-SL l k t _ (d l),<-SL (E7 (AH len) l) k t _ (d _),E]
structure WI (len:Int) (ws:List (List Pu)) (s:List Pu):Prop where
 MC:ws.flatten.Pairwise (λa b=>AH len a b=true)
 Ac:∀k t,Cg ws.flatten k t=Cg s k t
 E4:∀x∈ws.flatten,x∈s
 ne:∀w∈ws,w≠[]
 Gl:∀w∈ws,∀p∈w,∀q∈w,BJ p.2.1 len=BJ q.2.1 len
 Pb:ws.Pairwise λw w'=>∀p∈w,∀q∈w',BJ p.2.1 len<BJ q.2.1 len
 Bo:ws.flatten.length<=s.length
def WI.cF{len:Int}{ws:List (List Pu)}{s:List Pu}(h:WI len ws s)(p:Pu)(O:∀x∈ws.flatten,BJ x.2.1 len<BJ p.2.1 len):WI len (ws++[[p]]) (s++[p]):=by
 have e:(ws++[[p]]).flatten=ws.flatten++[p]:=by simp
 have L:∀w∈ws,∀x∈w,x∈ws.flatten:=λw d x z=>UG.2 ⟨w,d,z⟩;refine⟨?_,λk t=>?_,λx z=>?_,λw d=>?_,λw d=>?_,?_,?_⟩
 ·rw[e,Ew];refine⟨h.MC,by simp,λa I b E=>?_⟩;simp at E;subst E;rw[J1];exact .inl (O a I)
 ·rw[e,Ik,Ik,h.Ac]
 ·rw[e]at z;rcases AY.1 z with z|z
  ·exact FJ _ (h.E4 x z)
  ·exact Hh _ z
 ·rcases AY.1 d with d|d
  ·exact h.ne w d
  ·simp at d;subst d;simp
 ·rcases AY.1 d with d|d
  ·exact h.Gl w d
  ·simp at d;subst d;intro a I b E;simp at I E;subst I E;rfl
 ·rw[Ew];refine⟨h.Pb,by simp,λa I b E x z y W=>?_⟩;simp at E;subst E;simp at W;subst W;exact O x (L a I x z)
 ·rw[e,Ba,Ba];have:=h.Bo;simp only[UI];omega
def WI.ak{len:Int}{d:List (List Pu)}{w w':List Pu}{s s':List Pu}{q:Pu}(h:WI len (d++[w]) s)(hq:q∈w)(O:(d.flatten++w').Pairwise (λa b=>AH len a b=true))(L:∀k t,Cg (d.flatten++w') k t=Cg s' k t)(X:∀x∈w',x∈s')(Y:∀x∈s,x∈s')(aA:w'≠[])(E:∀p∈w',BJ p.2.1 len=BJ q.2.1 len)(hlen:w'.length+s.length<=w.length+s'.length):WI len (d++[w']) s':=by
 have e:∀v:List Pu,(d++[v]).flatten=d.flatten++v:=λv=>by simp
 have W:=Ew.1 h.Pb;refine⟨by rw[e];exact O,λk t=>by rw[e];exact L k t,λx I=>?_,λv z=>?_,λv z=>?_,?_,?_⟩
 ·rw[e]at I;rcases AY.1 I with I|I
  ·exact Y x (h.E4 x (by rw[e];exact FJ _ I))
  ·exact X x I
 ·rcases AY.1 z with z|z
  ·exact h.ne v (FJ _ z)
  ·simp at z;subst z;exact aA
 ·rcases AY.1 z with z|z
  ·exact h.Gl v (FJ _ z)
  ·simp at z;subst z;intro a ha b hb;rw[E a ha,E b hb]
 ·rw[Ew];refine⟨W.1,by simp,λa ha b hb x I y hy=>?_⟩;simp at hb;subst hb;rw[E y hy];exact W.2.2 a ha w (by simp) x I q hq
 ·rw[e];have:=h.Bo;rw[e]at this;simp only[Ba]at this ⊢;omega
def WI.a7{len:Int}{z:List (List Pu)}{L:List Pu}{q E p:Pu}{s:List Pu}(h:WI len (z++[L++[q]]) s)(hq:q.1=E.1/\q.2.1=E.2.1)(hp:AH len p E=false):
 ∃Y w1,EI len (z++[L++[q]]) false E p=Y++[w1++[p]]/\WI len (Y++[w1++[p]]) (s++[p]):=by
 have aE:AH len p q=false:=by
  have:AH len p q=AH len p E:=by unfold AH;rw[hq.1,hq.2]
  rw[this];exact hp
 have W:q∈L++[q]:=by simp
 have e:∀v:List Pu,(z++[v]).flatten=z.flatten++v:=λv=>by simp
 have I:=h.MC;rw[e]at I;have hall:∀x∈z.flatten++(L++[q]),x=q\/AH len x q=true:=λx d=>by
  rw[<-C8]at d I;rcases AY.1 d with d|d
  ·exact .inr ((Ew.1 I).2.2 x d q (by simp))
  ·exact .inl (by simpa using d)
 unfold EI;dsimp only
 by_cases O:BJ p.2.1 len=BJ E.2.1 len
 ·have hw:BJ p.2.1 len=BJ q.2.1 len:=by rw[O,hq.2]
  have X:¬(false=true\/BJ p.2.1 len≠BJ E.2.1 len):=by simp[O]
  simp only[Ae X];have hl:(z++[L++[q]]).getLastD []=L++[q]:=by simp
  have aF:(L++[q]).getLastD (0,0,0)=q:=by simp
  have hd:(z++[L++[q]]).dropLast=z:=by simp
  have aB:(L++[q]).dropLast=L:=by simp
  rw[hl,aF,hd,aB];by_cases hz:Ck p q=0
  ·rw[Ai ⟨by simp,hz⟩];have hk:=TK.1 hz;refine⟨z,L,rfl,h.ak W ?_ (λk t=>?_) (λx d=>?_) (λx d=>FJ _ d) (by simp) (λx d=>?_) (by simp)⟩
   ·rw[<-C8]at I ⊢;have ha:=Ew.1 I;rw[Ew];refine⟨ha.1,by simp,λa aG b hb=>?_⟩;simp at hb;subst hb;have:=ha.2.2 a aG q (by simp);rw[J1]at this ⊢;rw[hk.1,hk.2];exact this
   ·rw[<-C8,Ik,Ik,<-h.Ac,e,<-C8,Ik];by_cases d:p.1=k/\p.2.1=t
    ·simp[d]
    ·rw[Ae d,Ae d,Ae (by rw[<-hk.1,<-hk.2];exact d)]
   ·rcases AY.1 d with d|d
    ·exact FJ _ (h.E4 x (by rw[e];simp[d]))
    ·exact Hh _ d
   ·rcases AY.1 d with d|d
    ·exact h.Gl _ (by simp) x (by simp[d]) q W
    ·simp at d;subst d;exact hw
  ·rw[Ae (by simp[hz])];have aA:=A0g hw aE hz;refine⟨z,L++[q],rfl,h.ak W ?_ (λk t=>?_) (λx d=>?_) (λx d=>FJ _ d) (by simp) (λx d=>?_) (by simp;omega)⟩
   ·rw[<-C8,Ew];refine⟨I,by simp,λa ha b hb=>?_⟩;simp at hb;subst hb;rcases hall a ha with rfl|d
    ·exact aA
    ·exact A0f d aA
   ·rw[<-C8,Ik,Ik,<-h.Ac,e]
   ·rcases AY.1 d with d|d
    ·exact FJ _ (h.E4 x (by rw[e];exact Hh _ d))
    ·exact Hh _ d
   ·rcases AY.1 d with d|d
    ·exact h.Gl _ (by simp) x d q W
    ·simp at d;subst d;exact hw
 ·have X:false=true\/BJ p.2.1 len≠BJ E.2.1 len:=.inr O;simp only[Ai X];have hl:(z++[L++[q]]++[[]]).getLastD []=([]:List Pu):=by simp
  have hd:(z++[L++[q]]++[[]]).dropLast=z++[L++[q]]:=by simp
  rw[hl,hd,Ae (by simp)];refine⟨z++[L++[q]],[],by simp,?_⟩;have aD:BJ q.2.1 len<BJ p.2.1 len:=by
   have:=A0h O hp;rw[hq.2];exact this
  have:=h.cF p λx d=>?_
  ·simpa using this
  ·rw[e]at d;rcases hall x d with rfl|d
   ·exact aD
   ·rw[J1]at d;omega
def PW{len:Int}:∀(r:List Pu) (z:List (List Pu)) (I:List Pu) (q d:Pu) (s:List Pu),WI len (z++[I++[q]]) s->q.1=d.1/\q.2.1=d.2.1->B2 (AH len) (d::r)->WI len (Ek len r false d (z++[I++[q]])) (s++r)
 | [],z,I,q,d,s,h,_,_=>by simpa[Ek] using h
 | p::r,z,I,q,d,s,h,hq,ha=>by
  have E:=Dn.1 ha;obtain⟨L,O,X,W⟩:=h.a7 hq (E.1 p (BQ ..));unfold Ek;rw[X];have:=PW r L O p p (s++[p]) W ⟨rfl,rfl⟩ E.2;simpa using this
def Vw{len:Int}(s:List Pu)(z:B2 (AH len) s):WI len (Ek len s true (0,0,0) []) s:=by
 cases s with
 | nil=>exact⟨by simp[Ek],λ_ _=>rfl,λx h=>by simp[Ek]at h,λw d=>by simp[Ek]at d,λw d=>by simp[Ek]at d,by simp[Ek],by simp[Ek]⟩
 | cons p r=>
  unfold Ek;have e:EI len [] true (0,0,0) p=[]++[[]++[p]]:=by simp[EI]
  rw[e];have I:WI len [] []:=⟨by simp,λ_ _=>rfl,λx h=>by simp at h,λw d=>by simp at d,λw d=>by simp at d,by simp,by simp⟩;have E:=I.cF p (by simp);have:=PW r [] [] p p [p] (by simpa using E) ⟨rfl,rfl⟩ z;simpa using this
def Mh{len:Int}(E:Ca (AH len))(l:List Pu):WI len (EO len l) l:=by
 have h:=Vw (len:=len) (E7 (AH len) l) (E.eF l);have d:∀x∈E7 (AH len) l,x∈l:=λx L=>Br.E4 E (E.cv l).bC L;have z:(E7 (AH len) l).length=l.length:=by
  have I:∀(l s:List Pu),(l.foldl (λs x=>Fo (AH len) x s) s).length=s.length+l.length:=by
   intro l
   induction l with
   | nil=>intro s;rfl
   | cons x r ih=>
    intro s;have O:∀m:List Pu,(Fo (AH len) x m).length=m.length+1:=by
     intro m
     induction m with
     | nil=>rfl
     | cons y m ihm=>unfold Fo;split<;>simp[ihm]
    rw[Pr,ih,O,Cq];omega
  have:=I l [];simpa[E7] using this
 exact⟨h.MC,λk t=>by rw[<-X6 len E l k t];exact h.Ac k t,λx L=>d x (h.E4 x L),h.ne,h.Gl,h.Pb,by rw[<-z];exact h.Bo⟩
def WI.G3{len:Int}{ws:List (List Pu)}{s:List Pu}(h:WI len ws s){w:List Pu}(L:w∈ws):Cr Ck w=true:=by
 have z:=A3U (A3D L) h.MC;have O:=h.Gl w L;have E:∀m:List Pu,(∀x∈m,x∈w)->m.Pairwise (λa b=>AH len a b=true)->Cr Ck m=true:=by
  intro m
  induction m with
  | nil=>intro _ _;rfl
  | cons a m ih=>
   intro I z;cases m with
   | nil=>rfl
   | cons b m=>
    have d:=Dn.1 z;simp only[Cr,FZ,DO];refine⟨?_,ih (λx W=>I x (BW _ W)) d.2⟩;have:=d.1 b (BQ ..);rw[J1]at this;have e:=O a (I a (BQ ..)) b (I b (by simp));rw[A2i];omega
 exact E w (λ_ h=>h) z
def KL{ws:List (List Pu)}(h:∀w∈ws,w≠[]):ws.length<=ws.flatten.length:=by
 induction ws with
 | nil=>simp
 | cons w r ih=>
  have h1:=ih λx d=>h x (BW _ d);have h2:=IC.2 (h w (BQ ..));rw[A3R,Ba,Cq];omega
def Nw(ws:List (List Pu)):Df ws=17*ws.flatten.length+4*ws.length:=by
 unfold Df
 induction ws with
 | nil=>rfl
 | cons w r ih=>
  rw[HC,List.sum_cons,ih,A3R,Ba,Cq];omega
section
variable {P P':PD} {A:Ar} {sg cl:List (Int×List Pu)} {ol:Option (List Pu)} {N R:Nat} {aA aB:Int}
def Lay.cw(h:Lay P A sg cl ol):∀p∈AG cl++ol.getD [],Bq p:=by
 intro p d;rcases AY.1 d with d|d
 ·obtain⟨x,z,d⟩:=List.mem_flatMap.1 d;exact(h.CO x z).2 p d
 ·cases ol with
  | none=>simp at d
  | some l=>exact h.AE.2.2.2.1 p (by simpa using d)
def Lay.fI(h:Lay P A sg cl ol):∀p∈AG sg,Bq p:=by
 intro p d;obtain⟨x,z,d⟩:=List.mem_flatMap.1 d;exact(h.Cy x z).1.1 p d
def C6(o:Int)(a b:List Pu):Prop:=(∀k t,o<=t->Cg a k t=Cg b k t)/\(∀p∈a,∃q∈b,q.1=p.1/\q.2.1=p.2.1)/\a.length<=b.length
def Lay.aO(h:Lay P A sg cl ol)(hw:Ca (AH aA)){K n:Nat}(hn:(AG cl++ol.getD []).length<=n)(hn2:n<=1099511627776)(hK:P.Az.length<=K)(hsl:sg.length<=K)(hjl:A.j.Av.length<=K)(hll:A.AR.length<=K)(hc:Cm P (N+4*K+4*n+8) (R+29*n+12+8*K))(E:isNum (A.j.Ac+1)=true)(hln:A.Ac+n<=4611686018427387904):
 (A.aO P aA).1=0/\Cm (A.aO P aA).2.2 N R/\
  ∃fresh,(A.aO P aA).2.1=⟨⟨A.j.Ac+1,(sg++CE A.Ac fresh).map (·.1)⟩,⟨[],A.j.Ac,0,none⟩,A.Ac+fresh.length,[]⟩/\Lay (A.aO P aA).2.2 (A.aO P aA).2.1 (sg++CE A.Ac fresh) [] none/\
   (∀m,(A.aO P aA).2.2.bs m≠none->m∈AK::(sg++CE A.Ac fresh).map λx=>AJ x.1)/\fresh.length<=fresh.flatten.length/\fresh.flatten.length<=(AG cl++ol.getD []).length/\(∀k t,Cg (Dl (sg++CE A.Ac fresh) [] none) k t=Cg (Dl sg cl ol) k t)/\(∀p∈fresh.flatten,Bq p):=by
 have z:=h.puts (by rw[Ba]at hn;omega);have d:=Mh hw (AG cl++ol.getD []);generalize L:EO aA (AG cl++ol.getD [])=fresh at d;have O:=KL d.ne;have I:=d.Bo;have hcost:=Nw fresh;have e:A.aO P aA=A.aJ P (sg.map (·.1)) fresh:=by
  unfold Ar.aO;rw[z,Ae (by simp),L,h.segs]
 rw[e];obtain⟨Y,r2,X,r4,r5⟩:=h.aJ (N:=N) (R:=R) (K:=K) sg fresh (hc.ad (by omega) (by omega)) hK (λ_ h=>h) (Kl.1 (by rw[h.segs];exact h.Ea.G3))
  (λl W=>⟨λp z=>h.cw p (d.E4 p (UG.2 ⟨l,W,z⟩)),d.G3 W⟩) E (by omega)
 refine⟨Y,X,fresh,r2,r4,r5,O,I,λk t=>?_,λp z=>h.cw p (d.E4 p z)⟩;unfold Dl;have e1:AG (sg++CE A.Ac fresh)=AG sg++fresh.flatten:=by
  have:=@O4 fresh A.Ac;unfold AG at this ⊢;rw[A3S,this]
 rw[e1];simp only[AG,List.flatMap_nil,Option.getD_none,EF];rw[Il,Il,d.Ac];rfl
end
def SJ(a b:ByteArray):less a b=true↔a.data.toList<b.data.toList:=by
 unfold less;rw[TQ,K4,K4,DO]
def A0H(l:List ByteArray)(x:ByteArray):∀k,k<=l.length->(∀i (z:i<l.length),EC l x k<=i->i<k->less x (l[i]'z)=true)/\∀(_:0<EC l x k) (z:EC l x k-1<l.length),less x (l[EC l x k-1]'z)=false:=by
 intro k
 induction k with
 | zero=>intro _;exact⟨λi z E I=>by omega,λh=>by simp[EC]at h⟩
 | succ k ih=>
  intro hk;have d:k<l.length:=by omega
  obtain⟨L,O⟩:=ih (by omega);by_cases h:less x (l[k]'d)=true
  ·rw[T2 l x k d h];refine⟨λi z E I=>?_,O⟩;by_cases e:i=k
   ·subst e;exact h
   ·exact L i z E (by omega)
  ·rw[T1 l x k d (by simpa using h)];exact⟨λi z E I=>by omega,λ_ _=>by simpa using h⟩
def KZ(l:List ByteArray):Prop:=l.Pairwise λa b=>a.data.toList<b.data.toList
def A0z{l:List ByteArray}(h:KZ l){x:ByteArray}(hx:x∉l):KZ (ins l x):=by
 obtain⟨h1,h2⟩:=A0H l x l.length (Ao _);have aA:=T3 l x l.length;unfold ins;generalize EC l x l.length=k at h1 h2 aA;have hp:KZ (l.take k++l.drop k):=by rw[E0];exact h
 have E:=Ew.1 hp;refine Ew.2 ⟨E.1,Dn.2 ⟨λy hy=>?_,E.2.1⟩,λa ha b Y=>?_⟩
 ·obtain⟨i,hi,rfl⟩:=Ep hy;rw[Cl]at hi;rw[List.getElem_drop];exact(SJ _ _).1 (h1 (k+i) (by omega) (by omega) (by omega))
 ·rcases BX.1 Y with rfl|Y
  ·obtain⟨i,hi,rfl⟩:=Ep ha;rw[BI]at hi;(have z:k-1<l.length:=by omega);have O:=h2 (by omega) z;have d:(l[k-1]'z).data.toList<b.data.toList:=by
    (have W:¬b.data.toList<(l[k-1]'z).data.toList:=λX=>by rw[(SJ _ _).2 X]at O;cases O);have L:=List.not_lt.1 W;by_cases I:(l[k-1]'z).data.toList<b.data.toList
    ·exact I
    ·refine absurd ?_ hx;have e:=List.le_antisymm L (List.not_lt.1 I);(have:l[k-1]'z=b:=by rw[<-Gm (l[k-1]'z),<-Gm b,e]);rw[<-this];exact BT _
   rw[UK];by_cases e:i=k-1
   ·subst e;exact d
   ·have:=Lb.1 h i (k-1) (by omega) z (by omega);exact List.lt_trans this d
  ·exact E.2.2 a ha b Y
def A1K(es:List AN)(L:(es.map (·.1)).Nodup):∀k,k<=es.length->KZ (ES es k):=by
 intro k
 induction k with
 | zero=>intro _;simp[ES,KZ]
 | succ k ih=>
  intro hk;have d:k<es.length:=by omega
  rw[Ms es k d];refine A0z (ih (by omega)) λz=>?_;have:=(Tv es k (by omega)).mem_iff.1 z;obtain⟨e,E,h⟩:=CD.1 this;obtain⟨i,I,rfl⟩:=Ep E;rw[BI]at I;rw[UK]at h;have:i=k:=JG L (by simp;omega) (by simpa using d) (by simpa using h);omega
def Cm.up{P:PD}{N R:Nat}(h:Cm P N R):P.Az.Pairwise (· < ·):=by
 unfold PD.Az;rw[A3G];exact A1K P.D.A5 h.Cd _ (Ao _)
def GG:Nat->Nat->Bs
 | 0,_=>[]
 | k+1,u=>GG k (u/10)++[UInt8.ofNat (48+u % 10)]
def LY:∀k u,(GG k u).length=k
 | 0,_=>rfl
 | k+1,u=>by simp[GG,LY k]
def RF:∀k,GG k 0=List.replicate k 48
 | 0=>rfl
 | k+1=>by
  unfold GG;rw[Nat.zero_div,RF k,List.replicate_succ'];rfl
def RG:∀k u,u<10 ^ (k+1)->List.replicate (k+1-Lib.nDigits u) 48++Lib.decDigits u=GG (k+1) u
 | 0,u,h=>by
  have d:u<10:=by simpa using h
  rw[Ps d,Lib.decDigits,OO d];simp[GG,Nat.mod_eq_of_lt d]
 | k+1,u,h=>by
  by_cases d:u<10
  ·rw[Ps d,Lib.decDigits,OO d];unfold GG;rw[Nat.div_eq_of_lt d,RF,Nat.mod_eq_of_lt d];rfl
  ·have z:=RG k (u/10) (by rw[JW]at h;omega);rw[UT d,Lib.decDigits,OP d,<-C8];(have e:k+1+1-(Lib.nDigits (u/10)+1)=k+1-Lib.nDigits (u/10):=by omega);rw[e,z]
   conv=>rhs;unfold GG
def Sy:∀ {a b x y:Bs},a.length=b.length->a<b->a++x<b++y
 | [],b,x,y,hl,h=>by
  have:b=[]:=Hj.1 hl.symm;subst this;exact absurd h (Lf _)
 | c::a,[],x,y,hl,h=>by simp at hl
 | c::a,d::b,x,y,hl,h=>by
  rw[FL,FL,Jh];rw[Jh]at h;rcases h with h|⟨E,z⟩
  ·exact .inl h
  ·exact .inr ⟨E,Sy (by simpa using hl) z⟩
def Sw:∀ {a x y:Bs},x<y->a++x<a++y
 | [],x,y,h=>h
 | c::a,x,y,h=>by rw[FL,FL,Jh];exact .inr ⟨rfl,Sw h⟩
def NR:∀k {u v:Nat},v<10 ^ k->u<v->GG k u<GG k v
 | 0,u,v,hv,h=>by simp at hv;omega
 | k+1,u,v,hv,h=>by
  have d:v/10<10 ^ k:=by rw[JW]at hv;omega
  unfold GG;by_cases z:u/10<v/10
  ·exact Sy (by rw[LY,LY]) (NR k d z)
  ·(have e:u/10=v/10:=by omega);rw[e];refine Sw ?_;rw[Jh];refine .inl ?_;rw[UInt8.lt_iff_toNat_lt];simp;omega
def Kt{n:Int}(h0:1<=n)(h1:n<=4611686018427387904):Lib.repeatL [48] (19-(Lib.itoa n).length)++Lib.itoa n=GG 19 n.toNat:=by
 rw[Mb (by omega),UU,QW];exact RG 18 n.toNat (by (have:(10:Nat) ^ 19=10000000000000000000:=by decide);omega)
def Zm{a b:Int}(d:isNum a=true)(z:isNum b=true)(h:a<b):Ah a<Ah b:=by
 unfold isNum at d z;simp at d z;rw[IV,IV,Kt d.1 d.2,Kt z.1 z.2,Jh];exact .inr ⟨rfl,NR 19 (by (have:(10:Nat) ^ 19=10000000000000000000:=by decide);omega) (by omega)⟩
def Zi{a b:Int}(d:isNum a=true)(z:isNum b=true)(h:a<b):AJ a<AJ b:=by
 unfold isNum at d z;simp at d z;rw[Ih,Ih,Kt d.1 d.2,Kt z.1 z.2,Jh];exact .inr ⟨rfl,NR 19 (by (have:(10:Nat) ^ 19=10000000000000000000:=by decide);omega) (by omega)⟩
def ZB{f:Int->Bs}(z:∀a b,isNum a=true->isNum b=true->a<b->f a<f b){a b:Int}(E:isNum a=true)(I:isNum b=true)(h:f a<f b):a<b:=by
 rcases Int.lt_trichotomy a b with d|d|d
 ·exact d
 ·subst d;exact absurd h (Lf _)
 ·exact absurd (List.lt_trans h (z b a I E d)) (Lf _)
def O2{f:Int->Bs}(I:∀a b,isNum a=true->isNum b=true->a<b->f a<f b)(g:Bs->Option Int)(z:∀nm n,g nm=some n->isNum n=true/\f n=nm):∀ {l:List Bs},l.Pairwise (· < ·)->(l.filterMap g).Pairwise (· < ·)
 | [],_=>by simp
 | nm::r,h=>by
  have E:=Dn.1 h;have L:=O2 I g z E.2;cases hx:g nm with
  | none=>rw[List.filterMap_cons_none hx];exact L
  | some n=>
   rw[List.filterMap_cons_some hx];refine Dn.2 ⟨λm hm=>?_,L⟩;obtain⟨d,W,Y⟩:=Le.1 hm;obtain⟨a1,a2⟩:=z nm n hx;obtain⟨O,X⟩:=z d m Y;exact ZB I a1 O (by rw[a2,X];exact E.1 d W)
def ZE{l:List Bs}(d:Int)(h:l.Pairwise (· < ·)):(BO d l).Pairwise (· < ·):=by
 unfold BO;refine O2 (f:=Ah) (λa b=>Zm) _ (λnm n z=>?_) h;by_cases E:(Bn nm).1=1/\d<=(Bn nm).2
 ·rw[Ai E]at z;simp at z;subst z;have:=Oa E.1;exact⟨by unfold isNum;simp;exact this.1,this.2⟩
 ·rw[Ae E]at z;cases z
def Xl{l:List Bs}(h:l.Pairwise (· < ·)):(l.filterMap λnm=>if (Bn nm).1=2 then some (Bn nm).2 else none).Pairwise (· < ·):=by
 refine O2 (f:=AJ) (λa b=>Zi) _ (λnm n d=>?_) h;by_cases z:(Bn nm).1=2
 ·rw[Ai z]at d;simp at d;subst d;have:=O8 z;exact⟨by unfold isNum;simp;exact this.1,this.2⟩
 ·rw[Ae z]at d;cases d
def ND{l:List Int}(h:l.Pairwise (· < ·)){n:Int}(z:n∈l)(d:Int):n<=l.getLastD d:=by
 have E:l≠[]:=λe=>by subst e;cases z
 obtain⟨m,x,rfl⟩:∃m x,l=m++[x]:=⟨l.dropLast,l.getLast E,(N2 E).symm⟩;have e:(m++[x]).getLastD d=x:=by simp
 rw[e];rcases AY.1 z with z|z
 ·exact Int.le_of_lt ((Ew.1 h).2.2 n z x (by simp))
 ·simp at z;omega
def QS:∀ {l l':List Int},l.Pairwise (· < ·)->l'.Pairwise (· < ·)->(∀x,x∈l↔x∈l')->l=l'
 | [],[],_,_,_=>rfl
 | [],y::r,_,_,h=>by have:=(h y).2 (BQ ..);cases this
 | x::r,[],_,_,h=>by have:=(h x).1 (BQ ..);cases this
 | x::r,y::s,h1,h2,h=>by
  have E:=Dn.1 h1;have d:=Dn.1 h2;have L:x=y:=by
   rcases BX.1 ((h x).1 (BQ ..)) with e|e
   ·exact e
   ·rcases BX.1 ((h y).2 (BQ ..)) with O|O
    ·exact O.symm
    ·have a:=d.1 x e;have b:=E.1 y O;omega
  subst L
  congr 1
  refine QS E.2 d.2 λz=>⟨λI=>?_,λI=>?_⟩
  ·rcases BX.1 ((h z).1 (BW _ I)) with e|e
   ·subst e;have:=E.1 z I;omega
   ·exact e
  ·rcases BX.1 ((h z).2 (BW _ I)) with e|e
   ·subst e;have:=d.1 z I;omega
   ·exact e
def shut(cl:List (Int×List Pu))(last:Int):Option (List Pu)->List (Int×List Pu)
 | none=>cl
 | some l=>cl++[(last,l)]
def Nt(cl:List (Int×List Pu))(last:Int)(ol:Option (List Pu)):AG (shut cl last ol)=AG cl++ol.getD []:=by
 cases ol<;>simp[shut,AG]
section
variable {P P':PD} {A:Ar} {sg cl:List (Int×List Pu)} {ol:Option (List Pu)} {N R:Nat}
def Lay.bS(h:Lay P A sg cl ol):A.j.Av=(shut cl A.j.Ac ol).map (·.1):=by
 have:=h.AE;cases ol with
 | none=>exact this.2
 | some l=>rw[this.2.1];simp[shut]
def Lay.dU(h:Lay P A sg cl ol)(d:(AG cl).length<=1099511627776):Fc P 0 (shut cl A.j.Ac ol):=by
 have E:=h.AE;cases ol with
 | none=>exact h.Av
 | some l=>
  obtain⟨-,h1,z,I,h4⟩:=E
  exact h.Av.bT (by
   have:=h.Gx;rw[N5,<-this]
   exact Oe (t:=[]) (h.du d) I (by simp) (by simpa using z))
def Lay.aZ(h:Lay P A sg cl ol):P.aZ=some A.ix:=by
 rcases h.ix with⟨d,z⟩|d
 ·rw[Ou d,z]
 ·exact A0M h.Ea d
def Lay.aQ(h:Lay P A sg cl ol)(hc:Cm P N R)(hl:(AG cl).length<=1099511627776):
 ∃A',Ar.aQ P=.ok (A',Dl sg cl ol)/\Lay P A' sg (shut cl A.j.Ac ol) none/\A'.ix=A.ix/\A'.j.Ac<=max A.j.Ac (A.ix.B9-1)/\A'.Ac<=A.Ac/\A'.AR=A'.aU P:=by
 have aF:=hc.up;have aG:BO A.ix.B9 P.Az=A.j.Av:=by
  refine QS (ZE _ aF) h.H9 λn=>⟨λhn=>?_,λhn=>?_⟩
  ·obtain⟨L,z,h3⟩:=Od hn;exact h.Hr n (by unfold isNum;simpa using z) L (H6.1 h3)
  ·rw[h.bS]at hn;obtain⟨x,d,rfl⟩:=CD.1 hn;have X:isNum x.1=true/\A.ix.B9<=x.1:=by
    cases ol with
    | none=>exact⟨(h.CO x d).1.1,h.ER.1 x d⟩
    | some l=>
     rcases AY.1 d with d|d
     ·exact⟨(h.CO x d).1.1,h.ER.1 x d⟩
     ·simp at d;subst d;exact⟨h.AE.2.2.2.2,h.ER.2 (by simp)⟩
   have aH:=H6.2 ((h.dU hl).E4 d);unfold BO;refine Le.2 ⟨Ah x.1,aH,?_⟩;rw[Ky X.1];simp[X.2]
 have aK:P.Az.any (λnm=>decide ((Bn nm).1=0))=false:=by
  rw[Bool.eq_false_iff];intro d;obtain⟨nm,L,z⟩:=A3T.1 d;exact h.El nm (H6.1 L) (by simpa using z)
 have hp:=h.puts hl;obtain⟨W,aA⟩:∃W,(P.Az.filterMap λnm=>if (Bn nm).1=2 then some (Bn nm).2 else none)=W:=⟨_,rfl⟩;have aB:=Xl aF;rw[aA]at aB;have aE:∀n,n∈W↔isNum n=true/\P.bs (AJ n)≠none:=λn=>by
  rw[<-aA,Le];constructor
  ·rintro⟨nm,L,z⟩;by_cases d:(Bn nm).1=2
   ·rw[Ai d]at z;simp at z;subst z;have:=O8 d;exact⟨by unfold isNum;simp;exact this.1,by rw[this.2];exact H6.1 L⟩
   ·rw[Ae d]at z;cases z
  ·rintro⟨L,z⟩;refine⟨AJ n,H6.2 z,?_⟩;rw[O9 L];simp
 obtain⟨A',I⟩:∃A':Ar,(⟨A.ix,⟨A.j.Av,A.j.Av.getLastD (A.ix.B9-1),((AG cl++ol.getD []).length:Int),none⟩,W.getLastD 0,(⟨A.ix,⟨A.j.Av,A.j.Av.getLastD (A.ix.B9-1),((AG cl++ol.getD []).length:Int),none⟩,W.getLastD 0,[]⟩:Ar).aU P⟩:Ar)=A':=⟨_,rfl⟩;have aD:Ar.aQ P=.ok (A',Dl sg cl ol):=by
  unfold Ar.aQ;rw[h.aZ];dsimp only
  rw[aK,Ae (by simp),h.fv];dsimp only
  rw[aG,hp,Ae (by simp),aA];have hj:P.bR A.ix.B9=⟨A.j.Av,A.j.Av.getLastD (A.ix.B9-1),((AG cl++ol.getD []).length:Int),none⟩:=by
   unfold PD.bR;rw[aG,hp]
  rw[hj,<-I];rfl
 have O:∀x∈shut cl A.j.Ac ol,(isNum x.1=true/\x.1<=A.j.Ac)/\A.ix.B9<=x.1/\∀p∈x.2,Bq p:=λx d=>by
  cases ol with
  | none=>exact⟨(h.CO x d).1,h.ER.1 x d,(h.CO x d).2⟩
  | some l=>
   rcases AY.1 d with d|d
   ·exact⟨(h.CO x d).1,h.ER.1 x d,(h.CO x d).2⟩
   ·simp at d;subst d;exact⟨⟨h.AE.2.2.2.2,I1 _⟩,h.ER.2 (by simp),h.AE.2.2.2.1⟩
 have E:∀n∈A.j.Av,n<=A.j.Av.getLastD (A.ix.B9-1):=λn hn=>ND h.H9 hn _;have hge:A.ix.B9-1<=A.j.Av.getLastD (A.ix.B9-1):=by
  cases d:A.j.Av with
  | nil=>simp
  | cons y r=>
   (have hy:y∈A.j.Av:=by rw[d];exact BQ ..);have L:=E y hy;rw[d]at L;have z:A.ix.B9<=y:=by
    rw[h.bS]at hy;obtain⟨x,Y,aJ⟩:=CD.1 hy;rw[<-aJ];exact(O x Y).2.1
   omega
 have aL:A.j.Av.getLastD (A.ix.B9-1)<=max A.j.Ac (A.ix.B9-1):=by
  cases d:A.j.Av with
  | nil=>simp;omega
  | cons y r=>
   have hm:(y::r).getLastD (A.ix.B9-1)∈A.j.Av:=by
    rw[d];(have:(y::r).getLastD (A.ix.B9-1)=(y::r).getLast (by simp):=by rw[K2,A3O (by simp)];rfl);rw[this];exact List.getLast_mem _
   rw[h.bS]at hm;obtain⟨x,aI,Y⟩:=CD.1 hm;have:=(O x aI).1.2;rw[Y]at this;omega
 have hfn:1<=A.ix.B9:=by have:=h.Ea.B9;unfold isNum at this;simp at this;exact this.1
 refine⟨A',aD,?_,by rw[<-I],by rw[<-I];exact aL,?_,by rw[<-I];rfl⟩
 ·rw[<-I]
  refine⟨h.Ea,h.ix,h.segs,h.Cy,λx d=>⟨⟨(O x d).1.1,E _ (by rw[h.bS];exact Ed d)⟩,(O x d).2.2⟩,λx _ d=>absurd rfl d,⟨λx d=>(O x d).2.1,λd=>absurd rfl d⟩,h.dU hl,?_,⟨rfl,h.bS⟩,
   ⟨by dsimp only;omega,by dsimp only;omega,λn hk d=>?_⟩,⟨?_,λn hk d=>ND aB ((aE n).2 ⟨hk,d⟩) 0⟩,λnm hm=>?_,h.H9,h.El,h.Hr⟩
  ·dsimp only;rw[Nt]
  ·dsimp only
   by_cases hf:A.ix.B9<=n
   ·exact E n (h.Hr n hk hf d)
   ·omega
  ·dsimp only
   cases d:W with
   | nil=>simp
   | cons y r=>
    have L:=ND aB (n:=y) (by rw[d];exact BQ ..) 0;have z:=((aE y).1 (by rw[d];exact BQ ..)).1;unfold isNum at z;simp at z;rw[d]at L;omega
  ·exact H6.1 (Hg.1 hm).1
 ·rw[<-I];dsimp only
  cases d:W with
  | nil=>simp;exact h.Ey.1
  | cons y r=>
   have hm:(y::r).getLastD 0∈W:=by
    rw[d];(have:(y::r).getLastD 0=(y::r).getLast (by simp):=by rw[K2,A3O (by simp)];rfl);rw[this];exact List.getLast_mem _
   have:=(aE _).1 hm;exact h.Ey.2 _ this.1 this.2
def Lay.fG(h:∀nm,P.bs nm=none):Lay P ⟨⟨1,[]⟩,⟨[],0,0,none⟩,0,[]⟩ [] [] none:=
 ⟨⟨by decide,λn E=>(by cases E),rfl⟩,.inl ⟨h _,rfl⟩,rfl,λx d=>(by cases d),λx d=>(by cases d),λx d=>(by cases d),⟨λx d=>(by cases d),λh=>absurd rfl h⟩,trivial,rfl,⟨rfl,rfl⟩,⟨by decide,by decide,λn _ d=>absurd (h _) d⟩,⟨by decide,λn _ d=>absurd (h _) d⟩,λnm z=>(by cases z),List.Pairwise.nil,λnm z=>absurd (h _) z,λn _ _ d=>absurd (h _) d⟩
end
abbrev View:=Bs->Option FC
def vw(F:Nat->FC)(s:List AN):View:=λnm=>(lookup s (Ab nm)).map F
def BZ(c:FC):Prop:=c.2=c.1.length
def IY(V:View)(n a:Int):List Pu×Int:=match V (Ah n) with
 | some c=>Gh (AI (Ah n)) a c.1
 | none=>([],8)
def ZM(P:PD)(n a:Int):P.aT n a=IY P.fl n a:=by
 unfold IY;cases hx:P.fl (Ah n) with
 | some c=>
  have d:P.bs (Ah n)=some c.1:=by unfold PD.bs;rw[hx];rfl
  exact SA d
 | none=>
  have d:P.bs (Ah n)=none:=by unfold PD.bs;rw[hx];rfl
  unfold PD.aT GD;have e:DZ P.D P.F ⟨(Ah n).toArray⟩=([],8):=by have:=@Ja P (Ah n);unfold PD.CH at this;rw[d]at this;exact this
  rw[e];simp
def FI(V:View):Int->List (Int×List Pu)->Prop
 | _,[]=>True
 | a,x::r=>IY V x.1 a=(x.2,0)/\FI V (a+x.2.length) r
def FI.at{P:PD}:∀ {a:Int} {l:List (Int×List Pu)},FI P.fl a l↔Fc P a l
 | _,[]=>PC
 | a,x::r=>by
  unfold FI Fc;rw[ZM,FI.at]
def FI.br{V V':View}:∀ {a:Int} {l:List (Int×List Pu)},FI V a l->(∀x∈l,(V' (Ah x.1)).map (·.1)=(V (Ah x.1)).map (·.1))->FI V' a l
 | _,[],_,_=>trivial
 | a,x::r,h,hb=>by
  refine⟨?_,h.2.br λy z=>hb y (BW _ z)⟩;rw[<-h.1];have:=hb x (BQ ..);unfold IY;cases h1:V (Ah x.1) with
  | none=>rw[h1]at this;cases h2:V' (Ah x.1) with
   | none=>rfl
   | some c=>rw[h2]at this;cases this
  | some c=>rw[h1]at this;cases h2:V' (Ah x.1) with
   | none=>rw[h2]at this;cases this
   | some d=>rw[h2]at this;simp at this;dsimp only;rw[this]
def FI.bT{V:View}:∀ {a:Int} {l:List (Int×List Pu)} {x:Int×List Pu},FI V a l->IY V x.1 (a+(AG l).length)=(x.2,0)->FI V a (l++[x])
 | a,[],x,_,h=>⟨by simpa[AG] using h,trivial⟩
 | a,y::r,x,h,h2=>⟨h.1,h.2.bT (by
  rw[<-h2];congr 1
  simp only[AG,MZ,Ba];omega)⟩
def HX(b nm:Bs)(ahead:Int)(l:List Pu):Prop:=(∃t:Bs,b=E6 nm ahead l++t/\t.length<21)\/(l=[]/\b.length<12)
def HX.aV{b nm:Bs}{ahead:Int}{l:List Pu}(h:HX b nm ahead l)(z:Ax ahead)(d:∀p∈l,Bq p):Gh (AI nm) ahead b=(l,0):=by
 rcases h with⟨t,rfl,E⟩|⟨rfl,I⟩
 ·exact Rn _ _ _ _ z d E
 ·exact Yk _ _ _ I
def SC:∀(l:List Pu) (s:Nat) (t:Bs) (j:Nat),t.length<21->∃d:Bs,(E5 s l++t).take j=E5 s (l.take (j/21))++d/\d.length<21
 | [],s,t,j,ht=>⟨t.take j,by simp[E5],by rw[BI];omega⟩
 | p::r,s,t,j,ht=>by
  have h:(AS s (Be p.1 p.2.1 p.2.2)).length=21:=by rw[EX,Fj]
  by_cases hj:j<21
  ·refine⟨(AS s (Be p.1 p.2.1 p.2.2)).take j,?_,by rw[BI];omega⟩;(have e:j/21=0:=by omega);rw[e];simp only[E5,Fe,EU,C8];rw[H0 (by omega)]
  ·obtain⟨d,E,z⟩:=SC r (AW s (Be p.1 p.2.1 p.2.2)) t (j-21) ht;refine⟨d,?_,z⟩;(have e:j/21=(j-21)/21+1:=by omega);rw[e,Fs];simp only[E5,C8];rw[List.take_append,h,E,Ec (by omega)]
def HX.b4{b nm:Bs}{ahead:Int}{l:List Pu}(h:HX b nm ahead l)(j:Nat)(hj:j<=b.length):HX (b.take j) nm ahead (l.take ((j-12)/21)):=by
 rcases h with⟨t,rfl,L⟩|⟨rfl,hb⟩
 ·by_cases h12:j<12
  ·exact .inr ⟨by (have:(j-12)/21=0:=by omega);rw[this];rfl,by rw[BI];omega⟩
  ·obtain⟨E,I,z⟩:=SC l (AW (AI nm) (AO ahead)) t (j-12) L;refine .inl ⟨E,?_,z⟩;unfold E6;(have d:(AS (AI nm) (AO ahead)).length=12:=by rw[EX,CL]);rw[C8,List.take_append,d,I,Ec (by omega),C8]
 ·exact .inr ⟨by simp,by rw[BI];omega⟩
def F4(c:FC)(l:List Pu):Nat:=min l.length ((c.2.toNat-12)/21)
def Fq(bd:Int×Int)(nm:Bs):Prop:=(Bn nm).1≠0/\((Bn nm).1=1->(Bn nm).2<=bd.1)/\((Bn nm).1=2->(Bn nm).2<=bd.2)
def Zt:Bn Bv=(4,0):=by
 have h:E8 [108] Bv=none:=KA (by decide);have d:E8 [115] Bv=none:=KA (by decide);unfold Bn H8;rw[h,d];simp[H7,Ii,Bv,AK]
def Zk{bd:Int×Int}{n:Int}(h:isNum n=true)(d:n<=bd.1):Fq bd (Ah n):=by unfold Fq;rw[Ky h];exact⟨by simp,λ_=>d,λh=>by simp at h⟩
def S1{bd:Int×Int}{n:Int}(h:isNum n=true)(d:n<=bd.2):Fq bd (AJ n):=by unfold Fq;rw[O9 h];exact⟨by simp,λh=>by simp at h,λ_=>d⟩
def Zl(bd:Int×Int):Fq bd AK:=by unfold Fq;rw[Sf];exact⟨by decide,λh=>absurd h (by decide),λh=>absurd h (by decide)⟩
def S2(bd:Int×Int):Fq bd Bv:=by unfold Fq;rw[Zt];exact⟨by decide,λh=>absurd h (by decide),λh=>absurd h (by decide)⟩
def HH(bd:Int×Int)(ix:Ix)(sg:List (Int×List Pu)):Prop:=N4 ix/\ix.B9<=bd.1+1/\∀x∈sg,x.2≠[]
def HI(bd d:Int×Int):Prop:=bd.1<=d.1/\bd.2<=d.2
def Fq.aR{bd d:Int×Int}{nm:Bs}(h:Fq bd nm)(z:HI bd d):Fq d nm:=⟨h.1,λe=>Lo (h.2.1 e) z.1,λe=>Lo (h.2.2 e) z.2⟩
def HH.aR{bd d:Int×Int}{ix:Ix}{sg:List (Int×List Pu)}(h:HH bd ix sg)(z:HI bd d):HH d ix sg:=⟨h.1,by have:=h.2.1;have:=z.1;omega,h.2.2⟩
structure CW (bd:Int×Int) (V:View) (ix:Ix) (sg cl:List (Int×List Pu)) (lo:Option (Int×List Pu)):Prop where
 Ea:HH bd ix sg
 Io:(V AK=none/\ix=⟨1,[]⟩)\/∃c,V AK=some c/\BZ c/\c.1=AS (AI AK) (Cj ix.B9 ix.segs)
 segs:sg.map (·.1)=ix.segs
 Cy:∀x∈sg,((∀p∈x.2,Bq p)/\Cr Ck x.2=true)/\∃c,V (AJ x.1)=some c/\BZ c/\c.1=AS (AI (AJ x.1)) (Cf x.2)
 CO:∀x∈cl,(isNum x.1=true/\ix.B9<=x.1)/\(∀p∈x.2,Bq p)/\∃c,V (Ah x.1)=some c/\BZ c
 Av:FI V 0 cl
 Ac:∀n l,lo=some (n,l)->(isNum n=true/\ix.B9<=n)/\(∀p∈l,Bq p)/\∃c,V (Ah n)=some c/\HX c.1 (Ah n) (AG cl).length l
 G3:(cl.map (·.1)++(lo.map (·.1)).toList).Pairwise (· < ·)
 CH:∀n,isNum n=true->ix.B9<=n->V (Ah n)≠none->n∈cl.map (·.1)++(lo.map (·.1)).toList
 El:∀nm,V nm≠none->Fq bd nm
 E3:∀nm c,V nm=some c->0<=c.2/\c.2<=c.1.length
def I4(V V':View):Prop:=∀nm,(V nm=none/\V' nm=none)\/∃c,∃j:Nat,V nm=some c/\c.2<=j/\j<=c.1.length/\V' nm=some (c.1.take j,(j:Int))
section
variable {bd:Int×Int} {V V':View} {ix:Ix} {sg cl:List (Int×List Pu)} {lo:Option (Int×List Pu)}
def I4.ek(h:I4 V V'){nm:Bs}(z:V nm=none):V' nm=Option.none:=by
 rcases h nm with⟨_,E⟩|⟨c,j,d,_⟩
 ·exact E
 ·rw[z]at d;cases d
def I4.bY(h:I4 V V'){nm:Bs}{c:FC}(E:V nm=some c):∃j:Nat,c.2<=j/\j<=c.1.length/\V' nm=Option.some (c.1.take j,(j:Int)):=by
 rcases h nm with⟨z,_⟩|⟨d,j,z,I⟩
 ·rw[E]at z;cases z
 ·rw[E]at z;cases z;exact⟨j,I⟩
def I4.Gs(h:I4 V V'){nm:Bs}{c:FC}(z:V nm=Option.some c)(d:BZ c):V' nm=Option.some c:=by
 obtain⟨j,h1,h2,E⟩:=h.bY z;unfold BZ at d;have e:j=c.1.length:=by omega
 rw[E,e,Cc,<-d]
def CW.CN(h:CW bd V ix sg cl lo)(Y:I4 V V'):(∀nm c,V' nm=some c->BZ c)/\
 match lo with
 | none=>CW bd V' ix sg cl none
 | some (n,l)=>∃c i,V (Ah n)=some c/\F4 c l<=i/\i<=l.length/\CW bd V' ix sg cl (some (n,l.take i)):=by
 have X:∀nm c,V' nm=some c->BZ c:=λnm c L=>by
  rcases Y nm with⟨_,z⟩|⟨d,j,E,z,I,W⟩
  ·rw[L]at z;cases z
  ·rw[W]at L;cases L;unfold BZ;dsimp only;rw[BI];omega
 have aB:∀nm,V' nm≠none->V nm≠none:=λnm L hv=>L (Y.ek hv);have aA:FI V' 0 cl:=h.Av.br λx hx=>by
  obtain⟨_,_,c,E,z⟩:=h.CO x hx;rw[Y.Gs E z,E]
 have key:∀O:Option (Int×List Pu),O.map (·.1)=lo.map (·.1)->(∀n l,O=some (n,l)->(isNum n=true/\ix.B9<=n)/\(∀p∈l,Bq p)/\∃c,V' (Ah n)=some c/\HX c.1 (Ah n) (AG cl).length l)->CW bd V' ix sg cl O:=λO e hl=>
  ⟨h.Ea,by
   rcases h.Io with⟨E,z⟩|⟨c,E,z,I⟩
   ·exact .inl ⟨Y.ek E,z⟩
   ·exact .inr ⟨c,Y.Gs E z,z,I⟩,h.segs,λx hx=>by
   obtain⟨E,c,z,I,W⟩:=h.Cy x hx
   exact⟨E,c,Y.Gs z I,I,W⟩,λx hx=>by
   obtain⟨E,z,c,I,W⟩:=h.CO x hx
   exact⟨E,z,c,Y.Gs I W,W⟩,aA,hl,by rw[e];exact h.G3,λn E z I=>by rw[e];exact h.CH n E z (aB _ I),λnm L=>h.El nm (aB _ L),λnm c L=>by
   have:=X nm c L;unfold BZ at this;omega⟩
 refine⟨X,?_⟩;cases lo with
 | none=>exact key none rfl λn l e=>by cases e
 | some x=>
  obtain⟨n,l⟩:=x;obtain⟨E,z,c,I,W⟩:=h.Ac n l rfl;obtain⟨j,j1,j2,j3⟩:=Y.bY I;refine⟨c,min l.length ((j-12)/21),I,?_,Nat.min_le_left _ _,key _ rfl λn' l' e=>?_⟩
  ·unfold F4;have:(c.2.toNat-12)/21<=(j-12)/21:=A3A (by omega);omega
  ·cases e;have ht:l.take (min l.length ((j-12)/21))=l.take ((j-12)/21):=by
    rw[List.take_eq_take_iff];omega
   rw[ht];exact⟨E,λp hp=>z p (H3 hp),_,j3,W.b4 j j2⟩
def CW.bF(h:CW bd V ix sg cl lo)(X:∀nm,nm=AK\/(∃x∈sg,nm=AJ x.1)\/(∃n,isNum n=true/\ix.B9<=n/\nm=Ah n)->(V nm=none/\V' nm=none)\/∃c d,V nm=some c/\V' nm=some d/\d.1=c.1/\(d.2=c.2\/BZ d))(h2:∀nm,V' nm≠none->Fq bd nm)(h3:∀nm c,V' nm=some c->0<=c.2/\c.2<=c.1.length):CW bd V' ix sg cl lo:=by
 have up:∀ {nm:Bs} {c:FC},(nm=AK\/(∃x∈sg,nm=AJ x.1)\/(∃n,isNum n=true/\ix.B9<=n/\nm=Ah n))->V nm=some c->∃d,V' nm=some d/\d.1=c.1/\(BZ c->BZ d):=λ{nm c} hn hv=>by
  rcases X nm hn with⟨q,_⟩|⟨c',d,z,L,I,E⟩
  ·rw[hv]at q;cases q
  ·rw[hv]at z;cases z;refine⟨d,L,I,λY=>?_⟩;rcases E with E|E
   ·unfold BZ at Y ⊢;rw[I,E];exact Y
   ·exact E
 have O:∀x∈cl,(V' (Ah x.1)).map (·.1)=(V (Ah x.1)).map (·.1):=λx W=>by
  obtain⟨z,_,c,I,_⟩:=h.CO x W;obtain⟨d,d1,d2,_⟩:=up (.inr (.inr ⟨x.1,z.1,z.2,rfl⟩)) I;rw[d1,I];simp[d2]
 refine⟨h.Ea,?_,h.segs,λx W=>?_,λx W=>?_,h.Av.br O,λn l e=>?_,h.G3,λn z L I=>h.CH n z L λq=>?_,h2,h3⟩
 ·rcases h.Io with⟨z,L⟩|⟨c,z,L,I⟩
  ·rcases X AK (.inl rfl) with⟨_,q⟩|⟨c',d,E,_⟩
   ·exact .inl ⟨q,L⟩
   ·rw[z]at E;cases E
  ·obtain⟨d,d1,d2,d3⟩:=up (.inl rfl) z;exact .inr ⟨d,d1,d3 L,by rw[d2];exact I⟩
 ·obtain⟨z,c,L,I,E⟩:=h.Cy x W;obtain⟨d,d1,d2,d3⟩:=up (.inr (.inl ⟨x,W,rfl⟩)) L;exact⟨z,d,d1,d3 I,by rw[d2];exact E⟩
 ·obtain⟨z,L,c,I,E⟩:=h.CO x W;obtain⟨d,d1,d2,d3⟩:=up (.inr (.inr ⟨x.1,z.1,z.2,rfl⟩)) I;exact⟨z,L,d,d1,d3 E⟩
 ·obtain⟨z,L,c,I,E⟩:=h.Ac n l e;obtain⟨d,d1,d2,d3⟩:=up (.inr (.inr ⟨n,z.1,z.2,rfl⟩)) I;exact⟨z,L,d,d1,by rw[d2];exact E⟩
 ·rcases X (Ah n) (.inr (.inr ⟨n,z,L,rfl⟩)) with⟨_,E⟩|⟨c,d,E,_⟩
  ·exact I E
  ·rw[q]at E;cases E
def CW.aR{d:Int×Int}(h:CW bd V ix sg cl lo)(z:HI bd d):CW d V ix sg cl lo:=
 ⟨h.Ea.aR z,h.Io,h.segs,h.Cy,h.CO,h.Av,h.Ac,h.G3,h.CH,λnm E=>(h.El nm E).aR z,h.E3⟩
end
def C6.C(o:Int)(a:List Pu):C6 o a a:=⟨λ_ _ _=>rfl,λp d=>⟨p,d,rfl,rfl⟩,Ao _⟩
def C6.Au{o:Int}{a b c:List Pu}(h:C6 o a b)(d:C6 o b c):C6 o a c:=⟨λk t z=>(h.1 k t z).trans (d.1 k t z),λp L=>by
 obtain⟨q,E,W,I⟩:=h.2.1 p L;obtain⟨r,O,X,Y⟩:=d.2.1 q E
 exact⟨r,O,X.trans W,Y.trans I⟩,AQ h.2.2 d.2.2⟩
def C6.ba{o d:Int}{a b:List Pu}(h:C6 o a b)(ho:o<=d):C6 d a b:=⟨λk t ht=>h.1 k t (by omega),h.2⟩
def C6.dC{o:Int}{a b:List Pu}(h:C6 o a b)(c:List Pu):C6 o (a++c) (b++c):=⟨λk t E=>by rw[Il,Il,h.1 k t E],λp d=>by
 rcases AY.1 d with d|d
 ·obtain⟨q,z,e⟩:=h.2.1 p d;exact⟨q,FJ _ z,e⟩
 ·exact⟨p,Hh _ d,rfl,rfl⟩,by have:=h.2.2;rw[Ba,Ba];omega⟩
def C6.fZ{o:Int}{a b:List Pu}(z:∀k t,o<=t->Cg a k t=Cg b k t)(h:∀p∈a,p∈b)(E:a.length<=b.length):C6 o a b:=⟨z,λp d=>⟨p,h p d,rfl,rfl⟩,E⟩
def Holds(bd:Int×Int)(V:View)(puts:List Pu)(Ad:Nat)(o:Int):Prop:=
 ∃ix z h d nb,CW bd V ix z h d/\nb<=puts.length/\C6 o (AG z++AG h) (puts.take nb)/\
  (∀n l,d=some (n,l)->∃c,V (Ah n)=some c/\Ad<=nb+F4 c l/\l=(puts.drop nb).take l.length)/\(d=none->Ad<=nb)
def EM:Option (Int×List Pu)->List Pu
 | none=>[]
 | some x=>x.2
section
variable {bd:Int×Int} {V V':View} {puts:List Pu} {Ad:Nat} {o:Int}
def Holds.CN(h:Holds bd V puts Ad o)(hc:I4 V V'):∃ix z E I n,CW bd V' ix z E I/\(∀nm c,V' nm=some c->BZ c)/\Ad<=n/\n<=puts.length/\C6 o (AG z++AG E++EM I) (puts.take n):=by
 obtain⟨ix,z,E,I,nb,hL,L,W,Y,X⟩:=h;obtain⟨O,d⟩:=hL.CN hc;cases I with
 | none=>exact⟨ix,z,E,none,nb,d,O,X rfl,L,by simpa[EM] using W⟩
 | some x=>
  obtain⟨n,l⟩:=x;obtain⟨c,i,c1,c2,c3,c4⟩:=d;obtain⟨c',d1,d2,d3⟩:=Y n l rfl;rw[c1]at d1;cases d1;have hl:l.length<=(puts.drop nb).length:=by
   have:=Eu List.length d3;rw[BI]at this;omega
  rw[Cl]at hl;refine⟨ix,z,E,some (n,l.take i),nb+i,c4,O,by omega,by omega,?_⟩;have e:puts.take (nb+i)=puts.take nb++l.take i:=by
   rw[List.take_add,d3,K0]
   congr 2;omega
  rw[e];exact W.dC _
def Holds.aR{d:Int×Int}(h:Holds bd V puts Ad o)(I:HI bd d):Holds d V puts Ad o:=by
 obtain⟨ix,O,z,L,nb,E,r⟩:=h;exact⟨ix,O,z,L,nb,E.aR I,r⟩
def Holds.ba{z:Int}(h:Holds bd V puts Ad o)(I:o<=z):Holds bd V puts Ad z:=by
 obtain⟨ix,sg,E,Y,nb,O,d,X,W,L⟩:=h;exact⟨ix,sg,E,Y,nb,O,d,X.ba I,W,L⟩
def Holds.b6(h:Holds bd V puts Ad o)(q:List Pu):Holds bd V (puts++q) Ad o:=by
 obtain⟨ix,L,X,Y,nb,I,d,W,E,z⟩:=h;refine⟨ix,L,X,Y,nb,I,by simp;omega,by rw[H0 d];exact W,λn l e=>?_,z⟩;obtain⟨c,d1,d2,d3⟩:=E n l e;refine⟨c,d1,d2,?_⟩;have O:l.length<=(puts.drop nb).length:=by
  have:=Eu List.length d3;rw[BI]at this;omega
 rw[Lk d,H0 O];exact d3
def Holds.bA{ix:Ix}{z h:List (Int×List Pu)}(I:CW bd V ix z h none)(E:C6 o (AG z++AG h) puts)(d:Ad<=puts.length):Holds bd V puts Ad o:=
 ⟨ix,z,h,none,puts.length,I,Ao _,by rw[Cc];exact E,λn l e=>(by cases e),λ_=>d⟩
def Tm{c d:FC}{l:List Pu}(E:d.1=c.1)(h:d.2=c.2\/BZ d)(z:c.2<=c.1.length):F4 c l<=F4 d l:=by
 unfold F4;have:c.2<=d.2:=by
  rcases h with h|h
  ·omega
  ·unfold BZ at h;rw[h,E];exact z
 have:(c.2.toNat-12)/21<=(d.2.toNat-12)/21:=A3A (by omega);omega
def Holds.bF(h:Holds bd V puts Ad o)(I:∀nm,(∀c,V nm=some c->∃d,V' nm=some d/\d.1=c.1/\(d.2=c.2\/BZ d))/\(V nm=none->V' nm=none)):Holds bd V' puts Ad o:=by
 obtain⟨ix,sg,cl,lo,nb,O,W,hs,g1,X⟩:=h;have L:∀nm,V' nm≠none->V nm≠none:=λnm z E=>z ((I nm).2 E);refine⟨ix,sg,cl,lo,nb,O.bF (λnm _=>?_) (λnm z=>O.El nm (L nm z)) (λnm c z=>?_),W,hs,λn l e=>?_,X⟩
 ·cases E:V nm with
  | none=>exact .inl ⟨rfl,(I nm).2 E⟩
  | some c=>obtain⟨d,d1,d2,d3⟩:=(I nm).1 c E;exact .inr ⟨c,d,rfl,d1,d2,d3⟩
 ·cases E:V nm with
  | none=>rw[(I nm).2 E]at z;cases z
  | some x=>
   obtain⟨d,d1,d2,d3⟩:=(I nm).1 x E;rw[d1]at z;cases z;have:=O.E3 nm x E;rcases d3 with d3|d3
   ·rw[d2,d3];exact this
   ·unfold BZ at d3;omega
 ·obtain⟨c,d1,d2,d3⟩:=g1 n l e;obtain⟨d,e1,Y,e3⟩:=(I _).1 c d1;exact⟨d,e1,AQ d2 (L8 (Tm Y e3 (O.E3 _ _ d1).2) _),d3⟩
def F8(bd:Int×Int)(V:View)(puts:List Pu)(Ad:Nat)(o:Int)(n:Int)(ahead:Nat):Prop:=
 ∃ix h d l nb c,CW bd V ix h d (some (n,l))/\nb<=puts.length/\C6 o (AG h++AG d) (puts.take nb)/\V (Ah n)=some c/\c.1=E6 (Ah n) ahead l/\ahead=(AG d).length/\Ad<=nb+F4 c l/\l=puts.drop nb
def F8.aR{d:Int×Int}{n:Int}{ahead:Nat}(h:F8 bd V puts Ad o n ahead)(E:HI bd d):F8 d V puts Ad o n ahead:=by
 obtain⟨ix,L,z,l,nb,c,I,r⟩:=h;exact⟨ix,L,z,l,nb,c,I.aR E,r⟩
def F8.b7{n:Int}{ahead:Nat}(h:F8 bd V puts Ad o n ahead):Holds bd V puts Ad o:=by
 obtain⟨ix,O,X,l,nb,c,L,d,W,E,h2,h3,z,I⟩:=h;exact⟨ix,O,X,some (n,l),nb,L,d,W,λn' l' e=>by cases e;exact⟨c,E,z,by rw[<-I,Cc]⟩,λe=>by cases e⟩
def F8.aq{n:Int}{ahead:Nat}(h:F8 bd V puts Ad o n ahead)(p:Pu)(hp:Bq p)(j:Nat){s:Nat}(aE:∀l c,V (Ah n)=some c->c.1=E6 (Ah n) ahead l->s=Fl (Ah n) ahead l)(I:∀nm,nm≠Ah n->V' nm=V nm)(h2:∀c,V (Ah n)=some c->V' (Ah n)=some (c.1++(AS s (Be p.1 p.2.1 p.2.2)).take j,c.2)):
 (21<=j->F8 bd V' (puts++[p]) Ad o n ahead)/\(j<21->Holds bd V' puts Ad o):=by
 obtain⟨ix,sg,Y,l,nb,c,E,X,hs,g1,g2,g3,g4,g5⟩:=h;have aG:=aE l c g1 g2;have hv:=h2 c g1;have hpl:(AS s (Be p.1 p.2.1 p.2.2)).length=21:=by rw[EX,Fj]
 obtain⟨q1,q2,c',q3,q4⟩:=E.Ac n l rfl;rw[g1]at q3;cases q3;have L:=(Ew.1 E.G3).2.2;have aA:∀x∈Y,Ah x.1≠Ah n:=λx z e=>by
  have e2:=G4 (E.CO x z).1.1 q1.1 e;have:=L x.1 (Ed z) n (by simp);omega
 have W:FI V' 0 Y:=E.Av.br λx z=>by rw[I _ (aA x z)]
 have mk:∀l',(∀p∈l',Bq p)->HX (c.1++(AS s (Be p.1 p.2.1 p.2.2)).take j) (Ah n) (AG Y).length l'->CW bd V' ix sg Y (some (n,l')):=λl' aD aB=>
  ⟨E.Ea,by rw[I _ (Hs n).symm];exact E.Io,E.segs,λx z=>by rw[I _ (G8 n x.1).symm];exact E.Cy x z,λx z=>by rw[I _ (aA x z)];exact E.CO x z,W,
   λn' l2 e=>by cases e;exact⟨q1,aD,_,hv,aB⟩,E.G3,λk k1 k2 k3=>by
    by_cases e:Ah k=Ah n
    ·have:=G4 k1 q1.1 e;subst this;simp
    ·rw[I _ e]at k3;exact E.CH k k1 k2 k3,λnm O=>by
    by_cases e:nm=Ah n
    ·subst e;exact E.El _ (by rw[g1];simp)
    ·rw[I _ e]at O;exact E.El nm O,λnm d O=>by
    by_cases e:nm=Ah n
    ·subst e;rw[hv]at O;cases O;have:=E.E3 _ _ g1;dsimp only;rw[Ba];omega
    ·rw[I _ e]at O;exact E.E3 nm d O⟩
 constructor
 ·intro hj;have ht:(AS s (Be p.1 p.2.1 p.2.2)).take j=AS s (Be p.1 p.2.1 p.2.2):=Ec (by omega);have hb:c.1++(AS s (Be p.1 p.2.1 p.2.2)).take j=E6 (Ah n) ahead (l++[p]):=by rw[ht,g2,aG,(SG _ _ _ _).1]
  have aF:∀x∈l++[p],Bq x:=λx z=>by
   rcases AY.1 z with z|z
   ·exact q2 x z
   ·simp at z;subst z;exact hp
  refine⟨ix,sg,Y,l++[p],nb,_,mk _ aF (.inl ⟨[],by rw[hb,g3];simp,by simp⟩),by simp;omega,by rw[H0 X];exact hs,hv,hb,g3,?_,by rw[Lk X,<-g5]⟩;have:F4 c l<=F4 (c.1++(AS s (Be p.1 p.2.1 p.2.2)).take j,c.2) (l++[p]):=by unfold F4;simp;omega
  omega
 ·intro hj
  refine⟨ix,sg,Y,some (n,l),nb,mk l q2 (.inl ⟨_,by rw[g2,g3],by rw[BI];omega⟩),X,hs,λn' l' e=>by
   cases e
   exact⟨_,hv,by unfold F4 at g4 ⊢;exact g4,by rw[<-g5,Cc]⟩,λe=>by cases e⟩
end
end
end Go.Proofs.YtodcnkbblippnaaGreatDoor
