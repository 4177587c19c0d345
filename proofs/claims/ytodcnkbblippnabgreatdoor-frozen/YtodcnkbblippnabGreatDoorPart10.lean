/- Part 10 of a proof: walks of the program. -/
import Derived.Test.YtodcnkbblippnabGreatDoorPart09
namespace Go.Proofs.YtodcnkbblippnabGreatDoor
set_option maxRecDepth 100000
set_option maxHeartbeats 32000000
set_option linter.defProp false
open Go.Proofs.Tryz
section
open Go.RowKit
def OU{x y:Int}:Ci x y<0↔x<y:=by
 unfold Ci;by_cases h:x<y
 ·simp[h]
 ·rw[Ac h];split<;>simp<;>omega
def Iw:∀ {l:List Int},Cr Ci l=true↔l.Pairwise (· < ·)
 | []=>by simp[Cr]
 | [x]=>by simp[Cr]
 | x::y::r=>by
  have L:=@Iw (y::r);simp only[Cr,FV,DG,OU,L];constructor
  ·rintro⟨I,H⟩;refine D7.2 ⟨λz d=>?_,H⟩;rcases BP.1 d with rfl|d
   ·exact I
   ·exact Int.lt_trans I ((D7.1 H).1 z d)
  ·intro h;have E:=D7.1 h;exact⟨E.1 y (BD ..),E.2⟩
def ID{α:Type}[DecidableEq α]:∀ {l l':List α},l.Nodup->(∀x∈l,x∈l')->l.length<=l'.length
 | [],l',_,_=>by simp
 | x::r,l',h,hs=>by
  have d:=JS.1 h;have E:=hs x (BD ..);have ih:=ID (l':=l'.erase x) d.2 λy z=>(A22 (λe=>d.1 (by subst e;exact z))).2 (hs y (Br _ z))
  have hl:=A25 E;have:0<l'.length:=A24 E;simp only[CG];omega
def BW:Int->List (List Pu)->List (Int×List Pu)
 | _,[]=>[]
 | last,l::r=>(last+1,l):: BW (last+1) r
def Gr:∀ {l:List (List Pu)} {last:Int} {x:Int×List Pu},x∈BW last l->last<x.1/\x.1<=last+l.length/\x.2∈l
 | [],_,_,h=>by cases h
 | a::r,last,x,h=>by
  rcases BP.1 h with rfl|h
  ·simp;omega
  ·obtain⟨h1,h2,d⟩:=Gr h;simp only[CG];exact⟨by omega,by omega,Br _ d⟩
def NX:∀ {l:List (List Pu)} {last:Int},((BW last l).map (·.1)).Pairwise (· < ·)
 | [],_=>by simp[BW]
 | a::r,last=>by
  simp only[BW,GY];refine D7.2 ⟨λz h=>?_,NX⟩;obtain⟨x,d,rfl⟩:=CA.1 h;exact(Gr d).1
def LJ:∀ {l:List (List Pu)} {last:Int},(BW last l).length=l.length
 | [],_=>rfl
 | a::r,last=>by simp[BW,LJ]
def Km:∀ {l:List (List Pu)} {last:Int},Aw (BW last l)=l.flatten
 | [],_=>rfl
 | a::r,last=>by
  have:=@Km r (last+1);unfold Aw at this ⊢;simp[BW,this]
def Dg(l:List (List Pu)):Nat:=(l.map λx=>17*x.length+4).sum
section
variable {P P':PD} {A:Ar} {sg cl:List (Int×List Pu)} {ol:Option (List Pu)} {N R:Nat}
def Cm.ah:∀(fresh:List (List Pu)) (last:Int) (kept:List Int) {P:PD},Cm P (N+3*fresh.length) (R+Dg fresh)->0<=last->last+fresh.length<=4611686018427387904->
 (∀n,isNum n=true->last<n->P.bs (AG n)=none)->
 (PD.ah fresh last kept P).1=0/\(PD.ah fresh last kept P).2.1=last+fresh.length/\(PD.ah fresh last kept P).2.2.1=kept++(BW last fresh).map (·.1)/\Cm (PD.ah fresh last kept P).2.2.2 N R/\
  (∀x∈BW last fresh,(PD.ah fresh last kept P).2.2.2.bs (AG x.1)=some (AR (AE (AG x.1)) (Cd x.2)))/\
  ∀m,(∀x∈BW last fresh,m≠AG x.1)->(PD.ah fresh last kept P).2.2.2.bs m=P.bs m
 | [],last,kept,P,hc,h0,h1,hn=>⟨rfl,by simp[PD.ah],by simp[PD.ah,BW],by simpa[PD.ah,Dg] using hc,⟨λx z=>by simp[BW]at z,λm _=>rfl⟩⟩
 | l::r,last,kept,P,hc,h0,h1,hn=>by
  simp only[CG]at h1;have h:isNum (last+1)=true:=by unfold isNum;simp;omega
  have d:Dg (l::r)=(17*l.length+4)+Dg r:=by simp[Dg]
  obtain⟨a1,a2,H⟩:=Cm.aH (N:=N+3*r.length) (R:=R+Dg (l::r)) (nm:=AG (last+1)) (hc.ad (by simp;omega) (Au _)) (hn _ h (by omega)) (WB _) (AE (AG (last+1))) (Cd l) (by rw[HR,d];omega);rw[HR]at a2;have L:=a2.ad (N':=N+3*r.length) (R':=R+Dg r) (Au _) (by rw[d];omega);obtain⟨b1,b2,b3,b4,b5,O⟩:=Cm.ah r (last+1) (kept++[last+1]) L (by omega) (by omega) λn W hlt=>by
   (have E:AG n≠AG (last+1):=λe=>by have:=Kn W h e;omega);rw[H,Ac E];exact hn n W (by omega)
  have e:PD.ah (l::r) last kept P=PD.ah r (last+1) (kept++[last+1]) (P.aL (last+1) l).2:=by
   conv=>lhs;unfold PD.ah
   rw[Ac (by unfold PD.aL;simp[a1])]
  have e2:(P.aL (last+1) l).2=(P.aH (AG (last+1)) (AE (AG (last+1))) (Cd l)).2:=rfl;rw[e,e2];refine⟨b1,by rw[b2];simp only[CG];omega,by rw[b3];simp[BW],b4,λx z=>?_,λm hm=>?_⟩
  ·rcases BP.1 z with rfl|z
   ·dsimp only
    rw[O _ λy Y e=>?_,H,Af rfl];have Y:=Gr Y;(have I:isNum y.1=true:=by unfold isNum;simp;omega);have:=Kn h I e;omega
   ·exact b5 x z
  ·rw[O m λx z=>hm x (Br _ z),H,Ac (hm _ (BD ..))]
def IA{nm:Bs}:nm∈A.aV P↔P.bs nm≠none/\nm∉A.Ax:=by
 unfold Ar.aV;rw[GJ,GQ];simp
def Cm.au(E:Cm P N R){K M:Nat}(hK:(A.aV P).length<=K)(hN:N=M+K):(A.au P).1=0/\Cm (A.au P).2 M R/\∀m,(A.au P).2.bs m=if m∈A.Ax then P.bs m else none:=by
 obtain⟨I,H,L⟩:=Cm.aM (N:=M) (A.aV P) (E.ad (by omega) (Au _)) (V6 GL E.cJ) λm d=>(IA.1 d).1
 refine⟨I,H,λm=>?_⟩;show (PD.aM (A.aV P) P).2.bs m=_;rw[L];by_cases d:m∈A.Ax
 ·rw[Ac (λh=>(IA.1 h).2 d),Af d]
 ·rw[Ac d];by_cases z:P.bs m=none
  ·rw[z];simp
  ·rw[Af (IA.2 ⟨z,d⟩)]
def Cm.ag(hc:Cm P (N+4) R)(d:Int)(segs:List Int)(E:P.bs Bk=none)(hR:12+8*segs.length<=R):
 (P.ag d segs).1=0/\Cm (P.ag d segs).2 N (R-(12+8*segs.length))/\∀m,(P.ag d segs).2.bs m=if m=AI then some (AR (AE AI) (Ch d segs)) else P.bs m:=by
 have L:(Ch d segs).length=8+8*segs.length:=by unfold Ch;rw[AZ,CJ,IP]
 obtain⟨O,W,H⟩:=Cm.aH (N:=N+1) hc E (by simp[Bk]) (AE AI) (Ch d segs) (by omega);obtain⟨I,Y,b3⟩:=Cm.fx (N:=N) (nm:=AI) W (by rw[H,Af rfl]) (by simp[AI]) IN.symm;unfold PD.ag;rw[Ac (by simp[O])];refine⟨I,by have:=Y;rw[L]at this;exact this.ad (Au _) (by omega),λm=>?_⟩;rw[b3];by_cases h:m=AI
 ·simp[h]
 ·rw[Ac h,Ac h];by_cases z:m=Bk
  ·rw[Af z,z,E]
  ·rw[Ac z,H,Ac z]
def Lay.fS(h:Lay P A sg cl ol){x:Int×List Pu}(d:x∈sg):P.bs (AG x.1)≠none:=by rw[(h.Cq x d).2];simp
def Lay.cS(h:Lay P A sg cl ol){x:Int×List Pu}(d:x∈sg):isNum x.1=true:=h.Dz.segs _ (by rw[<-h.segs];exact DP d)
def Lay.cY(h:Lay P A sg cl ol){x:Int×List Pu}(d:x∈sg):x.1<=A.A8:=h.Ei.2 _ (h.cS d) (h.fS d)
def Lay.ay(h:Lay P A sg cl ol){K:Nat}(O:List (Int×List Pu))(fresh:List (List Pu))(hc:Cm P (N+A.AN.length+K+3*fresh.length+8+A.j.Aj.length+sg.length+fresh.length) (R+Dg fresh+12+8*(O.length+fresh.length)))(hK:P.Ax.length<=K)(aA:∀x∈O,x∈sg)(aO:(O.map (·.1)).Pairwise (· < ·))(hf:∀l∈fresh,(∀p∈l,Bg p)/\Cr Ck l=true)(hn:isNum (A.j.A8+1)=true)(a1:A.A8+fresh.length<=4611686018427387904):
 (A.ay P (O.map (·.1)) fresh).1=0/\(A.ay P (O.map (·.1)) fresh).2.1=⟨⟨A.j.A8+1,(O++BW A.A8 fresh).map (·.1)⟩,⟨[],A.j.A8,0,none⟩,A.A8+fresh.length,[]⟩/\Cm (A.ay P (O.map (·.1)) fresh).2.2 N R/\
  Lay (A.ay P (O.map (·.1)) fresh).2.2 (A.ay P (O.map (·.1)) fresh).2.1 (O++BW A.A8 fresh) [] none/\
  (∀m,(A.ay P (O.map (·.1)) fresh).2.2.bs m≠none->m∈AI::(O++BW A.A8 fresh).map λx=>AG x.1):=by
 obtain⟨s1,s2,s3,s4,s5⟩:=h.C (N:=N+K+3*fresh.length+8+A.j.Aj.length+sg.length+fresh.length) (R:=R+Dg fresh+12+8*(O.length+fresh.length)) (hc.ad (by omega) (Au _));have aM:(({A with AN:=[]}:Ar).aV (A.C P).2.2).length<=K:=by
  refine AQ ?_ hK;refine ID (V6 GL s3.cJ) λm I=>?_;rw[GQ,<-s4];exact(IA.1 I).1
 obtain⟨w1,w2,w3⟩:=Cm.au (A:={A with AN:=[]}) s3 (K:=K) (M:=N+3*fresh.length+8+A.j.Aj.length+sg.length+fresh.length) aM (by omega);have H:∀m,m∈({A with AN:=[]}:Ar).Ax↔m=AI\/(∃n∈A.j.Aj,m=Ae n)\/∃x∈sg,m=AG x.1:=λm=>by
  unfold Ar.Ax;dsimp only
  rw[<-h.segs];simp[eq_comm]
 have aK:∀n,isNum n=true->A.A8<n->(({A with AN:=[]}:Ar).au (A.C P).2.2).2.bs (AG n)=none:=λn hk hlt=>by
  rw[w3];split
  ·rw[s4];cases d:P.bs (AG n) with
   | none=>rfl
   | some c=>have:=h.Ei.2 n hk (by rw[d];simp);omega
  ·rfl
 obtain⟨g1,g2,g3,g4,g5,g6⟩:=Cm.ah (N:=N+8+A.j.Aj.length+sg.length+fresh.length) (R:=R+12+8*(O.length+fresh.length)) fresh A.A8 (O.map (·.1)) (w2.ad (by omega) (by omega)) h.Ei.1 a1 aK;generalize a3:(({A with AN:=[]}:Ar).au (A.C P).2.2).2=P1 at w3 aK g1 g2 g3 g4 g5 g6;generalize a4:(PD.ah fresh A.A8 (O.map (·.1)) P1).2.2.2=P2 at g4 g5 g6;obtain⟨W,aD⟩:∃W,O++BW A.A8 fresh=W:=⟨_,rfl⟩;have aJ:W.map (·.1)=O.map (·.1)++(BW A.A8 fresh).map (·.1):=by rw[<-aD,E6]
 have aW:W.length=O.length+fresh.length:=by rw[<-aD,AZ,LJ]
 have aP:P2.bs Bk=none:=by
  rw[g6 _ λx _=>(Ly x.1).symm,w3,Ac];rw[H];rintro (e|⟨n,_,e⟩|⟨x,_,e⟩)
  ·exact IN e.symm
  ·exact Ku n e.symm
  ·exact Ly x.1 e.symm
 have aB:∀x∈W,isNum x.1=true:=λx d=>by
  rw[<-aD]at d;rcases AV.1 d with d|d
  ·exact h.cS (aA x d)
  ·have:=Gr d;have:=h.Ei.1;unfold isNum;simp;omega
 have aY:∀x∈W,x.1<=A.A8+fresh.length:=λx d=>by
  rw[<-aD]at d;rcases AV.1 d with d|d
  ·have:=h.cY (aA x d);omega
  ·have:=Gr d;omega
 have aH:(W.map (·.1)).Pairwise (· < ·):=by
  rw[aJ];refine Eg.2 ⟨aO,NX,λa ha b hb=>?_⟩;obtain⟨x,d,rfl⟩:=CA.1 ha;obtain⟨y,hy,rfl⟩:=CA.1 hb;have h1:=h.cY (aA x d);have Y:=Gr hy;omega
 have aF:∀x∈W,((∀p∈x.2,Bg p)/\Cr Ck x.2=true)/\P2.bs (AG x.1)=some (AR (AE (AG x.1)) (Cd x.2)):=λx d=>by
  rw[<-aD]at d;rcases AV.1 d with d|d
  ·have a0:=h.Cq x (aA x d);refine⟨a0.1,?_⟩;rw[g6 _ λy hy e=>?_,w3,Af ((H _).2 (.inr (.inr ⟨x,aA x d,rfl⟩))),s4,a0.2];have Y:=Gr hy;have h3:=h.Ei.1;have:=Kn (h.cS (aA x d)) (by unfold isNum;simp;omega) e;have h1:=h.cY (aA x d);omega
  ·exact⟨hf _ (Gr d).2.2,g5 x d⟩
 have aN:∃aE,(({A with AN:=[],A8:=A.A8+fresh.length}:Ar).ag P2 (W.map (·.1)))=(0,⟨⟨A.j.A8+1,W.map (·.1)⟩,⟨[],A.j.A8,0,none⟩,A.A8+fresh.length,[]⟩,aE)/\Cm aE (N+4+A.j.Aj.length+sg.length+fresh.length) R/\((aE.bs AI=none/\A.j.A8=0/\W=[])\/aE.bs AI=some (AR (AE AI) (Ch (A.j.A8+1) (W.map (·.1)))))/\∀m,m≠AI->aE.bs m=P2.bs m:=by
  unfold Ar.ag;dsimp only
  by_cases z:A.ix.B7=A.j.A8+1/\A.ix.segs=W.map (·.1)
  ·rw[Af z];have aR:cl=[]:=by
    cases aR:cl with
    | nil=>rfl
    | cons x r=>
     (have d:x∈cl:=by rw[aR];exact BD ..);have h1:=h.Ey.1 x d;have Y:=(h.CO x d).1.2;have:=z.1;omega
   have a2:ol=none:=by
    cases ol with
    | none=>rfl
    | some l=>have:=h.Ey.2 (by simp);have:=z.1;omega
   subst aR a2;have hj:A.j=⟨[],A.j.A8,0,none⟩:=by
    have h1:=h.AF;have Y:=h.Gc;(have e:∀j:Jn,j.AF=none->j.Aj=[]->j.puts=0->j=⟨[],j.A8,0,none⟩:=λj a b c=>by cases j;simp_all);exact e _ h1.1 (by simpa using h1.2) (by simpa[Aw] using Y)
   have hi:A.ix=⟨A.j.A8+1,W.map (·.1)⟩:=by
    have e:∀i:Ix,i=⟨i.B7,i.segs⟩:=λi=>rfl;rw[e A.ix,z.1,z.2]
   refine⟨P2,?_,g4.ad (by omega) (by omega),?_,λ_ _=>rfl⟩
   ·conv=>lhs;rw[hj,hi]
   ·rw[g6 _ λx _=>(Jf x.1).symm,w3,Af ((H _).2 (.inl rfl)),s4];rcases h.ix with⟨h1,Y⟩|Y
    ·rw[Y]at z;exact .inl ⟨h1,by have:=z.1;dsimp only at this;omega,by simpa using z.2⟩
    ·exact .inr (by rw[Y,z.1,z.2])
  ·rw[Ac z];obtain⟨t1,t2,t3⟩:=Cm.ag (N:=N+4+A.j.Aj.length+sg.length+fresh.length) (R:=R+12+8*W.length) (g4.ad (by omega) (by rw[aW];omega)) (A.j.A8+1) (W.map (·.1)) aP (by simp);rw[Ac (by simp[t1])];refine⟨_,rfl,t2.ad (Au _) (by simp;omega),.inr (by rw[t3,Af rfl]),λm I=>by rw[t3,Ac I]⟩
 obtain⟨aE,t1,t2,t3,t4⟩:=aN;have aV:∀m,aE.bs m≠none->m=AI\/(∃n∈A.j.Aj,m=Ae n)\/(∃x∈sg,m=AG x.1)\/∃x∈BW A.A8 fresh,m=AG x.1:=λm I=>by
  by_cases e:m=AI
  ·exact .inl e
  ·rw[t4 m e]at I;by_cases e2:∃x∈BW A.A8 fresh,m=AG x.1
   ·exact .inr (.inr (.inr e2))
   ·rw[g6 m λx d e3=>e2 ⟨x,d,e3⟩,w3]at I;by_cases e3:m∈({A with AN:=[]}:Ar).Ax
    ·rcases(H m).1 e3 with h|h|h
     ·exact .inl h
     ·exact .inr (.inl h)
     ·exact .inr (.inr (.inl h))
    ·rw[Ac e3]at I;exact absurd rfl I
 obtain⟨aG,aI⟩:∃aG:Ar,(⟨⟨A.j.A8+1,W.map (·.1)⟩,⟨[],A.j.A8,0,none⟩,A.A8+fresh.length,[]⟩:Ar)=aG:=⟨_,rfl⟩;have E:∀m,m∈aG.Ax↔m=AI\/∃x∈W,m=AG x.1:=λm=>by
  rw[<-aI];unfold Ar.Ax;dsimp only;simp[eq_comm]
 have aQ:(aG.aV aE).length<=1+A.j.Aj.length+sg.length+fresh.length:=by
  have h1:(aG.aV aE).length<=(AI::(A.j.Aj.map Ae++(sg.map (λx=>AG x.1)++(BW A.A8 fresh).map λx=>AG x.1))).length:=
   ID (V6 GL t2.cJ) λm I=>by
    rcases aV m (IA.1 I).1 with h|⟨n,h1,Y⟩|⟨n,h1,Y⟩|⟨n,h1,Y⟩
    ·subst h;exact BD ..
    ·subst Y;exact Br _ (Fx _ (DP h1))
    ·subst Y;exact Br _ (GX _ (Fx _ (CA.2 ⟨n,h1,rfl⟩)))
    ·subst Y;exact Br _ (GX _ (GX _ (CA.2 ⟨n,h1,rfl⟩)))
  simp only[CG,AZ,FR,LJ]at h1;omega
 obtain⟨v1,v2,v3⟩:=Cm.au (A:=aG) (t2.ad (N':=N+1+(1+A.j.Aj.length+sg.length+fresh.length)) (by omega) (Au _)) aQ (M:=N+1) (by omega);obtain⟨d1,d2,d3⟩:=Cm.dH (N:=N) v2;obtain⟨aS,aX⟩:∃aS,(aG.au aE).2.aK.2=aS:=⟨_,rfl⟩;have aZ:A.ay P (O.map (·.1)) fresh=(0,aG,aS):=by
  unfold Ar.ay;dsimp only
  rw[Ac (by simp[s1]),s2,Ac (by simp[w1]),a3];dsimp only
  rw[Ac (by simp[g1]),g2,g3,a4,<-aJ,t1,aI];dsimp only
  rw[Ac (by simp)];unfold Ar.aZ;rw[Ac (by simp[v1]),d1,aX]
 rw[aX]at d2 d3;have L:∀m,aS.bs m=if m∈aG.Ax then aE.bs m else none:=λm=>by rw[d3,v3]
 have aL:∀x∈W,aS.bs (AG x.1)=some (AR (AE (AG x.1)) (Cd x.2)):=λx d=>by
  rw[L,Af ((E _).2 (.inr ⟨x,d,rfl⟩)),t4 _ (Jf _)];exact(aF x d).2
 have aU:aS.bs AI=aE.bs AI:=by rw[L,Af ((E _).2 (.inl rfl))]
 rw[aZ];dsimp only
 rw[aD];refine⟨rfl,aI.symm,d2,?_,λm I=>?_⟩
 ·rw[<-aI];refine⟨⟨hn,λn I=>?_,Iw.2 aH⟩,?_,rfl,λx d=>⟨(aF x d).1,aL x d⟩,λx d=>(by cases d),λx d=>(by cases d),⟨λx d=>(by cases d),λh=>absurd rfl h⟩,trivial,rfl,⟨rfl,rfl⟩,⟨h.Ew.1,Hp _,λn hk d=>?_⟩,⟨by have:=h.Ei.1;dsimp only;omega,λn hk d=>?_⟩,λnm I=>(by cases I),List.Pairwise.nil,λnm I=>?_,λn hk _ d=>?_⟩
  ·obtain⟨x,d,rfl⟩:=CA.1 I;exact aB x d
  ·rw[aU];rcases t3 with⟨q1,q2,q3⟩|q
   ·exact .inl ⟨q1,by dsimp only;rw[q2,q3];rfl⟩
   ·exact .inr q
  ·rw[L,Ac]at d
   ·exact absurd rfl d
   ·rw[E];rintro (e|⟨x,_,e⟩)
    ·exact H6 n e
    ·exact FK n x.1 e
  ·rw[L]at d;split at d
   ·rename_i I;rcases(E _).1 I with e|⟨x,aT,e⟩
    ·exact absurd e (Jf n)
    ·have:=Kn hk (aB x aT) e;rw[this];exact aY x aT
   ·exact absurd rfl d
  ·rw[L]at I;split at I
   ·rename_i Y;rcases(E _).1 Y with e|⟨x,d,e⟩
    ·subst e;rw[Sh];simp
    ·subst e;rw[O3 (aB x d)];simp
   ·exact absurd rfl I
  ·rw[L,Ac]at d
   ·exact absurd rfl d
   ·rw[E];rintro (e|⟨x,_,e⟩)
    ·exact H6 n e
    ·exact FK n x.1 e
 ·rw[L]at I;split at I
  ·rename_i Y;rcases(E _).1 Y with e|⟨x,d,e⟩
   ·subst e;exact BD ..
   ·subst e;exact Br _ (CA.2 ⟨x,d,rfl⟩)
  ·exact absurd rfl I
end
def BC(l:List Pu)(k t:Int):Option Int:=l.foldl (λo p=>if p.1=k/\p.2.1=t then some p.2.2 else o) none
def I1(l:List Pu)(p:Pu)(k t:Int):BC (l++[p]) k t=if p.1=k/\p.2.1=t then some p.2.2 else BC l k t:=by simp[BC]
def Zb(l:List Pu)(k t:Int):∀o,l.foldl (λo p=>if p.1=k/\p.2.1=t then some p.2.2 else o) o=(BC l k t).or o:=by
 induction l with
 | nil=>intro o;simp[BC]
 | cons p r ih=>
  intro o;have h:=ih (if p.1=k/\p.2.1=t then some p.2.2 else o);have d:=ih (if p.1=k/\p.2.1=t then some p.2.2 else none);unfold BC at h d ⊢;simp only[MG]at h d ⊢;rw[h,d];cases r.foldl (λo p=>if p.1=k/\p.2.1=t then some p.2.2 else o) none with
  | some x=>simp
  | none=>
   simp only[Option.none_or];split<;>simp
def Gs(a b:List Pu)(k t:Int):BC (a++b) k t=(BC b k t).or (BC a k t):=by
 have:=Zb b k t (BC a k t);unfold BC at this ⊢;rw[Lf,this]
def SP(l:List Pu)(k t:Int)(q:Pu->Bool)(E:∀p∈l,p.1=k->p.2.1=t->q p=true):BC (l.filter q) k t=BC l k t:=by
 induction l with
 | nil=>rfl
 | cons p r ih=>
  have d:=ih λx z=>E x (Br _ z);have e:∀x:Pu,∀l:List Pu,BC (x::l) k t=(BC l k t).or (BC [x] k t):=λx l=>Gs [x] l k t;by_cases h:q p=true
  ·rw[Io h,e p r,e p (r.filter q),d]
  ·rw[JV h,e p r,d];have:¬(p.1=k/\p.2.1=t):=λz=>h (E p (BD ..) z.1 z.2);simp[BC,this]
def SO{l:List Pu}{k t:Int}:BC l k t=none↔∀p∈l,¬(p.1=k/\p.2.1=t):=by
 induction l with
 | nil=>simp[BC]
 | cons p r ih=>
  have e:BC (p::r) k t=(BC r k t).or (BC [p] k t):=Gs [p] r k t;rw[e,Option.or_eq_none_iff,ih];simp only[BP,forall_eq_or_imp];constructor
  ·rintro⟨z,d⟩;exact⟨λh=>by simp[BC,h]at d,z⟩
  ·rintro⟨z,d⟩;exact⟨d,by simp[BC,z]⟩
def Za{l:List Pu}{k t v:Int}(h:BC l k t=some v):(k,t,v)∈l:=by
 induction l with
 | nil=>cases h
 | cons p r ih=>
  have e:BC (p::r) k t=(BC r k t).or (BC [p] k t):=Gs [p] r k t;rw[e]at h;cases hr:BC r k t with
  | some x=>
   rw[hr]at h;simp at h;subst h;exact Br _ (ih hr)
  | none=>
   rw[hr]at h;simp only[Option.none_or]at h;by_cases d:p.1=k/\p.2.1=t
   ·simp[BC,d]at h;obtain⟨a,b,c⟩:=p
    simp_all
   ·simp[BC,d]at h
def I2{len:Int}{p q:Pu}:AA len p q=true↔BA p.2.1 len<BA q.2.1 len\/BA p.2.1 len=BA q.2.1 len/\(p.1<q.1\/p.1=q.1/\p.2.1<q.2.1):=by simp[AA]
def Zl{len:Int}{p q r:Pu}(h1:AA len p q=true)(h2:AA len q r=true):AA len p r=true:=by
 rw[I2]at *;omega
def Zo{len:Int}{p q:Pu}(h:AA len p q=true):¬(p.1=q.1/\p.2.1=q.2.1):=by
 rw[I2]at h;rintro⟨h1,d⟩;rw[d]at h;omega
def TX{p q:Pu}:Ck p q=0↔p.1=q.1/\p.2.1=q.2.1:=by
 have h:∀x y:Int,Ci x y=0↔x=y:=λx y=>by
  unfold Ci;by_cases d:x<y
  ·simp[d];omega
  ·by_cases z:y<x
   ·simp[d,z];omega
   ·simp[d,z];omega
 unfold Ck;by_cases d:Ci p.1 q.1=0
 ·simp[h,(h _ _).1 d]
 ·simp only[Jq,d,NY,Cg,false_iff];exact λE=>d ((h _ _).2 E.1)
def A1G{p q:Pu}:Ck p q<0↔p.1<q.1\/p.1=q.1/\p.2.1<q.2.1:=by
 unfold Ck;by_cases h:p.1=q.1
 ·have:Ci p.1 q.1=0:=by rw[h];simp[Ci]
  rw[Ac (by simp[this]),OU];omega
 ·have:Ci p.1 q.1≠0:=by
   unfold Ci;by_cases d:p.1<q.1
   ·simp[d]
   ·rw[Ac d,Af (by omega)];simp
  rw[Af this,OU];omega
def Zm{len:Int}{p q:Pu}(h:BA p.2.1 len=BA q.2.1 len)(E:AA len p q=false)(z:Ck p q≠0):AA len q p=true:=by
 have d:¬(AA len p q=true):=by simp[E]
 rw[I2]at d ⊢;rw[Jq,TX]at z;omega
def Zn{len:Int}{p q:Pu}(h:BA p.2.1 len≠BA q.2.1 len)(z:AA len p q=false):BA q.2.1 len<BA p.2.1 len:=by
 have d:¬(AA len p q=true):=by simp[z]
 rw[I2]at d;omega
def Wp(len:Int)(h:BS (AA len))(l:List Pu)(k t:Int):BC (DZ (AA len) l) k t=BC l k t:=by
 have E:=h.cr l (k,t,0);have d:∀m:List Pu,∀p∈m,p.1=k->p.2.1=t->eqv (AA len) (k,t,0) p=true:=λm p _ H z=>by
  subst H z;simp[eqv,AA]
 rw[<-SP l k t _ (d l),<-SP (DZ (AA len) l) k t _ (d _),E]
structure WI (len:Int) (ws:List (List Pu)) (s:List Pu):Prop where
 KQ:ws.flatten.Pairwise (λa b=>AA len a b=true)
 A8:∀k t,BC ws.flatten k t=BC s k t
 Dy:∀x∈ws.flatten,x∈s
 ne:∀w∈ws,w≠[]
 G2:∀w∈ws,∀p∈w,∀q∈w,BA p.2.1 len=BA q.2.1 len
 KR:ws.Pairwise λw w'=>∀p∈w,∀q∈w',BA p.2.1 len<BA q.2.1 len
 B8:ws.flatten.length<=s.length
def WI.cE{len:Int}{ws:List (List Pu)}{s:List Pu}(h:WI len ws s)(p:Pu)(L:∀x∈ws.flatten,BA x.2.1 len<BA p.2.1 len):WI len (ws++[[p]]) (s++[p]):=by
 have e:(ws++[[p]]).flatten=ws.flatten++[p]:=by simp
 have I:∀w∈ws,∀x∈w,x∈ws.flatten:=λw d x z=>MC.2 ⟨w,d,z⟩;refine⟨?_,λk t=>?_,λx z=>?_,λw d=>?_,λw d=>?_,?_,?_⟩
 ·rw[e,Eg];refine⟨h.KQ,by simp,λa H b E=>?_⟩;simp at E;subst E;rw[I2];exact .inl (L a H)
 ·rw[e,I1,I1,h.A8]
 ·rw[e]at z;rcases AV.1 z with z|z
  ·exact Fx _ (h.Dy x z)
  ·exact GX _ z
 ·rcases AV.1 d with d|d
  ·exact h.ne w d
  ·simp at d;subst d;simp
 ·rcases AV.1 d with d|d
  ·exact h.G2 w d
  ·simp at d;subst d;intro a H b E;simp at H E;subst H E;rfl
 ·rw[Eg];refine⟨h.KR,by simp,λa H b E x z y O=>?_⟩;simp at E;subst E;simp at O;subst O;exact L x (I a H x z)
 ·rw[e,AZ,AZ];have:=h.B8;simp only[Pl];omega
def WI.ag{len:Int}{d:List (List Pu)}{w w':List Pu}{s s':List Pu}{q:Pu}(h:WI len (d++[w]) s)(hq:q∈w)(L:(d.flatten++w').Pairwise (λa b=>AA len a b=true))(I:∀k t,BC (d.flatten++w') k t=BC s' k t)(W:∀x∈w',x∈s')(Y:∀x∈s,x∈s')(aA:w'≠[])(E:∀p∈w',BA p.2.1 len=BA q.2.1 len)(hlen:w'.length+s.length<=w.length+s'.length):WI len (d++[w']) s':=by
 have e:∀v:List Pu,(d++[v]).flatten=d.flatten++v:=λv=>by simp
 have O:=Eg.1 h.KR;refine⟨by rw[e];exact L,λk t=>by rw[e];exact I k t,λx H=>?_,λv z=>?_,λv z=>?_,?_,?_⟩
 ·rw[e]at H;rcases AV.1 H with H|H
  ·exact Y x (h.Dy x (by rw[e];exact Fx _ H))
  ·exact W x H
 ·rcases AV.1 z with z|z
  ·exact h.ne v (Fx _ z)
  ·simp at z;subst z;exact aA
 ·rcases AV.1 z with z|z
  ·exact h.G2 v (Fx _ z)
  ·simp at z;subst z;intro a ha b hb;rw[E a ha,E b hb]
 ·rw[Eg];refine⟨O.1,by simp,λa ha b hb x H y hy=>?_⟩;simp at hb;subst hb;rw[E y hy];exact O.2.2 a ha w (by simp) x H q hq
 ·rw[e];have:=h.B8;rw[e]at this;simp only[AZ]at this ⊢;omega
def WI.a8{len:Int}{z:List (List Pu)}{I:List Pu}{q E p:Pu}{s:List Pu}(h:WI len (z++[I++[q]]) s)(hq:q.1=E.1/\q.2.1=E.2.1)(hp:AA len p E=false):
 ∃Y w1,Er len (z++[I++[q]]) false E p=Y++[w1++[p]]/\WI len (Y++[w1++[p]]) (s++[p]):=by
 have aE:AA len p q=false:=by
  have:AA len p q=AA len p E:=by unfold AA;rw[hq.1,hq.2]
  rw[this];exact hp
 have O:q∈I++[q]:=by simp
 have e:∀v:List Pu,(z++[v]).flatten=z.flatten++v:=λv=>by simp
 have H:=h.KQ;rw[e]at H;have hall:∀x∈z.flatten++(I++[q]),x=q\/AA len x q=true:=λx d=>by
  rw[<-Cc]at d H;rcases AV.1 d with d|d
  ·exact .inr ((Eg.1 H).2.2 x d q (by simp))
  ·exact .inl (by simpa using d)
 unfold Er;dsimp only
 by_cases L:BA p.2.1 len=BA E.2.1 len
 ·have hw:BA p.2.1 len=BA q.2.1 len:=by rw[L,hq.2]
  have W:¬(false=true\/BA p.2.1 len≠BA E.2.1 len):=by simp[L]
  simp only[Ac W];have hl:(z++[I++[q]]).getLastD []=I++[q]:=by simp
  have aF:(I++[q]).getLastD (0,0,0)=q:=by simp
  have hd:(z++[I++[q]]).dropLast=z:=by simp
  have aB:(I++[q]).dropLast=I:=by simp
  rw[hl,aF,hd,aB];by_cases hz:Ck p q=0
  ·rw[Af ⟨by simp,hz⟩];have hk:=TX.1 hz;refine⟨z,I,rfl,h.ag O ?_ (λk t=>?_) (λx d=>?_) (λx d=>Fx _ d) (by simp) (λx d=>?_) (by simp)⟩
   ·rw[<-Cc]at H ⊢;have ha:=Eg.1 H;rw[Eg];refine⟨ha.1,by simp,λa aG b hb=>?_⟩;simp at hb;subst hb;have:=ha.2.2 a aG q (by simp);rw[I2]at this ⊢;rw[hk.1,hk.2];exact this
   ·rw[<-Cc,I1,I1,<-h.A8,e,<-Cc,I1];by_cases d:p.1=k/\p.2.1=t
    ·simp[d]
    ·rw[Ac d,Ac d,Ac (by rw[<-hk.1,<-hk.2];exact d)]
   ·rcases AV.1 d with d|d
    ·exact Fx _ (h.Dy x (by rw[e];simp[d]))
    ·exact GX _ d
   ·rcases AV.1 d with d|d
    ·exact h.G2 _ (by simp) x (by simp[d]) q O
    ·simp at d;subst d;exact hw
  ·rw[Ac (by simp[hz])];have aA:=Zm hw aE hz;refine⟨z,I++[q],rfl,h.ag O ?_ (λk t=>?_) (λx d=>?_) (λx d=>Fx _ d) (by simp) (λx d=>?_) (by simp;omega)⟩
   ·rw[<-Cc,Eg];refine⟨H,by simp,λa ha b hb=>?_⟩;simp at hb;subst hb;rcases hall a ha with rfl|d
    ·exact aA
    ·exact Zl d aA
   ·rw[<-Cc,I1,I1,<-h.A8,e]
   ·rcases AV.1 d with d|d
    ·exact Fx _ (h.Dy x (by rw[e];exact GX _ d))
    ·exact GX _ d
   ·rcases AV.1 d with d|d
    ·exact h.G2 _ (by simp) x d q O
    ·simp at d;subst d;exact hw
 ·have W:false=true\/BA p.2.1 len≠BA E.2.1 len:=.inr L;simp only[Af W];have hl:(z++[I++[q]]++[[]]).getLastD []=([]:List Pu):=by simp
  have hd:(z++[I++[q]]++[[]]).dropLast=z++[I++[q]]:=by simp
  rw[hl,hd,Ac (by simp)];refine⟨z++[I++[q]],[],by simp,?_⟩;have aD:BA q.2.1 len<BA p.2.1 len:=by
   have:=Zn L hp;rw[hq.2];exact this
  have:=h.cE p λx d=>?_
  ·simpa using this
  ·rw[e]at d;rcases hall x d with rfl|d
   ·exact aD
   ·rw[I2]at d;omega
def PR{len:Int}:∀(r:List Pu) (z:List (List Pu)) (H:List Pu) (q d:Pu) (s:List Pu),WI len (z++[H++[q]]) s->q.1=d.1/\q.2.1=d.2.1->B1 (AA len) (d::r)->WI len (E9 len r false d (z++[H++[q]])) (s++r)
 | [],z,H,q,d,s,h,_,_=>by simpa[E9] using h
 | p::r,z,H,q,d,s,h,hq,ha=>by
  have E:=D7.1 ha;obtain⟨I,L,W,O⟩:=h.a8 hq (E.1 p (BD ..));unfold E9;rw[W];have:=PR r I L p p (s++[p]) O ⟨rfl,rfl⟩ E.2;simpa using this
def Vr{len:Int}(s:List Pu)(z:B1 (AA len) s):WI len (E9 len s true (0,0,0) []) s:=by
 cases s with
 | nil=>exact⟨by simp[E9],λ_ _=>rfl,λx h=>by simp[E9]at h,λw d=>by simp[E9]at d,λw d=>by simp[E9]at d,by simp[E9],by simp[E9]⟩
 | cons p r=>
  unfold E9;have e:Er len [] true (0,0,0) p=[]++[[]++[p]]:=by simp[Er]
  rw[e];have H:WI len [] []:=⟨by simp,λ_ _=>rfl,λx h=>by simp at h,λw d=>by simp at d,λw d=>by simp at d,by simp,by simp⟩;have E:=H.cE p (by simp);have:=PR r [] [] p p [p] (by simpa using E) ⟨rfl,rfl⟩ z;simpa using this
def H9{len:Int}(E:BS (AA len))(l:List Pu):WI len (Bx len l) l:=by
 have h:=Vr (len:=len) (DZ (AA len) l) (E.ew l);have d:∀x∈DZ (AA len) l,x∈l:=λx I=>Bf.Dy E (E.cr l).bF I;have z:(DZ (AA len) l).length=l.length:=by
  have H:∀(l s:List Pu),(l.foldl (λs x=>ET (AA len) x s) s).length=s.length+l.length:=by
   intro l
   induction l with
   | nil=>intro s;rfl
   | cons x r ih=>
    intro s;have L:∀m:List Pu,(ET (AA len) x m).length=m.length+1:=by
     intro m
     induction m with
     | nil=>rfl
     | cons y m ihm=>unfold ET;split<;>simp[ihm]
    rw[MG,ih,L,CG];omega
  have:=H l [];simpa[DZ] using this
 exact⟨h.KQ,λk t=>by rw[<-Wp len E l k t];exact h.A8 k t,λx I=>d x (h.Dy x I),h.ne,h.G2,h.KR,by rw[<-z];exact h.B8⟩
def WI.EE{len:Int}{ws:List (List Pu)}{s:List Pu}(h:WI len ws s){w:List Pu}(I:w∈ws):Cr Ck w=true:=by
 have z:=List.Pairwise.sublist (Mz I) h.KQ;have L:=h.G2 w I;have E:∀m:List Pu,(∀x∈m,x∈w)->m.Pairwise (λa b=>AA len a b=true)->Cr Ck m=true:=by
  intro m
  induction m with
  | nil=>intro _ _;rfl
  | cons a m ih=>
   intro H z;cases m with
   | nil=>rfl
   | cons b m=>
    have d:=D7.1 z;simp only[Cr,FV,DG];refine⟨?_,ih (λx O=>H x (Br _ O)) d.2⟩;have:=d.1 b (BD ..);rw[I2]at this;have e:=L a (H a (BD ..)) b (H b (by simp));rw[A1G];omega
 exact E w (λ_ h=>h) z
def GV{ws:List (List Pu)}(h:∀w∈ws,w≠[]):ws.length<=ws.flatten.length:=by
 induction ws with
 | nil=>simp
 | cons w r ih=>
  have h1:=ih λx d=>h x (Br _ d);have h2:=J0.2 (h w (BD ..));rw[J3,AZ,CG];omega
def Jg(ws:List (List Pu)):Dg ws=17*ws.flatten.length+4*ws.length:=by
 unfold Dg
 induction ws with
 | nil=>rfl
 | cons w r ih=>
  rw[GY,List.sum_cons,ih,J3,AZ,CG];omega
section
variable {P P':PD} {A:Ar} {sg cl:List (Int×List Pu)} {ol:Option (List Pu)} {N R:Nat} {Ai oldest:Int}
def Lay.b0(h:Lay P A sg cl ol):∀p∈Aw cl++ol.getD [],Bg p:=by
 intro p d;rcases AV.1 d with d|d
 ·obtain⟨x,z,d⟩:=List.mem_flatMap.1 d;exact(h.CO x z).2 p d
 ·cases ol with
  | none=>simp at d
  | some l=>exact h.AF.2.2.2.1 p (by simpa using d)
def Lay.cP(h:Lay P A sg cl ol):∀p∈Aw sg,Bg p:=by
 intro p d;obtain⟨x,z,d⟩:=List.mem_flatMap.1 d;exact(h.Cq x z).1.1 p d
def C8(o:Int)(a b:List Pu):Prop:=(∀k t,o<=t->BC a k t=BC b k t)/\(∀p∈a,∃q∈b,q.1=p.1/\q.2.1=p.2.1)/\a.length<=b.length
def Lay.aT(h:Lay P A sg cl ol)(hw:BS (AA Ai)){K n:Nat}(hn:(Aw cl++ol.getD []).length<=n)(hn2:n<=1099511627776)(hK:P.Ax.length<=K)(hsl:sg.length<=K)(hjl:A.j.Aj.length<=K)(hll:A.AN.length<=K)(hc:Cm P (N+4*K+4*n+8) (R+29*n+12+8*K))(E:isNum (A.j.A8+1)=true)(hln:A.A8+n<=4611686018427387904):
 (A.aT P Ai).1=0/\Cm (A.aT P Ai).2.2 N R/\
  ∃fresh,(A.aT P Ai).2.1=⟨⟨A.j.A8+1,(sg++BW A.A8 fresh).map (·.1)⟩,⟨[],A.j.A8,0,none⟩,A.A8+fresh.length,[]⟩/\Lay (A.aT P Ai).2.2 (A.aT P Ai).2.1 (sg++BW A.A8 fresh) [] none/\
   (∀m,(A.aT P Ai).2.2.bs m≠none->m∈AI::(sg++BW A.A8 fresh).map λx=>AG x.1)/\fresh.length<=fresh.flatten.length/\fresh.flatten.length<=(Aw cl++ol.getD []).length/\(∀k t,BC (B6 (sg++BW A.A8 fresh) [] none) k t=BC (B6 sg cl ol) k t)/\(∀p∈fresh.flatten,Bg p):=by
 have z:=h.puts (by rw[AZ]at hn;omega);have d:=H9 hw (Aw cl++ol.getD []);generalize I:Bx Ai (Aw cl++ol.getD [])=fresh at d;have L:=GV d.ne;have H:=d.B8;have hcost:=Jg fresh;have e:A.aT P Ai=A.ay P (sg.map (·.1)) fresh:=by
  unfold Ar.aT;rw[z,Ac (by simp),I,h.segs]
 rw[e];obtain⟨Y,r2,W,r4,r5⟩:=h.ay (N:=N) (R:=R) (K:=K) sg fresh (hc.ad (by omega) (by omega)) hK (λ_ h=>h) (Iw.1 (by rw[h.segs];exact h.Dz.EE))
  (λl O=>⟨λp z=>h.b0 p (d.Dy p (MC.2 ⟨l,O,z⟩)),d.EE O⟩) E (by omega)
 refine⟨Y,W,fresh,r2,r4,r5,L,H,λk t=>?_,λp z=>h.b0 p (d.Dy p z)⟩;unfold B6;have e1:Aw (sg++BW A.A8 fresh)=Aw sg++fresh.flatten:=by
  have:=@Km fresh A.A8;unfold Aw at this ⊢;rw[UY,this]
 rw[e1];simp only[Aw,List.flatMap_nil,Option.getD_none,Gh];rw[Gs,Gs,d.A8];rfl
def G4(segs:List (Int×List Pu))(oldest:Int):List (List Pu)->List (Int×List Pu)
 | []=>[]
 | l::r=>if l.any (λp=>decide (oldest<=p.2.1))=false then G4 segs oldest r else
  match segs.find? λs=>decide (s.2=l) with
  | none=>G4 segs oldest r
  | some s=>s::G4 segs oldest r
def Jt(segs:List (Int×List Pu))(oldest:Int):∀ws,(BG segs oldest ws).1=(G4 segs oldest ws).map (·.1)
 | []=>rfl
 | l::r=>by
  have d:=Jt segs oldest r;unfold BG G4;split
  ·exact d
  ·cases segs.find? λs=>decide (s.2=l) with
   | none=>exact d
   | some s=>simp[d]
def Kx{segs:List (Int×List Pu)}{oldest:Int}:∀ {ws:List (List Pu)} {x:Int×List Pu},x∈G4 segs oldest ws->x∈segs/\x.2∈ws
 | l::r,x,h=>by
  unfold G4 at h;split at h
  ·have:=Kx h;exact⟨this.1,Br _ this.2⟩
  ·cases hx:segs.find? λs=>decide (s.2=l) with
   | none=>rw[hx]at h;have:=Kx h;exact⟨this.1,Br _ this.2⟩
   | some s=>
    rw[hx]at h;rcases BP.1 h with rfl|h
    ·have d:=List.find?_some hx;simp at d;exact⟨A20 hx,by rw[d];exact BD ..⟩
    ·have:=Kx h;exact⟨this.1,Br _ this.2⟩
def IM{segs:List (Int×List Pu)}{oldest:Int}:∀ {ws:List (List Pu)} {l:List Pu},l∈(BG segs oldest ws).2->l∈ws
 | w::r,l,h=>by
  unfold BG at h;split at h
  ·exact Br _ (IM h)
  ·cases hx:segs.find? λs=>decide (s.2=w) with
   | none=>
    rw[hx]at h;rcases BP.1 h with rfl|h
    ·exact BD ..
    ·exact Br _ (IM h)
   | some s=>rw[hx]at h;exact Br _ (IM h)
def Jz{α:Type}(p:List α->Bool)(ws:List (List α)):(ws.filter p).flatten.Sublist ws.flatten:=by
 induction ws with
 | nil=>exact A3f _
 | cons w r ih=>
  rw[F4];split
  ·rw[J3,J3];exact List.Sublist.append (A3f _) ih
  ·rw[J3];exact ih.trans (List.sublist_append_right _ _)
def DK(oldest:Int)(ws:List (List Pu)):List (List Pu):=ws.filter λl=>l.any λp=>decide (oldest<=p.2.1)
def Js(segs:List (Int×List Pu))(oldest:Int):∀ws,((G4 segs oldest ws).map (·.2)++(BG segs oldest ws).2).Perm (DK oldest ws)
 | []=>List.Perm.refl _
 | l::r=>by
  have h:=Js segs oldest r;unfold BG G4 DK;by_cases d:l.any (λp=>decide (oldest<=p.2.1))=false
  ·rw[Af d,Af d,JV (by simp[d])];exact h
  ·rw[Ac d,Ac d,Io (by simpa using d)];cases hx:segs.find? λs=>decide (s.2=l) with
   | none=>
    dsimp only
    exact List.perm_middle.trans (h.cons _)
   | some s=>
    have z:=List.find?_some hx;simp at z;dsimp only
    rw[GY,z];exact h.cons _
def SQ{len:Int}{ws:List (List Pu)}{s:List Pu}(h:WI len ws s)(oldest k t:Int)(ht:oldest<=t):BC (DK oldest ws).flatten k t=BC s k t:=by
 rw[<-h.A8];clear h;unfold DK
 induction ws with
 | nil=>rfl
 | cons w r ih=>
  by_cases d:w.any (λp=>decide (oldest<=p.2.1))=true
  ·(have e:(w::r).filter (λl=>l.any λp=>decide (oldest<=p.2.1))=w::r.filter (λl=>l.any λp=>decide (oldest<=p.2.1)):=by simp only[F4,d,Cg]);rw[e,J3,J3,Gs,Gs,ih]
  ·(have e:(w::r).filter (λl=>l.any λp=>decide (oldest<=p.2.1))=r.filter (λl=>l.any λp=>decide (oldest<=p.2.1)):=by simp only[F4,d];rfl);rw[e,J3,Gs,ih];have:BC w k t=none:=SO.2 λp z hx=>d (Pp.2 ⟨p,z,by simp;omega⟩);rw[this,UF]
def Ih(l:List Pu):Prop:=l.Pairwise λa b=>¬(a.1=b.1/\a.2.1=b.2.1)
def Ih.A8{l:List Pu}(h:Ih l){k t v:Int}:BC l k t=some v↔(k,t,v)∈l:=by
 refine⟨Za,λd=>?_⟩
 induction l with
 | nil=>cases d
 | cons p r ih=>
  have z:=D7.1 h;have e:BC (p::r) k t=(BC r k t).or (BC [p] k t):=Gs [p] r k t;rw[e];rcases BP.1 d with rfl|d
  ·have:BC r k t=none:=SO.2 λq H E=>z.1 q H ⟨E.1.symm,E.2.symm⟩;rw[this];simp[BC]
  ·rw[ih z.2 d];simp
def Ih.fM{l l':List Pu}(h:Ih l)(z:l.Perm l'):Ih l':=(z.pairwise_iff (R:=λa b:Pu=>¬(a.1=b.1/\a.2.1=b.2.1)) λh d=>h ⟨d.1.symm,d.2.symm⟩).1 h
def Ih.dX{l l':List Pu}(h:Ih l)(d:l.Perm l')(k t:Int):BC l k t=BC l' k t:=by
 have z:=h.fM d;cases hx:BC l k t with
 | some v=>exact(z.A8.2 (d.mem_iff.1 (h.A8.1 hx))).symm
 | none=>
  cases hy:BC l' k t with
  | none=>rfl
  | some v=>rw[h.A8.2 (d.mem_iff.2 (z.A8.1 hy))]at hx;cases hx
def WI.dI{len:Int}{ws:List (List Pu)}{s:List Pu}(h:WI len ws s)(oldest:Int):Ih (DK oldest ws).flatten:=by
 have z:(DK oldest ws).flatten.Pairwise (λa b=>AA len a b=true):=h.KQ.sublist (Jz _ _);exact z.imp λd=>Zo d
def Uq{oldest:Int}{ws:List (List Pu)}{w:List Pu}(h:w∈DK oldest ws):w∈ws:=(GJ.1 h).1
def Lay.aQ(h:Lay P A sg cl ol)(hw:BS (AA Ai)){K n:Nat}(hn:(B6 sg cl ol).length<=n)(hn2:n<=1099511627776)(hK:P.Ax.length<=K)(hsl:sg.length<=K)(hjl:A.j.Aj.length<=K)(hll:A.AN.length<=K)(hc:Cm P (N+4*K+4*n+8) (R+29*n+12+8*K))(aP:isNum (A.j.A8+1)=true)(hln:A.A8+n<=4611686018427387904):
 (A.aQ P Ai oldest).1=0/\Cm (A.aQ P Ai oldest).2.2 N R/\
  ∃W last,(A.aQ P Ai oldest).2.1=⟨⟨A.j.A8+1,W.map (·.1)⟩,⟨[],A.j.A8,0,none⟩,last,[]⟩/\last<=A.A8+n/\Lay (A.aQ P Ai oldest).2.2 (A.aQ P Ai oldest).2.1 W [] none/\
   (∀m,(A.aQ P Ai oldest).2.2.bs m≠none->m∈AI::W.map λx=>AG x.1)/\(W.map (·.2)).Perm (DK oldest (Bx Ai (B6 sg cl ol)))/\∀k t,oldest<=t->BC (B6 W [] none) k t=BC (B6 sg cl ol) k t:=by
 have aQ:(B6 sg cl ol).length=(Aw sg).length+(Aw cl++ol.getD []).length:=by unfold B6;rw[AZ]
 have H:=h.puts (by rw[AZ]at aQ;omega);have E:=H9 hw (B6 sg cl ol);obtain⟨ws,aG⟩:∃ws,Bx Ai (B6 sg cl ol)=ws:=⟨_,rfl⟩;rw[aG]at E;obtain⟨k0,aE⟩:∃k0,G4 sg oldest ws=k0:=⟨_,rfl⟩;obtain⟨fresh,aH⟩:∃fresh,(BG sg oldest ws).2=fresh:=⟨_,rfl⟩;have d:=Js sg oldest ws;rw[aE,aH]at d;obtain⟨z,aI⟩:∃z,k0.mergeSort (λx y=>decide (x.1<=y.1))=z:=⟨_,rfl⟩;have aB:z.Perm k0:=by rw[<-aI];exact A2Y _ _
 have aS:z.map (·.1)=((BG sg oldest ws).1).mergeSort λx y=>decide (x<=y):=by
  rw[Jt,aE,<-aI,A23 (s:=λx y:Int=>decide (x<=y))];intro a _ b _;rfl
 have I:∀x∈z,x∈sg/\x.2∈ws:=λx hx=>Kx (by rw[aE];exact aB.mem_iff.1 hx);have aO:(DK oldest ws).Nodup:=by
  have h1:(DK oldest ws).Pairwise λw w'=>∀p∈w,∀q∈w',BA p.2.1 Ai<BA q.2.1 Ai:=E.KR.sublist GL;have L:∀w∈DK oldest ws,w≠[]:=λw hw=>E.ne w (Uq hw);clear d;generalize DK oldest ws=v at h1 L
  induction v with
  | nil=>simp
  | cons w r ih=>
   have aN:=D7.1 h1;refine JS.2 ⟨λhm=>?_,ih aN.2 λx hx=>L x (Br _ hx)⟩;obtain⟨p,H⟩:=A3d w (L w (BD ..));have:=aN.1 w hm p H p H;omega
 have aM:(z.map (·.2)).Nodup:=by
  have h1:(k0.map (·.2)++fresh).Nodup:=d.nodup_iff.2 aO;have L:=(Gy.1 h1).1;exact(aB.map (·.2)).nodup_iff.2 L
 have aK:(sg.map (·.1)).Pairwise (· < ·):=Iw.1 (by rw[h.segs];exact h.Dz.EE);have aD:∀x∈sg,∀y∈sg,x.1=y.1->x=y:=λx hx y hy e=>by
  obtain⟨i,hi,rfl⟩:=DQ hx;obtain⟨j,hj,rfl⟩:=DQ hy;have H:=JR.1 aK;rcases Ph i j with O|O|O
  ·have:=H i j (by simpa using hi) (by simpa using hj) O;simp at this;omega
  ·subst O;rfl
  ·have:=H j i (by simpa using hj) (by simpa using hi) O;simp at this;omega
 have Y:(z.map (·.1)).Pairwise (· < ·):=by
  have h1:z.Pairwise λx y=>x.1<=y.1:=by
   have:=UR (le:=λx y:Int×List Pu=>decide (x.1<=y.1)) (λa b c h1 L=>by simp at *;omega) (λa b=>by simp;omega) k0;rw[aI]at this;(exact this.imp λh=>by simpa using h)
  have L:z.Pairwise λx y=>x.2≠y.2:=La.1 aM;rw[La];have h3:=h1.and L;refine A3g (λ{a b} ha hb aL=>?_) h3;rcases A3k aL.1 with h|h
  ·exact h
  ·exact absurd (EB Prod.snd (aD a (I a ha).1 b (I b hb).1 h)) aL.2
 have aF:∀l∈fresh,l∈ws:=λl hl=>IM (by rw[aH];exact hl);have aA:(Aw z++fresh.flatten).Perm (DK oldest ws).flatten:=by
  have h1:(z.map (·.2)++fresh).Perm (DK oldest ws):=((aB.map (·.2)).append_right _).trans d;have L:=h1.flatten;rw[UW]at L;have e:(z.map (·.2)).flatten=Aw z:=by unfold Aw;rw[UX]
  rwa [e]at L
 have hfl:fresh.length<=fresh.flatten.length:=GV λw hw=>E.ne w (aF w hw);have hcount:fresh.flatten.length<=n:=by
  have h1:=aA.length_eq;have L:(DK oldest ws).flatten.length<=ws.flatten.length:=(Jz _ ws).length_le;have h3:=E.B8;rw[AZ]at h1;omega
 have hkl:z.length<=K:=by
  have:(z.map (·.1)).length<=(sg.map (·.1)).length:=ID (Y.imp λh=>Va h) λx hx=>by
   obtain⟨y,hy,rfl⟩:=CA.1 hx;exact DP (I y hy).1
  simp only[FR]at this;omega
 have hcost:=Jg fresh;have aR:∀p∈B6 sg cl ol,Bg p:=λp H=>by
  rcases AV.1 H with H|H
  ·exact h.cP p H
  ·exact h.b0 p H
 have e:A.aQ P Ai oldest=A.ay P (z.map (·.1)) fresh:=by
  unfold Ar.aQ;rw[h.b7];dsimp only
  have e2:sg.flatMap (·.2)++(P.puts A.j.Aj).1=B6 sg cl ol:=by rw[H];rfl
  rw[e2,aG,<-aS,aH,H,Ac (by simp)]
 rw[e,aG];obtain⟨r1,r2,r3,r4,r5⟩:=h.ay (N:=N) (R:=R) (K:=K) z fresh (hc.ad (by omega) (by omega)) hK (λx hx=>(I x hx).1) Y
  (λl hl=>⟨λp H=>aR p (E.Dy p (MC.2 ⟨l,aF l hl,H⟩)),E.EE (aF l hl)⟩) aP (by omega)
 have aJ:(BW A.A8 fresh).map (·.2)=fresh:=by
  have aT:∀(l:List (List Pu)) (a:Int),(BW a l).map (·.2)=l:=by
   intro l
   induction l with
   | nil=>intro a;rfl
   | cons x r ih=>intro a;simp[BW,ih]
  exact aT _ _
 refine⟨r1,r3,z++BW A.A8 fresh,A.A8+fresh.length,r2,by omega,r4,r5,?_,λk t ht=>?_⟩
 ·rw[E6,aJ];exact((aB.map (·.2)).append_right _).trans d
 ·have e1:B6 (z++BW A.A8 fresh) [] none=Aw z++fresh.flatten:=by
   have:=@Km fresh A.A8;unfold B6 Aw at *;simp[this]
  rw[e1,(E.dI oldest |>.dX aA.symm k t).symm,SQ E oldest k t ht]
end
end
section
open Go.RowKit
attribute [local go_sem ↓] CE
def JD(w:World)(jb b:Nat)(J:Jn)(P:PD)(FT:Nat->Prop):Prop:=
 ∃lv ov Ft,Dv w jb b lv ov J/\Bh w b P Ft/\(∀k,Ft k->k<w.heap.size)/\(∀k,Df jb lv ov k->¬Ft k)/\∀k,Ft k\/Df jb lv ov k->FT k
def JD.aP{w w':World}{jb b:Nat}{J:Jn}{P:PD}{FT:Nat->Prop}(h:JD w jb b J P FT)(E:FO FT w w')(O:w.heap.size<=w'.heap.size):JD w' jb b J P FT:=by
 obtain⟨lv,ov,Ft,L,H,W,I,z⟩:=h;exact⟨lv,ov,Ft,L.aP λk d=>E k (z k (.inr d)),H.aP λk d=>E k (z k (.inl d)),λk d=>Bm (W k d) O,I,z⟩
def Ap.jd{w w':World}{jb b:Nat}{J:Jn}{P:PD}{FT S:Nat->Prop}{lv ov:Value}{Ft:Nat->Prop}(hc:A3 S w w')(Y:∀k,k<w.heap.size->S k->FT k)(E:Dv w' jb b lv ov J)(I:Bh w' b P Ft)(H:∀k,Ft k->k<w'.heap.size)(L:∀k,Df jb lv ov k->¬Ft k)(O:∀k,Ft k->FT k\/w.heap.size<=k)(W:∀k,Df jb lv ov k->FT k\/w.heap.size<=k):
 Ap w FT w' (λw' d=>JD w' jb b J P d):=
 ⟨hc.ad Y,λk=>Ft k\/Df jb lv ov k,⟨lv,ov,Ft,E,I,H,L,λ_ h=>h⟩,λk z=>z.elim (H k) λh=>E.lt h,λk z=>z.elim (O k) (W k)⟩
def Dv.ne{w:World}{jb b:Nat}{lv ov:Value}{J:Jn}(h:Dv w jb b lv ov J){g:Nat}(d:lv.ownBlock=some g):g≠jb:=by
 obtain⟨c,z⟩:=Bd h.Aj d;exact BR z h.Ag (by decide)
def Bc.cU{w:World}{lb:Nat}{p:Value}{name:ByteArray}{s n:Nat}{v:Value}{xs:List Value}(h:Bc w lb 196 p name s)(d:w.ownsRow 0 3 1 v n xs){g:Nat}(z:v.ownBlock=some g):g≠lb:=by
 obtain⟨c,E⟩:=Bd d z;exact BR E h (by decide)
def Bc.dz{w:World}{lb jb b:Nat}{p:Value}{name:ByteArray}{s:Nat}{lv ov:Value}{last puts:Int}(h:Bc w lb 196 p name s)(d:CC w jb b lv last puts ov):lb≠jb:=BR h d (by decide)
section
variable {w:World} {b B jb lb:Nat} {P:PD} {Ft FT:Nat->Prop} {a c m:Nat} {lv ov:Value} {J:Jn} {n:Int}
def S8(w:World)(h:Dv w jb b lv ov J)(d:AW (J.A8+1)):
 Ah 164 #[A5 jb] w (Am (A0 (J.A8+1)) λw'=>w=w'):=by
 have c2:=h.Ag.c2;obtain⟨r1,r2⟩:=d;have ew:wrap64 (J.A8+1)=J.A8+1:=by unfold wrap64;omega
 go_enter func164,ntmps164
 go_wp2;go_ret;exact⟨rfl,rfl⟩
def YM(w:World)(hJ:Dv w jb b lv ov J)(hl:J.Aj.length<=1073741824):
 Ah 87 #[A5 jb] w λe w'=>∃v,e=.returned v/\Dw w' v J.Aj/\(∀g,v.ownBlock=some g->w.heap.size<=g)/\A3 Aa w w':=by
 obtain⟨d,hi,L,O,W⟩:∃d,Tryz.prog.info? 3=some d/\d.zero=some (A0 0)/\d.size=1/\d.bytes=8:=by
  have h:=Tryz.cV;cases hx:Tryz.prog.info? 3 with
  | none=>rw[hx]at h;cases h
  | some i=>rw[hx]at h;simp at h;exact⟨i,rfl,h.1,h.2.1,h.2.2⟩
 have c1:=hJ.Ag.c1;have z:=A1 (Src.bN underlying120 hJ.Aj (Jv J.Aj));have E:Hid (w.ownsRow 0 3 1 (.slice none 0 0) 0 []):=CL _ _ _ _;generalize J.Aj=l at *
 go_enter func87,ntmps87
 go_wp2_with (at_builtin;refine D9 rfl (.const (.slice none 0 0)) (.tmp 6) 120 120 rfl 3 d _ 1 8 underlying120 hi L O W rfl (by decide) (.slice none 0 0) 0 [] (by rfl) E.o _ l.length _ (by rfl) z.o (by omega) ?_;intro a8 cap8 w8 I;have aA:=A1 I);go_ret;have I:=aA.o;have Y:=I.An (S:=λ_=>False) λ_ h=>by simp[Value.ownBlock]at h
 refine⟨_,rfl,?_,?_,Y⟩
 ·have:=I.AF;simp only[EY,Gx]at this ⊢;exact this
 ·intro g hg;have H:=I.Cy;simp only[Gx]at H;cases a8 with
  | none=>simp[Value.ownBlock]at hg
  | some x=>
   simp[Value.ownBlock]at H hg;omega
def Z0(w:World)(z:Dv w jb b lv ov J):
 Ah 166 #[A5 jb] w (Am (.tuple #[]) λw'=>Dv w' jb b (.slice none 0 0) (.pointer none) ⟨[],J.A8,0,none⟩/\A3 (One jb) w w'):=by
 have h:=z.Ag.s1 (.slice none 0 0);have d:=h.s3 0;have E:=d.s4 (.pointer none);have c1:=z.Ag.c1;have f1:=z.Ag.fz 1;have c3:=h.c3;have f3:=h.fz 3;have c4:=d.c4;have f4:=d.fz 4;have H:=A1 E
 go_enter func166,ntmps166
 go_wp2;go_end0;exact⟨rfl,⟨H.o,CL _ _ _ _,.inl ⟨rfl,rfl⟩⟩,((((A3.I (One jb) w).aq (b:=jb) rfl 1 _).aq (b:=jb) rfl 3 _).aq (b:=jb) rfl 4 _)⟩
def Zq(w:World)(h:JD w jb b J P FT):
 Ah 70 #[A5 jb] w (Am (A0 (J.ae P).1) λw'=>Ap w FT w' (λw' H=>JD w' jb b J (J.ae P).2 H)):=by
 obtain⟨lv,ov,Ft,I,hD,L,E,z⟩:=h;have c4:=I.Ag.c4;rcases I.AF with⟨W,rfl⟩|⟨n,s,lb,W,rfl,hf,hs⟩
 ·have e:J.ae P=(0,P):=by unfold Jn.ae;rw[W]
  rw[e];have aD:=A1 (show Ap w FT w (λw' H=>JD w' jb b J P H) from Ap.jd (A3.I Aa w) (λ_ _ h=>h.elim) I hD L E (λk d=>.inl (z k (.inl d))) (λk d=>.inl (z k (.inr d))))
  go_enter func70,ntmps70
  go_wp2;go_ret;exact⟨rfl,aD.o⟩
 ·have e:J.ae P=P.ae (A7 (Ae n)):=by unfold Jn.ae;rw[W]
  rw[e];have O:=A1 (Qc hf hD);have e1:(⟨(Ae n).toArray⟩:ByteArray)=A7 (Ae n):=rfl;rw[e1]at O;generalize hR:P.ae (A7 (Ae n))=R at O ⊢;have aA:=A1 I;have aB:=A1 E;have Y:=A1 z
  go_enter func70,ntmps70
  go_wp2_with (go_at_call 116;refine O.m ?_;rintro e w2⟨rfl,hI⟩;have aE:=A1 hI);go_ret;obtain⟨r1,Ft',r2,r3,r4⟩:=aE.o;exact⟨rfl,Ap.jd r1 (λk _ d=>Y.o k (.inl d)) (aA.o.An r1 aB.o) r2 r3 (λk d hx=>by rcases r4 k hx with h|h;exact aB.o k d h;have:=aA.o.lt d;omega) (λk d=>(r4 k d).imp (λh=>Y.o k (.inl h)) id) (λk d=>.inl (Y.o k (.inr d)))⟩
def YB(w:World)(ahead:Int)(h:Bh w b P Ft)(H:∀k,Ft k->k<w.heap.size)(hn:CD n)(W:Lets B w)(ha:AW ahead)(I:Fit P a c m)(E:CM (a+1) (c+1) (m+12)):
 Ah 191 #[A5 b,A0 n,A0 ahead] w λe w'=>
  ((P.ai (A7 (Ae n))).1≠0/\e=.returned (.tuple #[.pointer none,A0 (P.ai (A7 (Ae n))).1])/\Ap w Ft w' (λw' d=>Bh w' b (P.ai (A7 (Ae n))).2 d))\/
  ((P.ai (A7 (Ae n))).1=0/\((P.ai (A7 (Ae n))).2.aa (A7 (Ae n)) (AE (Ae n)) (AO ahead)).2.1≠0/\e=.returned (.tuple #[.pointer none,A0 ((P.ai (A7 (Ae n))).2.aa (A7 (Ae n)) (AE (Ae n)) (AO ahead)).2.1])/\Ap w Ft w' (λw' d=>Bh w' b ((P.ai (A7 (Ae n))).2.aa (A7 (Ae n)) (AE (Ae n)) (AO ahead)).2.2 d))\/
  ((P.ai (A7 (Ae n))).1=0/\((P.ai (A7 (Ae n))).2.aa (A7 (Ae n)) (AE (Ae n)) (AO ahead)).2.1=0/\∃lb,e=.returned (.tuple #[A5 lb,A0 0])/\w.heap.size<=lb/\Bc w' lb 196 (A5 b) ⟨(Ae n).toArray⟩ (AU (AE (Ae n)) (AO ahead))/\
    A3 Ft w w'/\∃d,Bh w' b ((P.ai (A7 (Ae n))).2.aa (A7 (Ae n)) (AE (Ae n)) (AO ahead)).2.2 d/\(∀k,d k->k<w'.heap.size)/\(∀k,d k->Ft k\/w.heap.size<=k)/\¬d lb):=by
 have z:=I.ai (A7 (Ae n));have hp:(AR (AE (Ae n)) (AO ahead)).length=12:=by simp[AR,H3,CJ]
 have O:=z.an (A7 (Ae n)) (AR (AE (Ae n)) (AO ahead));have Y:=JF O (A7 (Ae n));have L:=JF z (A7 (Ae n));have hm:=E.m;exact YA w ahead P.D.AT (P.ai (A7 (Ae n))).2.D ((P.ai (A7 (Ae n))).2.an (A7 (Ae n)) (AR (AE (Ae n)) (AO ahead))).2.D (P.ai (A7 (Ae n))).2.F ((P.ai (A7 (Ae n))).2.an (A7 (Ae n)) (AR (AE (Ae n)) (AO ahead))).2.F _ _ h H hn W ha P.D.cv
  (by have:=I.A4;have:=I.An;have:=E.a;have:=E.c;omega) rfl rfl rfl z.AB (AQ z.dB (AQ (Mv E.a (AQ (UO m 12) E.m)) (by decide))) z.Bq
  (λf hf=>by have:=z.B8 f (FJ hf);omega) ⟨JY Y (by rw[hp];omega),JY L (by omega)⟩
def A2H(p:Pu)(name:ByteArray)(s:Nat)(L:Bc w lb 196 (A5 b) name s)(hs:s<4294967296)(h:Bh w b P Ft)(z:∀k,Ft k->k<w.heap.size)(hn:¬Ft lb)(hp:Bg p)(d:Fit P a c m)(O:CM a c (m+21)):
 Ah 144 #[A5 lb,Dr p] w (Am (.tuple #[.bool (P.aa name s (Bb p.1 p.2.1 p.2.2)).1,A0 (P.aa name s (Bb p.1 p.2.1 p.2.2)).2.1]) λw'=>
  Bc w' lb 196 (A5 b) name (AU s (Bb p.1 p.2.1 p.2.2))/\J5 w Ft lb w' b (P.aa name s (Bb p.1 p.2.1 p.2.2)).2.2):=by
 obtain⟨⟨Y,h2⟩,h3,W⟩:=hp;have H:(AR s (Bb p.1 p.2.1 p.2.2)).length=21:=by simp[AR,H3,NI]
 have hA:=d.an name (AR s (Bb p.1 p.2.1 p.2.2));have hz:=JF hA name;have I:=JF d name;have hm:=O.m;have E:CM a c m:=⟨O.a,O.c,by omega⟩;exact A2G w lb name s p.1 p.2.1 p.2.2 ⟨Y,by omega⟩ h3 W L hs h z hn d.AB (d.ei E) d.Bq (λf L=>by have:=d.B8 f (FJ L);omega) ⟨JY hz (by rw[H];omega),JY I (by omega)⟩
end
def Oj:∃d,Tryz.prog.info? 3=some d/\d.zero=some (A0 0)/\d.size=1/\d.bytes=8:=by
 have h:=Tryz.cV;cases hx:Tryz.prog.info? 3 with
 | none=>rw[hx]at h;cases h
 | some i=>rw[hx]at h;simp at h;exact⟨i,rfl,h.1,h.2.1,h.2.2⟩
section
variable {w:World} {b B jb lb:Nat} {P:PD} {Ft FT:Nat->Prop} {a c m:Nat} {lv ov:Value} {J:Jn} {n:Int}
def A13(w:World)(h:JD w jb b J P FT)(ho:J.AF=none)(hn:CD (J.A8+1))(hr:AW (J.A8+1))(hp:AW J.puts)(bD:J.Aj.length<=1073741824)(hL:Lets B w)(hF:Fit P a c m)(hl:CM (a+1) (c+1) (m+12)):
 Ah 143 #[A5 jb] w (Am (A0 (J.av P).1) λw'=>Ap w FT w' (λw' aT=>JD w' jb b (J.av P).2.1 (J.av P).2.2 aT)):=by
 obtain⟨i0,hi,bL,bW,bT⟩:=Oj;obtain⟨lv,ov,Ft,hJ,hD,aS,aM,aN⟩:=h;have bN:ov=.pointer none:=by
  rcases hJ.AF with⟨_,h⟩|⟨n,s,lb,h,_⟩
  ·exact h
  ·rw[ho]at h;cases h
 subst bN
 have aD:Hid (J.av P=if (P.ai (A7 (Ae (J.A8+1)))).1≠0 then ((P.ai (A7 (Ae (J.A8+1)))).1,J,(P.ai (A7 (Ae (J.A8+1)))).2) else
  if ((P.ai (A7 (Ae (J.A8+1)))).2.aa (A7 (Ae (J.A8+1))) (AE (Ae (J.A8+1))) (AO J.puts)).2.1≠0 then (((P.ai (A7 (Ae (J.A8+1)))).2.aa (A7 (Ae (J.A8+1))) (AE (Ae (J.A8+1))) (AO J.puts)).2.1,J,((P.ai (A7 (Ae (J.A8+1)))).2.aa (A7 (Ae (J.A8+1))) (AE (Ae (J.A8+1))) (AO J.puts)).2.2) else
  (0,⟨J.Aj++[J.A8+1],J.A8+1,J.puts,some (J.A8+1,AU (AE (Ae (J.A8+1))) (AO J.puts))⟩,((P.ai (A7 (Ae (J.A8+1)))).2.aa (A7 (Ae (J.A8+1))) (AE (Ae (J.A8+1))) (AO J.puts)).2.2)):=rfl
 have aJ:Hid (∀w1,A3 Aa w w1->_):=λw1 hc=>YB w1 J.puts (B3.aI hD aS hc) (λk d=>Bm (aS k d) hc.Ak) hn (hL.aS hc) hp hF hl;have bS:Hid (∀w1,A3 Aa w w1->_):=λw1 hc=>S8 w1 (hJ.aJ hc) hr;generalize hR:J.av P=R at aD ⊢;obtain⟨L,a0⟩:∃L,J.A8+1=L:=⟨_,rfl⟩;rw[a0]at aD aJ bS hr hn;have aI:(Ae L).length<=100:=S6 hn.2.2;obtain⟨nm,aQ⟩:∃nm,Ae L=nm:=⟨_,rfl⟩;rw[aQ]at aD aJ;obtain⟨s0,aU⟩:∃s0,AE nm=s0:=⟨_,rfl⟩;have aL:s0<4294967296:=by rw[<-aU];exact Jb nm
 rw[aU]at aD aJ;obtain⟨C,hC⟩:∃C,P.ai (A7 nm)=C:=⟨_,rfl⟩;rw[hC]at aD aJ;obtain⟨A,hA⟩:∃A,C.2.aa (A7 nm) s0 (AO J.puts)=A:=⟨_,rfl⟩;rw[hA]at aD aJ;have bB:AU s0 (AO J.puts)<4294967296:=J8 _ _ aL;obtain⟨s1,aK⟩:∃s1,AU s0 (AO J.puts)=s1:=⟨_,rfl⟩;rw[aK]at aD aJ bB;have c0:=hJ.Ag.af.c0;have c3:=hJ.Ag.af.c3;have bE:=A1 hJ;have a3:=A1 aM;have aG:=A1 aN;have HO:=A1 ho;have aO:=A1 a0;have bP:=A1 aQ;have a7:=A1 bD;have aZ:=A1 (bS.o w.drew (A3.I _ w).af);have aB:=A1 (aJ.o w.drew (A3.I _ w).af);clear hC hA hR aU aL aK aI aQ a0 hJ hD aS aM aN ho bD hL hF hl hp bS aJ;have E:Hid (∀wx,A3 Ft w.drew wx->Dv wx jb b lv (.pointer none) J):=λwx W=>(bE.o.aJ (A3.I Aa w).af).An W a3.o
 have aE:Hid (∀wx (bO:PD),Ap w.drew Ft wx (λw' z=>Bh w' b bO z)->Ap w FT wx (λw' aT=>JD w' jb b J bO aT)):=λwx bO W=>by
  obtain⟨r1,z,r2,r3,r4⟩:=W;exact Ap.jd ((A3.I Ft w).af.tr r1) (λk _ d=>aG.o k (.inl d)) (E.o wx r1) r2 r3 (λk d W=>by rcases r4 k W with h|h;exact a3.o k d h;have:=bE.o.lt d;have h':w.heap.size<=k:=h;omega) (λk d=>(r4 k d).imp (λh=>aG.o k (.inl h)) id) (λk d=>.inl (aG.o k (.inr d)))
 by_cases hc:C.1=0
 case neg=>
  have aF:R=(C.1,J,C.2):=by rw[aD.o,Af hc]
  subst aF;have H:Hid (Ah 191 #[A5 b,A0 L,A0 J.puts] w.drew (Am (.tuple #[.pointer none,A0 C.1]) λw'=>Ap w.drew Ft w' (λw' z=>Bh w' b C.2 z))):=by
   refine aB.m ?_;rintro e w' (⟨_,h2,h3⟩|⟨h1,_⟩|⟨h1,_⟩)
   ·exact⟨h2,h3⟩
   ·exact absurd h1 hc
   ·exact absurd h1 hc
  have aY:(C.1 !=0)=true:=by simpa using hc
  obtain⟨C1,b4⟩:=C;dsimp only at H aY ⊢;clear aB aD
  go_enter func143,ntmps143
  go_wp2;refine C3 (λw'=>A6 w' jb 0 (A5 b)/\A6 w' jb 3 (A0 J.puts)) 15
   (Bz [0,1,2,3,4,6,7,8,9,5,10,11,12,13,14] [5,10]) ⟨c0,c3⟩ ?_
  iterate 9 (refine Bj ?_;(try simp only[Ao]))
  refine Bt λK I=>?_;go_simp;refine aZ.m ?_;rintro e w3⟨rfl,rfl⟩;refine I _ _ ⟨c0,c3⟩ (λhS=>?_);clear I K hS
  (try simp only[Ao])
  refine Bt λK I=>?_;go_simp;refine H.m ?_;rintro e w4⟨rfl,hI⟩;have k4:=E.o w4 hI.1;refine I _ _ ⟨k4.Ag.c0,k4.Ag.c3⟩ (λhS=>?_);have bQ:=A1 (aE.o w4 b4 hI);clear I K hS hI k4 H aE E
  (try simp only[Ao])
  iterate 4 (refine Bj ?_;(try simp only[Ao]))
  refine Bo ?_;simp only[BO,BN];go_wp2;go_ret;exact⟨rfl,bQ.o⟩
 case pos=>
 by_cases ha:A.2.1=0
 case neg=>
  have aF:R=(A.2.1,J,A.2.2):=by rw[aD.o,Ac (by simpa using hc),Af ha]
  subst aF;have H:Hid (Ah 191 #[A5 b,A0 L,A0 J.puts] w.drew (Am (.tuple #[.pointer none,A0 A.2.1]) λw'=>Ap w.drew Ft w' (λw' z=>Bh w' b A.2.2 z))):=by
   refine aB.m ?_;rintro e w' (⟨h1,_⟩|⟨_,_,h2,h3⟩|⟨_,h1,_⟩)
   ·exact absurd hc h1
   ·exact⟨h2,h3⟩
   ·exact absurd h1 ha
  have aY:(A.2.1 !=0)=true:=by simpa using ha
  obtain⟨b2,b1,A2⟩:=A;dsimp only at H aY ⊢;clear aB aD
  go_enter func143,ntmps143
  go_wp2;refine C3 (λw'=>A6 w' jb 0 (A5 b)/\A6 w' jb 3 (A0 J.puts)) 15
   (Bz [0,1,2,3,4,6,7,8,9,5,10,11,12,13,14] [5,10]) ⟨c0,c3⟩ ?_
  iterate 9 (refine Bj ?_;(try simp only[Ao]))
  refine Bt λK I=>?_;go_simp;refine aZ.m ?_;rintro e w3⟨rfl,rfl⟩;refine I _ _ ⟨c0,c3⟩ (λhS=>?_);clear I K hS
  (try simp only[Ao])
  refine Bt λK I=>?_;go_simp;refine H.m ?_;rintro e w4⟨rfl,hI⟩;have k4:=E.o w4 hI.1;refine I _ _ ⟨k4.Ag.c0,k4.Ag.c3⟩ (λhS=>?_);have bQ:=A1 (aE.o w4 A2 hI);clear I K hS hI k4 H aE E
  (try simp only[Ao])
  iterate 4 (refine Bj ?_;(try simp only[Ao]))
  refine Bo ?_;simp only[BO,BN];go_wp2;go_ret;exact⟨rfl,bQ.o⟩
 case pos=>
  have aF:R=(0,⟨J.Aj++[L],L,J.puts,some (L,s1)⟩,A.2.2):=by rw[aD.o,Ac (by simpa using hc),Ac (by simpa using ha)]
  subst aF;have H:Hid (Ah 191 #[A5 b,A0 L,A0 J.puts] w.drew λe w'=>∃lb,e=.returned (.tuple #[A5 lb,A0 0])/\w.drew.heap.size<=lb/\Bc w' lb 196 (A5 b) ⟨nm.toArray⟩ s1/\A3 Ft w.drew w'/\∃z,Bh w' b A.2.2 z/\(∀k,z k->k<w'.heap.size)/\(∀k,z k->Ft k\/w.drew.heap.size<=k)/\¬z lb):=by
   refine aB.m ?_;rintro e w' (⟨h1,_⟩|⟨_,h1,_⟩|⟨_,_,h2⟩)
   ·exact absurd hc h1
   ·exact absurd ha h1
   ·exact h2
  obtain⟨b2,b1,A2⟩:=A;dsimp only at H ⊢;clear aB aD aE
  go_enter func143,ntmps143
  go_wp2;refine C3 (λw'=>A6 w' jb 0 (A5 b)/\A6 w' jb 3 (A0 J.puts)) 15
   (Bz [0,1,2,3,4,6,7,8,9,5,10,11,12,13,14] [5,10]) ⟨c0,c3⟩ ?_
  iterate 9 (refine Bj ?_;(try simp only[Ao]))
  refine Bt λK I=>?_;go_simp;refine aZ.m ?_;rintro e w3⟨rfl,rfl⟩;refine I _ _ ⟨c0,c3⟩ (λhS=>?_);clear I K hS
  (try simp only[Ao])
  refine Bt λK I=>?_;go_simp;refine H.m ?_;rintro e w4⟨lb,rfl,aI,a5,aW,bG,q1,q2,q3,q4⟩;have k4:=E.o w4 aW;refine I _ _ ⟨k4.Ag.c0,k4.Ag.c3⟩ (λhS=>?_);have a2:=A1 k4;have bK:Hid (w.heap.size<=lb):=aI;have aV:=A1 a5;have bY:Hid (A3 Ft w w4):=(A3.I Ft w).af.tr aW;have b9:=A1 q1;have bX:=A1 q2;have bH:Hid (∀k,bG k->Ft k\/w.heap.size<=k):=q3;have b0:=A1 q4;clear I K hS aW aI a5 q1 q2 q3 q4 H E
  (try simp only[Ao])
  iterate 4 (refine Bj ?_;(try simp only[Ao]))
  refine Bo ?_;simp only[BO,BN];have b5:=a2.o.Ag.s4 (A5 lb);have g44:=k4.Ag.c4;have f44:=k4.Ag.fz 4;have g52:=b5.c2;have f52:=b5.fz 2;have bI:=A1 (b5.s2 L);have ew:wrap64 (J.A8+1)=L:=by have:=aO.o;have:=hr.1;have:=hr.2;unfold wrap64;omega
  have ew2:IntKind.i64.wrap (J.A8+1)=L:=by have:=aO.o;have:=hr.1;have:=hr.2;simp[IntKind.wrap,IntKind.bits,IntKind.signed];omega
  have c5:A3 (One jb) w4 ((w4.setCell (Ab jb 4) (A5 lb)).setCell (Ab jb 2) (A0 L)):=((A3.I (One jb) w4).aq (b:=jb) rfl 4 _).aq (b:=jb) rfl 2 _;have a4:=A1 c5;clear b5 k4 c5;have bA:Hid (lb≠jb):=aV.o.dz a2.o.Ag;have aH:Hid (∀g,lv.ownBlock=some g->g≠jb/\g≠lb):=λg Y=>⟨a2.o.ne Y,aV.o.cU a2.o.Aj Y⟩
  go_wp2;generalize (w4.setCell (Ab jb 4) (A5 lb)).setCell (Ab jb 2) (A0 L)=w6 at bI a4 ⊢;have aX:Hid (w6.ownsRow 0 3 1 lv J.Aj.length (DF J.Aj)):=Ay a2.o.Aj λg Y=>a4.o.Al g (Az a2.o.Aj Y) (aH.o g Y).1;have bR:=A1 (aV.o.ak a4.o bA.o);have b3:=bI.o.af.c1;have b7:=bI.o.af.c2;obtain⟨ap,cp,rfl,hcap1,a1,-⟩:=B9 aX.o;unfold maxLen at a1;refine C3 (λw'=>A6 w' jb 1 (.slice ap J.Aj.length cp)/\A6 w' jb 2 (A0 L)) 11
   (Bz [0,1,2,3,4,5,6,7,8,9,10] [9,10]) ⟨b3,b7⟩ ?_
  iterate 9 (refine Bj ?_;(try simp only[Ao]))
  refine Bt λK I=>?_;go_simp;have ka:A3 Aa w6 (w6.aC #[A0 L] 3).drew:=((A3.I _ _).aj _).af;have bJ:=bI.o.ak ka (λh=>h);have bV:Hid ((w6.aC #[A0 L] 3).drew.ownsRow 0 3 1 (.slice ap J.Aj.length cp) J.Aj.length (DF J.Aj)):=Ay aX.o λg Y=>ka.Al g (Az aX.o Y) (λh=>h);have bF:Hid (Src Tryz.prog 1 120 (AJ w6.heap.size 1 1) 1 #[A0 L].toList (w6.aC #[A0 L] 3).drew):=by
   have hb:(w6.aC #[A0 L] 3).drew.heap[w6.heap.size]?=some (.cells #[A0 L] 3 (0,0)):=BK w6 _;exact Src.ct underlying120 hb 1 1 rfl (Jv [L])
  refine I _ _ ⟨bJ.c1,bJ.c2⟩ (λhS=>?_)
  (try simp only[Ao])
  refine DY rfl (by rfl) (λK I=>?_);refine HI (.tmp 37) (.tmp 42) 120 120 rfl 3 i0 _ 1 8 underlying120 hi bL bW bT rfl (by decide) (.slice ap J.Aj.length cp) J.Aj.length (DF J.Aj) (by rfl) bV.o _ 1 _ (by rfl) bF.o (by have:=a7.o;omega) ?_;intro a8 O w8 hA;have aP:=hA.An (S:=λk=>(Value.slice ap J.Aj.length cp).ownBlock=some k) λ_ h=>h;have a6:=bJ.ak aP (λh=>(aH.o _ h).1 rfl);refine I _ _ ⟨a6.c1,a6.c2⟩ (λhS=>?_);have g81:=a6.c1;have f81:=a6.fz 1;have b6:=A1 (a6.s1 (.slice a8 (J.Aj.length+1) O));have bU:=A1 ((bR.o.ak ka (λh=>h)).ak aP (λh=>(aH.o _ h).2 rfl));have a9:=A1 hA.AF;have bM:=A1 hA.Cy;have bZ:Hid (A3 (λk=>(Value.slice ap J.Aj.length cp).ownBlock=some k) w6 w8):=(ka.ad λ_ _ h=>h.elim).tr aP;have b8:Hid (w6.heap.size<=w8.heap.size/\w6.heap.size<=(w6.aC #[A0 L] 3).drew.heap.size):=⟨bZ.o.Ak,ka.Ak⟩
  (try simp only[Ao])
  refine Bo ?_;simp only[BO,BN];go_wp2;go_ret;have aA:∀g,(Value.slice a8 (J.Aj.length+1) O).ownBlock=some g->(Value.slice ap J.Aj.length cp).ownBlock=some g\/w6.heap.size<=g:=λg Y=>by
   rcases bM.o with h|h
   ·rw[h]at Y;exact .inl Y
   ·rw[h]at Y;cases Y;exact .inr b8.o.2
  have s46:=a4.o.Ak;have s04:=bY.o.Ak;have jbl:=bE.o.Ag.lt;have bC:∀g,(Value.slice a8 (J.Aj.length+1) O).ownBlock=some g->g≠jb:=λg Y=>by
   rcases aA g Y with h|h
   ·exact(aH.o g h).1
   ·omega
  have kf:A3 (One jb) w8 (w8.setCell (Ab jb 1) (.slice a8 (J.Aj.length+1) O)):=(A3.I (One jb) w8).aq (b:=jb) rfl 1 _;have aR:A3 (λk=>k=jb\/(Value.slice ap J.Aj.length cp).ownBlock=some k) w4 (w8.setCell (Ab jb 1) (.slice a8 (J.Aj.length+1) O)):=
   ((a4.o.ad λ_ _ h=>.inl h).Av bZ.o λ_ h _=>.inr h).Av kf λ_ h _=>.inl h
  refine⟨rfl,Ap.jd (lv:=.slice a8 (J.Aj.length+1) O) (ov:=(A5 lb)) (Ft:=bG) ((bY.o.ad (S':=λk=>Ft k\/k=jb\/(Value.slice ap J.Aj.length cp).ownBlock=some k) λ_ _ h=>.inl h).Av aR λ_ h _=>.inr h) ?_ ⟨b6.o,?_,.inr ⟨L,s1,lb,rfl,rfl,?_,bB⟩⟩ ?_ ?_ ?_ ?_ ?_⟩
  ·rintro k _ (h|rfl|h)
   ·exact aG.o k (.inl h)
   ·exact aG.o _ (.inr (.inl rfl))
   ·exact aG.o k (.inr (.inr (.inl h)))
  ·(have e:(J.Aj++[L]).length=J.Aj.length+1:=by simp);unfold Dw;rw[Kz,e];exact Ay a9.o λg Y=>GN _ _ _ _ (λe=>bC g Y e)
  ·rw[bP.o];exact bU.o.ak kf bA.o
  ·refine B3.aP b9.o (aR.aI bX.o λk d W=>?_);rcases bH.o k d with h|h
   ·rcases W with rfl|W
    ·exact a3.o _ (.inl rfl) h
    ·exact a3.o k (.inr (.inl W)) h
   ·rcases W with rfl|W
    ·omega
    ·have:=Az bE.o.Aj W;omega
  ·exact λk d=>Bm (bX.o k d) aR.Ak
  ·rintro k (rfl|d|d) W
   ·rcases bH.o _ W with h|h
    ·exact a3.o _ (.inl rfl) h
    ·omega
   ·rcases aA k d with h|h
    ·rcases bH.o k W with h' | h'
     ·exact a3.o k (.inr (.inl h)) h'
     ·have:=Az bE.o.Aj h;omega
    ·have:=bX.o k W;omega
   ·cases d;exact b0.o W
  ·exact λk d=>(bH.o k d).imp (λh=>aG.o k (.inl h)) id
  ·rintro k (rfl|d|d)
   ·exact .inl (aG.o _ (.inr (.inl rfl)))
   ·rcases aA k d with h|h
    ·exact .inl (aG.o k (.inr (.inr (.inl h))))
    ·exact .inr (by omega)
   ·cases d;exact .inr bK.o
end
end
end Go.Proofs.YtodcnkbblippnabGreatDoor
