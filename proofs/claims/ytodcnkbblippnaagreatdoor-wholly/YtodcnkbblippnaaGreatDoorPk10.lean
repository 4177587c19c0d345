/- Part 10 of a proof: walks of the program. -/
import Derived.Test.YtodcnkbblippnaaGreatDoorPk09
namespace Go.Proofs.YtodcnkbblippnaaGreatDoor
set_option maxRecDepth 100000
set_option maxHeartbeats 32000000
set_option linter.defProp false
open Go.Proofs.Tryz
section
open Go.RowKit
def PA{x y:Int}:Cj x y<0↔x<y:=by
 unfold Cj;by_cases h:x<y
 ·simp[h]
 ·rw[Ae h];split<;>simp<;>omega
def IJ:∀ {l:List Int},Cz Cj l=true↔l.Pairwise (· < ·)
 | []=>by simp[Cz]
 | [x]=>by simp[Cz]
 | x::y::r=>by
  have L:=@IJ (y::r);simp only[Cz,FE,Dn,PA,L];constructor
  ·rintro⟨I,H⟩;refine Dc.2 ⟨λz d=>?_,H⟩;rcases BQ.1 d with rfl|d
   ·exact I
   ·exact Int.lt_trans I ((Dc.1 H).1 z d)
  ·intro h;have E:=Dc.1 h;exact⟨E.1 y (BC ..),E.2⟩
def IS{α:Type}[DecidableEq α]:∀ {l l':List α},l.Nodup->(∀x∈l,x∈l')->l.length<=l'.length
 | [],l',_,_=>by simp
 | x::r,l',h,hs=>by
  have d:=Kf.1 h;have E:=hs x (BC ..);have ih:=IS (l':=l'.erase x) d.2 λy z=>(A4k (λe=>d.1 (by subst e;exact z))).2 (hs y (Bw _ z))
  have hl:=A4o E;have:0<l'.length:=A4n E;simp only[Cx];omega
def BZ:Int->List (List Pu)->List (Int×List Pu)
 | _,[]=>[]
 | last,l::r=>(last+1,l):: BZ (last+1) r
def GC:∀ {l:List (List Pu)} {last:Int} {x:Int×List Pu},x∈BZ last l->last<x.1/\x.1<=last+l.length/\x.2∈l
 | [],_,_,h=>by cases h
 | a::r,last,x,h=>by
  rcases BQ.1 h with rfl|h
  ·simp;omega
  ·obtain⟨h1,h2,d⟩:=GC h;simp only[Cx];exact⟨by omega,by omega,Bw _ d⟩
def OB:∀ {l:List (List Pu)} {last:Int},((BZ last l).map (·.1)).Pairwise (· < ·)
 | [],_=>by simp[BZ]
 | a::r,last=>by
  simp only[BZ,He];refine Dc.2 ⟨λz h=>?_,OB⟩;obtain⟨x,d,rfl⟩:=Cr.1 h;exact(GC d).1
def Mk:∀ {l:List (List Pu)} {last:Int},(BZ last l).length=l.length
 | [],_=>rfl
 | a::r,last=>by simp[BZ,Mk]
def KR:∀ {l:List (List Pu)} {last:Int},Ax (BZ last l)=l.flatten
 | [],_=>rfl
 | a::r,last=>by
  have:=@KR r (last+1);unfold Ax at this ⊢;simp[BZ,this]
def Dk(l:List (List Pu)):Nat:=(l.map λx=>17*x.length+4).sum
section
variable {P P':PD} {A:Ar} {sg cl:List (Int×List Pu)} {ol:Option (List Pu)} {N R:Nat}
def Cm.ah:∀(fresh:List (List Pu)) (last:Int) (kept:List Int) {P:PD},Cm P (N+3*fresh.length) (R+Dk fresh)->0<=last->last+fresh.length<=4611686018427387904->
 (∀n,isNum n=true->last<n->P.bs (AJ n)=none)->
 (PD.ah fresh last kept P).1=0/\(PD.ah fresh last kept P).2.1=last+fresh.length/\(PD.ah fresh last kept P).2.2.1=kept++(BZ last fresh).map (·.1)/\Cm (PD.ah fresh last kept P).2.2.2 N R/\
  (∀x∈BZ last fresh,(PD.ah fresh last kept P).2.2.2.bs (AJ x.1)=some (AT (AH (AJ x.1)) (Cf x.2)))/\
  ∀m,(∀x∈BZ last fresh,m≠AJ x.1)->(PD.ah fresh last kept P).2.2.2.bs m=P.bs m
 | [],last,kept,P,hc,h0,h1,hn=>⟨rfl,by simp[PD.ah],by simp[PD.ah,BZ],by simpa[PD.ah,Dk] using hc,⟨λx z=>by simp[BZ]at z,λm _=>rfl⟩⟩
 | l::r,last,kept,P,hc,h0,h1,hn=>by
  simp only[Cx]at h1;have h:isNum (last+1)=true:=by unfold isNum;simp;omega
  have d:Dk (l::r)=(17*l.length+4)+Dk r:=by simp[Dk]
  obtain⟨a1,a2,H⟩:=Cm.aI (N:=N+3*r.length) (R:=R+Dk (l::r)) (nm:=AJ (last+1)) (hc.aa (by simp;omega) (As _)) (hn _ h (by omega)) (XB _) (AH (AJ (last+1))) (Cf l) (by rw[I4,d];omega);rw[I4]at a2;have L:=a2.aa (N':=N+3*r.length) (R':=R+Dk r) (As _) (by rw[d];omega);obtain⟨b1,b2,b3,b4,b5,O⟩:=Cm.ah r (last+1) (kept++[last+1]) L (by omega) (by omega) λn W hlt=>by
   (have E:AJ n≠AJ (last+1):=λe=>by have:=KT W h e;omega);rw[H,Ae E];exact hn n W (by omega)
  have e:PD.ah (l::r) last kept P=PD.ah r (last+1) (kept++[last+1]) (P.aK (last+1) l).2:=by
   conv=>lhs;unfold PD.ah
   rw[Ae (by unfold PD.aK;simp[a1])]
  have e2:(P.aK (last+1) l).2=(P.aI (AJ (last+1)) (AH (AJ (last+1))) (Cf l)).2:=rfl;rw[e,e2];refine⟨b1,by rw[b2];simp only[Cx];omega,by rw[b3];simp[BZ],b4,λx z=>?_,λm hm=>?_⟩
  ·rcases BQ.1 z with rfl|z
   ·dsimp only
    rw[O _ λy Y e=>?_,H,Ai rfl];have Y:=GC Y;(have I:isNum y.1=true:=by unfold isNum;simp;omega);have:=KT h I e;omega
   ·exact b5 x z
  ·rw[O m λx z=>hm x (Bw _ z),H,Ae (hm _ (BC ..))]
def IN{nm:Bs}:nm∈A.aV P↔P.bs nm≠none/\nm∉A.Ay:=by
 unfold Ar.aV;rw[GX,H5];simp
def Cm.av(E:Cm P N R){K M:Nat}(hK:(A.aV P).length<=K)(hN:N=M+K):(A.av P).1=0/\Cm (A.av P).2 M R/\∀m,(A.av P).2.bs m=if m∈A.Ay then P.bs m else none:=by
 obtain⟨I,H,L⟩:=Cm.aL (N:=M) (A.aV P) (E.aa (by omega) (As _)) (VK GZ E.cO) λm d=>(IN.1 d).1
 refine⟨I,H,λm=>?_⟩;show (PD.aL (A.aV P) P).2.bs m=_;rw[L];by_cases d:m∈A.Ay
 ·rw[Ae (λh=>(IN.1 h).2 d),Ai d]
 ·rw[Ae d];by_cases z:P.bs m=none
  ·rw[z];simp
  ·rw[Ai (IN.2 ⟨z,d⟩)]
def Cm.ag(hc:Cm P (N+4) R)(d:Int)(segs:List Int)(E:P.bs Bo=none)(hR:12+8*segs.length<=R):
 (P.ag d segs).1=0/\Cm (P.ag d segs).2 N (R-(12+8*segs.length))/\∀m,(P.ag d segs).2.bs m=if m=AL then some (AT (AH AL) (Ci d segs)) else P.bs m:=by
 have L:(Ci d segs).length=8+8*segs.length:=by unfold Ci;rw[B1,CP,J5]
 obtain⟨O,W,H⟩:=Cm.aI (N:=N+1) hc E (by simp[Bo]) (AH AL) (Ci d segs) (by omega);obtain⟨I,Y,b3⟩:=Cm.fO (N:=N) (nm:=AL) W (by rw[H,Ai rfl]) (by simp[AL]) J4.symm;unfold PD.ag;rw[Ae (by simp[O])];refine⟨I,by have:=Y;rw[L]at this;exact this.aa (As _) (by omega),λm=>?_⟩;rw[b3];by_cases h:m=AL
 ·simp[h]
 ·rw[Ae h,Ae h];by_cases z:m=Bo
  ·rw[Ai z,z,E]
  ·rw[Ae z,H,Ae z]
def Lay.gi(h:Lay P A sg cl ol){x:Int×List Pu}(d:x∈sg):P.bs (AJ x.1)≠none:=by rw[(h.Cy x d).2];simp
def Lay.cV(h:Lay P A sg cl ol){x:Int×List Pu}(d:x∈sg):isNum x.1=true:=h.DG.segs _ (by rw[<-h.segs];exact DV d)
def Lay.cZ(h:Lay P A sg cl ol){x:Int×List Pu}(d:x∈sg):x.1<=A.Aa:=h.Ev.2 _ (h.cV d) (h.gi d)
def Lay.aG(h:Lay P A sg cl ol){K:Nat}(O:List (Int×List Pu))(fresh:List (List Pu))(hc:Cm P (N+A.AQ.length+K+3*fresh.length+8+A.j.Am.length+sg.length+fresh.length) (R+Dk fresh+12+8*(O.length+fresh.length)))(hK:P.Ay.length<=K)(aA:∀x∈O,x∈sg)(aO:(O.map (·.1)).Pairwise (· < ·))(hf:∀l∈fresh,(∀p∈l,Bh p)/\Cz Co l=true)(hn:isNum (A.j.Aa+1)=true)(a1:A.Aa+fresh.length<=4611686018427387904):
 (A.aG P (O.map (·.1)) fresh).1=0/\(A.aG P (O.map (·.1)) fresh).2.1=⟨⟨A.j.Aa+1,(O++BZ A.Aa fresh).map (·.1)⟩,⟨[],A.j.Aa,0,none⟩,A.Aa+fresh.length,[]⟩/\Cm (A.aG P (O.map (·.1)) fresh).2.2 N R/\
  Lay (A.aG P (O.map (·.1)) fresh).2.2 (A.aG P (O.map (·.1)) fresh).2.1 (O++BZ A.Aa fresh) [] none/\
  (∀m,(A.aG P (O.map (·.1)) fresh).2.2.bs m≠none->m∈AL::(O++BZ A.Aa fresh).map λx=>AJ x.1):=by
 obtain⟨s1,s2,s3,s4,s5⟩:=h.C (N:=N+K+3*fresh.length+8+A.j.Am.length+sg.length+fresh.length) (R:=R+Dk fresh+12+8*(O.length+fresh.length)) (hc.aa (by omega) (As _));have aM:(({A with AQ:=[]}:Ar).aV (A.C P).2.2).length<=K:=by
  refine AR ?_ hK;refine IS (VK GZ s3.cO) λm I=>?_;rw[H5,<-s4];exact(IN.1 I).1
 obtain⟨w1,w2,w3⟩:=Cm.av (A:={A with AQ:=[]}) s3 (K:=K) (M:=N+3*fresh.length+8+A.j.Am.length+sg.length+fresh.length) aM (by omega);have H:∀m,m∈({A with AQ:=[]}:Ar).Ay↔m=AL\/(∃n∈A.j.Am,m=Ah n)\/∃x∈sg,m=AJ x.1:=λm=>by
  unfold Ar.Ay;dsimp only
  rw[<-h.segs];simp[eq_comm]
 have aK:∀n,isNum n=true->A.Aa<n->(({A with AQ:=[]}:Ar).av (A.C P).2.2).2.bs (AJ n)=none:=λn hk hlt=>by
  rw[w3];split
  ·rw[s4];cases d:P.bs (AJ n) with
   | none=>rfl
   | some c=>have:=h.Ev.2 n hk (by rw[d];simp);omega
  ·rfl
 obtain⟨g1,g2,g3,g4,g5,g6⟩:=Cm.ah (N:=N+8+A.j.Am.length+sg.length+fresh.length) (R:=R+12+8*(O.length+fresh.length)) fresh A.Aa (O.map (·.1)) (w2.aa (by omega) (by omega)) h.Ev.1 a1 aK;generalize a3:(({A with AQ:=[]}:Ar).av (A.C P).2.2).2=P1 at w3 aK g1 g2 g3 g4 g5 g6;generalize a4:(PD.ah fresh A.Aa (O.map (·.1)) P1).2.2.2=P2 at g4 g5 g6;obtain⟨W,aD⟩:∃W,O++BZ A.Aa fresh=W:=⟨_,rfl⟩;have aJ:W.map (·.1)=O.map (·.1)++(BZ A.Aa fresh).map (·.1):=by rw[<-aD,Eg]
 have aW:W.length=O.length+fresh.length:=by rw[<-aD,B1,Mk]
 have aP:P2.bs Bo=none:=by
  rw[g6 _ λx _=>(M3 x.1).symm,w3,Ae];rw[H];rintro (e|⟨n,_,e⟩|⟨x,_,e⟩)
  ·exact J4 e.symm
  ·exact L1 n e.symm
  ·exact M3 x.1 e.symm
 have aB:∀x∈W,isNum x.1=true:=λx d=>by
  rw[<-aD]at d;rcases AV.1 d with d|d
  ·exact h.cV (aA x d)
  ·have:=GC d;have:=h.Ev.1;unfold isNum;simp;omega
 have aY:∀x∈W,x.1<=A.Aa+fresh.length:=λx d=>by
  rw[<-aD]at d;rcases AV.1 d with d|d
  ·have:=h.cZ (aA x d);omega
  ·have:=GC d;omega
 have aH:(W.map (·.1)).Pairwise (· < ·):=by
  rw[aJ];refine Es.2 ⟨aO,OB,λa ha b hb=>?_⟩;obtain⟨x,d,rfl⟩:=Cr.1 ha;obtain⟨y,hy,rfl⟩:=Cr.1 hb;have h1:=h.cZ (aA x d);have Y:=GC hy;omega
 have aF:∀x∈W,((∀p∈x.2,Bh p)/\Cz Co x.2=true)/\P2.bs (AJ x.1)=some (AT (AH (AJ x.1)) (Cf x.2)):=λx d=>by
  rw[<-aD]at d;rcases AV.1 d with d|d
  ·have a0:=h.Cy x (aA x d);refine⟨a0.1,?_⟩;rw[g6 _ λy hy e=>?_,w3,Ai ((H _).2 (.inr (.inr ⟨x,aA x d,rfl⟩))),s4,a0.2];have Y:=GC hy;have h3:=h.Ev.1;have:=KT (h.cV (aA x d)) (by unfold isNum;simp;omega) e;have h1:=h.cZ (aA x d);omega
  ·exact⟨hf _ (GC d).2.2,g5 x d⟩
 have aN:∃aE,(({A with AQ:=[],Aa:=A.Aa+fresh.length}:Ar).ag P2 (W.map (·.1)))=(0,⟨⟨A.j.Aa+1,W.map (·.1)⟩,⟨[],A.j.Aa,0,none⟩,A.Aa+fresh.length,[]⟩,aE)/\Cm aE (N+4+A.j.Am.length+sg.length+fresh.length) R/\((aE.bs AL=none/\A.j.Aa=0/\W=[])\/aE.bs AL=some (AT (AH AL) (Ci (A.j.Aa+1) (W.map (·.1)))))/\∀m,m≠AL->aE.bs m=P2.bs m:=by
  unfold Ar.ag;dsimp only
  by_cases z:A.ix.B8=A.j.Aa+1/\A.ix.segs=W.map (·.1)
  ·rw[Ai z];have aR:cl=[]:=by
    cases aR:cl with
    | nil=>rfl
    | cons x r=>
     (have d:x∈cl:=by rw[aR];exact BC ..);have h1:=h.EI.1 x d;have Y:=(h.CW x d).1.2;have:=z.1;omega
   have a2:ol=none:=by
    cases ol with
    | none=>rfl
    | some l=>have:=h.EI.2 (by simp);have:=z.1;omega
   subst aR a2;have hj:A.j=⟨[],A.j.Aa,0,none⟩:=by
    have h1:=h.AB;have Y:=h.Gq;(have e:∀j:Jn,j.AB=none->j.Am=[]->j.puts=0->j=⟨[],j.Aa,0,none⟩:=λj a b c=>by cases j;simp_all);exact e _ h1.1 (by simpa using h1.2) (by simpa[Ax] using Y)
   have hi:A.ix=⟨A.j.Aa+1,W.map (·.1)⟩:=by
    have e:∀i:Ix,i=⟨i.B8,i.segs⟩:=λi=>rfl;rw[e A.ix,z.1,z.2]
   refine⟨P2,?_,g4.aa (by omega) (by omega),?_,λ_ _=>rfl⟩
   ·conv=>lhs;rw[hj,hi]
   ·rw[g6 _ λx _=>(Jy x.1).symm,w3,Ai ((H _).2 (.inl rfl)),s4];rcases h.ix with⟨h1,Y⟩|Y
    ·rw[Y]at z;exact .inl ⟨h1,by have:=z.1;dsimp only at this;omega,by simpa using z.2⟩
    ·exact .inr (by rw[Y,z.1,z.2])
  ·rw[Ae z];obtain⟨t1,t2,t3⟩:=Cm.ag (N:=N+4+A.j.Am.length+sg.length+fresh.length) (R:=R+12+8*W.length) (g4.aa (by omega) (by rw[aW];omega)) (A.j.Aa+1) (W.map (·.1)) aP (by simp);rw[Ae (by simp[t1])];refine⟨_,rfl,t2.aa (As _) (by simp;omega),.inr (by rw[t3,Ai rfl]),λm I=>by rw[t3,Ae I]⟩
 obtain⟨aE,t1,t2,t3,t4⟩:=aN;have aV:∀m,aE.bs m≠none->m=AL\/(∃n∈A.j.Am,m=Ah n)\/(∃x∈sg,m=AJ x.1)\/∃x∈BZ A.Aa fresh,m=AJ x.1:=λm I=>by
  by_cases e:m=AL
  ·exact .inl e
  ·rw[t4 m e]at I;by_cases e2:∃x∈BZ A.Aa fresh,m=AJ x.1
   ·exact .inr (.inr (.inr e2))
   ·rw[g6 m λx d e3=>e2 ⟨x,d,e3⟩,w3]at I;by_cases e3:m∈({A with AQ:=[]}:Ar).Ay
    ·rcases(H m).1 e3 with h|h|h
     ·exact .inl h
     ·exact .inr (.inl h)
     ·exact .inr (.inr (.inl h))
    ·rw[Ae e3]at I;exact absurd rfl I
 obtain⟨aG,aI⟩:∃aG:Ar,(⟨⟨A.j.Aa+1,W.map (·.1)⟩,⟨[],A.j.Aa,0,none⟩,A.Aa+fresh.length,[]⟩:Ar)=aG:=⟨_,rfl⟩;have E:∀m,m∈aG.Ay↔m=AL\/∃x∈W,m=AJ x.1:=λm=>by
  rw[<-aI];unfold Ar.Ay;dsimp only;simp[eq_comm]
 have aQ:(aG.aV aE).length<=1+A.j.Am.length+sg.length+fresh.length:=by
  have h1:(aG.aV aE).length<=(AL::(A.j.Am.map Ah++(sg.map (λx=>AJ x.1)++(BZ A.Aa fresh).map λx=>AJ x.1))).length:=
   IS (VK GZ t2.cO) λm I=>by
    rcases aV m (IN.1 I).1 with h|⟨n,h1,Y⟩|⟨n,h1,Y⟩|⟨n,h1,Y⟩
    ·subst h;exact BC ..
    ·subst Y;exact Bw _ (FN _ (DV h1))
    ·subst Y;exact Bw _ (Hd _ (FN _ (Cr.2 ⟨n,h1,rfl⟩)))
    ·subst Y;exact Bw _ (Hd _ (Hd _ (Cr.2 ⟨n,h1,rfl⟩)))
  simp only[Cx,B1,Fx,Mk]at h1;omega
 obtain⟨v1,v2,v3⟩:=Cm.av (A:=aG) (t2.aa (N':=N+1+(1+A.j.Am.length+sg.length+fresh.length)) (by omega) (As _)) aQ (M:=N+1) (by omega);obtain⟨d1,d2,d3⟩:=Cm.dS (N:=N) v2;obtain⟨aS,aX⟩:∃aS,(aG.av aE).2.aJ.2=aS:=⟨_,rfl⟩;have aZ:A.aG P (O.map (·.1)) fresh=(0,aG,aS):=by
  unfold Ar.aG;dsimp only
  rw[Ae (by simp[s1]),s2,Ae (by simp[w1]),a3];dsimp only
  rw[Ae (by simp[g1]),g2,g3,a4,<-aJ,t1,aI];dsimp only
  rw[Ae (by simp)];unfold Ar.aZ;rw[Ae (by simp[v1]),d1,aX]
 rw[aX]at d2 d3;have L:∀m,aS.bs m=if m∈aG.Ay then aE.bs m else none:=λm=>by rw[d3,v3]
 have aL:∀x∈W,aS.bs (AJ x.1)=some (AT (AH (AJ x.1)) (Cf x.2)):=λx d=>by
  rw[L,Ai ((E _).2 (.inr ⟨x,d,rfl⟩)),t4 _ (Jy _)];exact(aF x d).2
 have aU:aS.bs AL=aE.bs AL:=by rw[L,Ai ((E _).2 (.inl rfl))]
 rw[aZ];dsimp only
 rw[aD];refine⟨rfl,aI.symm,d2,?_,λm I=>?_⟩
 ·rw[<-aI];refine⟨⟨hn,λn I=>?_,IJ.2 aH⟩,?_,rfl,λx d=>⟨(aF x d).1,aL x d⟩,λx d=>(by cases d),λx d=>(by cases d),⟨λx d=>(by cases d),λh=>absurd rfl h⟩,trivial,rfl,⟨rfl,rfl⟩,⟨h.EG.1,HC _,λn hk d=>?_⟩,⟨by have:=h.Ev.1;dsimp only;omega,λn hk d=>?_⟩,λnm I=>(by cases I),List.Pairwise.nil,λnm I=>?_,λn hk _ d=>?_⟩
  ·obtain⟨x,d,rfl⟩:=Cr.1 I;exact aB x d
  ·rw[aU];rcases t3 with⟨q1,q2,q3⟩|q
   ·exact .inl ⟨q1,by dsimp only;rw[q2,q3];rfl⟩
   ·exact .inr q
  ·rw[L,Ae]at d
   ·exact absurd rfl d
   ·rw[E];rintro (e|⟨x,_,e⟩)
    ·exact Hk n e
    ·exact G1 n x.1 e
  ·rw[L]at d;split at d
   ·rename_i I;rcases(E _).1 I with e|⟨x,aT,e⟩
    ·exact absurd e (Jy n)
    ·have:=KT hk (aB x aT) e;rw[this];exact aY x aT
   ·exact absurd rfl d
  ·rw[L]at I;split at I
   ·rename_i Y;rcases(E _).1 Y with e|⟨x,d,e⟩
    ·subst e;rw[T3];simp
    ·subst e;rw[OH (aB x d)];simp
   ·exact absurd rfl I
  ·rw[L,Ae]at d
   ·exact absurd rfl d
   ·rw[E];rintro (e|⟨x,_,e⟩)
    ·exact Hk n e
    ·exact G1 n x.1 e
 ·rw[L]at I;split at I
  ·rename_i Y;rcases(E _).1 Y with e|⟨x,d,e⟩
   ·subst e;exact BC ..
   ·subst e;exact Bw _ (Cr.2 ⟨x,d,rfl⟩)
  ·exact absurd rfl I
end
def BG(l:List Pu)(k t:Int):Option Int:=l.foldl (λo p=>if p.1=k/\p.2.1=t then some p.2.2 else o) none
def Ig(l:List Pu)(p:Pu)(k t:Int):BG (l++[p]) k t=if p.1=k/\p.2.1=t then some p.2.2 else BG l k t:=by simp[BG]
def A0n(l:List Pu)(k t:Int):∀o,l.foldl (λo p=>if p.1=k/\p.2.1=t then some p.2.2 else o) o=(BG l k t).or o:=by
 induction l with
 | nil=>intro o;simp[BG]
 | cons p r ih=>
  intro o;have h:=ih (if p.1=k/\p.2.1=t then some p.2.2 else o);have d:=ih (if p.1=k/\p.2.1=t then some p.2.2 else none);unfold BG at h d ⊢;simp only[LG]at h d ⊢;rw[h,d];cases r.foldl (λo p=>if p.1=k/\p.2.1=t then some p.2.2 else o) none with
  | some x=>simp
  | none=>
   simp only[Option.none_or];split<;>simp
def GD(a b:List Pu)(k t:Int):BG (a++b) k t=(BG b k t).or (BG a k t):=by
 have:=A0n b k t (BG a k t);unfold BG at this ⊢;rw[Kj,this]
def Tu(l:List Pu)(k t:Int)(q:Pu->Bool)(E:∀p∈l,p.1=k->p.2.1=t->q p=true):BG (l.filter q) k t=BG l k t:=by
 induction l with
 | nil=>rfl
 | cons p r ih=>
  have d:=ih λx z=>E x (Bw _ z);have e:∀x:Pu,∀l:List Pu,BG (x::l) k t=(BG l k t).or (BG [x] k t):=λx l=>GD [x] l k t;by_cases h:q p=true
  ·rw[IA h,e p r,e p (r.filter q),d]
  ·rw[Kk h,e p r,d];have:¬(p.1=k/\p.2.1=t):=λz=>h (E p (BC ..) z.1 z.2);simp[BG,this]
def Tt{l:List Pu}{k t:Int}:BG l k t=none↔∀p∈l,¬(p.1=k/\p.2.1=t):=by
 induction l with
 | nil=>simp[BG]
 | cons p r ih=>
  have e:BG (p::r) k t=(BG r k t).or (BG [p] k t):=GD [p] r k t;rw[e,Option.or_eq_none_iff,ih];simp only[BQ,forall_eq_or_imp];constructor
  ·rintro⟨z,d⟩;exact⟨λh=>by simp[BG,h]at d,z⟩
  ·rintro⟨z,d⟩;exact⟨d,by simp[BG,z]⟩
def A0m{l:List Pu}{k t v:Int}(h:BG l k t=some v):(k,t,v)∈l:=by
 induction l with
 | nil=>cases h
 | cons p r ih=>
  have e:BG (p::r) k t=(BG r k t).or (BG [p] k t):=GD [p] r k t;rw[e]at h;cases hr:BG r k t with
  | some x=>
   rw[hr]at h;simp at h;subst h;exact Bw _ (ih hr)
  | none=>
   rw[hr]at h;simp only[Option.none_or]at h;by_cases d:p.1=k/\p.2.1=t
   ·simp[BG,d]at h;obtain⟨a,b,c⟩:=p
    simp_all
   ·simp[BG,d]at h
def Ih{len:Int}{p q:Pu}:AA len p q=true↔BD p.2.1 len<BD q.2.1 len\/BD p.2.1 len=BD q.2.1 len/\(p.1<q.1\/p.1=q.1/\p.2.1<q.2.1):=by simp[AA]
def A0I{len:Int}{p q r:Pu}(h1:AA len p q=true)(h2:AA len q r=true):AA len p r=true:=by
 rw[Ih]at *;omega
def A0L{len:Int}{p q:Pu}(h:AA len p q=true):¬(p.1=q.1/\p.2.1=q.2.1):=by
 rw[Ih]at h;rintro⟨h1,d⟩;rw[d]at h;omega
def UD{p q:Pu}:Co p q=0↔p.1=q.1/\p.2.1=q.2.1:=by
 have h:∀x y:Int,Cj x y=0↔x=y:=λx y=>by
  unfold Cj;by_cases d:x<y
  ·simp[d];omega
  ·by_cases z:y<x
   ·simp[d,z];omega
   ·simp[d,z];omega
 unfold Co;by_cases d:Cj p.1 q.1=0
 ·simp[h,(h _ _).1 d]
 ·simp only[JJ,d,OC,Ch,false_iff];exact λE=>d ((h _ _).2 E.1)
def A2S{p q:Pu}:Co p q<0↔p.1<q.1\/p.1=q.1/\p.2.1<q.2.1:=by
 unfold Co;by_cases h:p.1=q.1
 ·have:Cj p.1 q.1=0:=by rw[h];simp[Cj]
  rw[Ae (by simp[this]),PA];omega
 ·have:Cj p.1 q.1≠0:=by
   unfold Cj;by_cases d:p.1<q.1
   ·simp[d]
   ·rw[Ae d,Ai (by omega)];simp
  rw[Ai this,PA];omega
def A0J{len:Int}{p q:Pu}(h:BD p.2.1 len=BD q.2.1 len)(E:AA len p q=false)(z:Co p q≠0):AA len q p=true:=by
 have d:¬(AA len p q=true):=by simp[E]
 rw[Ih]at d ⊢;rw[JJ,UD]at z;omega
def A0K{len:Int}{p q:Pu}(h:BD p.2.1 len≠BD q.2.1 len)(z:AA len p q=false):BD q.2.1 len<BD p.2.1 len:=by
 have d:¬(AA len p q=true):=by simp[z]
 rw[Ih]at d;omega
def Xq(len:Int)(h:BU (AA len))(l:List Pu)(k t:Int):BG (E6 (AA len) l) k t=BG l k t:=by
 have E:=h.cw l (k,t,0);have d:∀m:List Pu,∀p∈m,p.1=k->p.2.1=t->eqv (AA len) (k,t,0) p=true:=λm p _ H z=>by
  subst H z;simp[eqv,AA]
 rw[<-Tu l k t _ (d l),<-Tu (E6 (AA len) l) k t _ (d _),E]
structure WI (len:Int) (ws:List (List Pu)) (s:List Pu):Prop where
 Lj:ws.flatten.Pairwise (λa b=>AA len a b=true)
 Aa:∀k t,BG ws.flatten k t=BG s k t
 DF:∀x∈ws.flatten,x∈s
 ne:∀w∈ws,w≠[]
 Gd:∀w∈ws,∀p∈w,∀q∈w,BD p.2.1 len=BD q.2.1 len
 Lk:ws.Pairwise λw w'=>∀p∈w,∀q∈w',BD p.2.1 len<BD q.2.1 len
 B5:ws.flatten.length<=s.length
def WI.cI{len:Int}{ws:List (List Pu)}{s:List Pu}(h:WI len ws s)(p:Pu)(L:∀x∈ws.flatten,BD x.2.1 len<BD p.2.1 len):WI len (ws++[[p]]) (s++[p]):=by
 have e:(ws++[[p]]).flatten=ws.flatten++[p]:=by simp
 have I:∀w∈ws,∀x∈w,x∈ws.flatten:=λw d x z=>Nf.2 ⟨w,d,z⟩;refine⟨?_,λk t=>?_,λx z=>?_,λw d=>?_,λw d=>?_,?_,?_⟩
 ·rw[e,Es];refine⟨h.Lj,by simp,λa H b E=>?_⟩;simp at E;subst E;rw[Ih];exact .inl (L a H)
 ·rw[e,Ig,Ig,h.Aa]
 ·rw[e]at z;rcases AV.1 z with z|z
  ·exact FN _ (h.DF x z)
  ·exact Hd _ z
 ·rcases AV.1 d with d|d
  ·exact h.ne w d
  ·simp at d;subst d;simp
 ·rcases AV.1 d with d|d
  ·exact h.Gd w d
  ·simp at d;subst d;intro a H b E;simp at H E;subst H E;rfl
 ·rw[Es];refine⟨h.Lk,by simp,λa H b E x z y O=>?_⟩;simp at E;subst E;simp at O;subst O;exact L x (I a H x z)
 ·rw[e,B1,B1];have:=h.B5;simp only[Q1];omega
def WI.ag{len:Int}{d:List (List Pu)}{w w':List Pu}{s s':List Pu}{q:Pu}(h:WI len (d++[w]) s)(hq:q∈w)(L:(d.flatten++w').Pairwise (λa b=>AA len a b=true))(I:∀k t,BG (d.flatten++w') k t=BG s' k t)(W:∀x∈w',x∈s')(Y:∀x∈s,x∈s')(aA:w'≠[])(E:∀p∈w',BD p.2.1 len=BD q.2.1 len)(hlen:w'.length+s.length<=w.length+s'.length):WI len (d++[w']) s':=by
 have e:∀v:List Pu,(d++[v]).flatten=d.flatten++v:=λv=>by simp
 have O:=Es.1 h.Lk;refine⟨by rw[e];exact L,λk t=>by rw[e];exact I k t,λx H=>?_,λv z=>?_,λv z=>?_,?_,?_⟩
 ·rw[e]at H;rcases AV.1 H with H|H
  ·exact Y x (h.DF x (by rw[e];exact FN _ H))
  ·exact W x H
 ·rcases AV.1 z with z|z
  ·exact h.ne v (FN _ z)
  ·simp at z;subst z;exact aA
 ·rcases AV.1 z with z|z
  ·exact h.Gd v (FN _ z)
  ·simp at z;subst z;intro a ha b hb;rw[E a ha,E b hb]
 ·rw[Es];refine⟨O.1,by simp,λa ha b hb x H y hy=>?_⟩;simp at hb;subst hb;rw[E y hy];exact O.2.2 a ha w (by simp) x H q hq
 ·rw[e];have:=h.B5;rw[e]at this;simp only[B1]at this ⊢;omega
def WI.a7{len:Int}{z:List (List Pu)}{I:List Pu}{q E p:Pu}{s:List Pu}(h:WI len (z++[I++[q]]) s)(hq:q.1=E.1/\q.2.1=E.2.1)(hp:AA len p E=false):
 ∃Y w1,EB len (z++[I++[q]]) false E p=Y++[w1++[p]]/\WI len (Y++[w1++[p]]) (s++[p]):=by
 have aE:AA len p q=false:=by
  have:AA len p q=AA len p E:=by unfold AA;rw[hq.1,hq.2]
  rw[this];exact hp
 have O:q∈I++[q]:=by simp
 have e:∀v:List Pu,(z++[v]).flatten=z.flatten++v:=λv=>by simp
 have H:=h.Lj;rw[e]at H;have hall:∀x∈z.flatten++(I++[q]),x=q\/AA len x q=true:=λx d=>by
  rw[<-Cc]at d H;rcases AV.1 d with d|d
  ·exact .inr ((Es.1 H).2.2 x d q (by simp))
  ·exact .inl (by simpa using d)
 unfold EB;dsimp only
 by_cases L:BD p.2.1 len=BD E.2.1 len
 ·have hw:BD p.2.1 len=BD q.2.1 len:=by rw[L,hq.2]
  have W:¬(false=true\/BD p.2.1 len≠BD E.2.1 len):=by simp[L]
  simp only[Ae W];have hl:(z++[I++[q]]).getLastD []=I++[q]:=by simp
  have aF:(I++[q]).getLastD (0,0,0)=q:=by simp
  have hd:(z++[I++[q]]).dropLast=z:=by simp
  have aB:(I++[q]).dropLast=I:=by simp
  rw[hl,aF,hd,aB];by_cases hz:Co p q=0
  ·rw[Ai ⟨by simp,hz⟩];have hk:=UD.1 hz;refine⟨z,I,rfl,h.ag O ?_ (λk t=>?_) (λx d=>?_) (λx d=>FN _ d) (by simp) (λx d=>?_) (by simp)⟩
   ·rw[<-Cc]at H ⊢;have ha:=Es.1 H;rw[Es];refine⟨ha.1,by simp,λa aG b hb=>?_⟩;simp at hb;subst hb;have:=ha.2.2 a aG q (by simp);rw[Ih]at this ⊢;rw[hk.1,hk.2];exact this
   ·rw[<-Cc,Ig,Ig,<-h.Aa,e,<-Cc,Ig];by_cases d:p.1=k/\p.2.1=t
    ·simp[d]
    ·rw[Ae d,Ae d,Ae (by rw[<-hk.1,<-hk.2];exact d)]
   ·rcases AV.1 d with d|d
    ·exact FN _ (h.DF x (by rw[e];simp[d]))
    ·exact Hd _ d
   ·rcases AV.1 d with d|d
    ·exact h.Gd _ (by simp) x (by simp[d]) q O
    ·simp at d;subst d;exact hw
  ·rw[Ae (by simp[hz])];have aA:=A0J hw aE hz;refine⟨z,I++[q],rfl,h.ag O ?_ (λk t=>?_) (λx d=>?_) (λx d=>FN _ d) (by simp) (λx d=>?_) (by simp;omega)⟩
   ·rw[<-Cc,Es];refine⟨H,by simp,λa ha b hb=>?_⟩;simp at hb;subst hb;rcases hall a ha with rfl|d
    ·exact aA
    ·exact A0I d aA
   ·rw[<-Cc,Ig,Ig,<-h.Aa,e]
   ·rcases AV.1 d with d|d
    ·exact FN _ (h.DF x (by rw[e];exact Hd _ d))
    ·exact Hd _ d
   ·rcases AV.1 d with d|d
    ·exact h.Gd _ (by simp) x d q O
    ·simp at d;subst d;exact hw
 ·have W:false=true\/BD p.2.1 len≠BD E.2.1 len:=.inr L;simp only[Ai W];have hl:(z++[I++[q]]++[[]]).getLastD []=([]:List Pu):=by simp
  have hd:(z++[I++[q]]++[[]]).dropLast=z++[I++[q]]:=by simp
  rw[hl,hd,Ae (by simp)];refine⟨z++[I++[q]],[],by simp,?_⟩;have aD:BD q.2.1 len<BD p.2.1 len:=by
   have:=A0K L hp;rw[hq.2];exact this
  have:=h.cI p λx d=>?_
  ·simpa using this
  ·rw[e]at d;rcases hall x d with rfl|d
   ·exact aD
   ·rw[Ih]at d;omega
def Qr{len:Int}:∀(r:List Pu) (z:List (List Pu)) (H:List Pu) (q d:Pu) (s:List Pu),WI len (z++[H++[q]]) s->q.1=d.1/\q.2.1=d.2.1->B2 (AA len) (d::r)->WI len (Ei len r false d (z++[H++[q]])) (s++r)
 | [],z,H,q,d,s,h,_,_=>by simpa[Ei] using h
 | p::r,z,H,q,d,s,h,hq,ha=>by
  have E:=Dc.1 ha;obtain⟨I,L,W,O⟩:=h.a7 hq (E.1 p (BC ..));unfold Ei;rw[W];have:=Qr r I L p p (s++[p]) O ⟨rfl,rfl⟩ E.2;simpa using this
def W9{len:Int}(s:List Pu)(z:B2 (AA len) s):WI len (Ei len s true (0,0,0) []) s:=by
 cases s with
 | nil=>exact⟨by simp[Ei],λ_ _=>rfl,λx h=>by simp[Ei]at h,λw d=>by simp[Ei]at d,λw d=>by simp[Ei]at d,by simp[Ei],by simp[Ei]⟩
 | cons p r=>
  unfold Ei;have e:EB len [] true (0,0,0) p=[]++[[]++[p]]:=by simp[EB]
  rw[e];have H:WI len [] []:=⟨by simp,λ_ _=>rfl,λx h=>by simp at h,λw d=>by simp at d,λw d=>by simp at d,by simp,by simp⟩;have E:=H.cI p (by simp);have:=Qr r [] [] p p [p] (by simpa using E) ⟨rfl,rfl⟩ z;simpa using this
def Hn{len:Int}(E:BU (AA len))(l:List Pu):WI len (BA len l) l:=by
 have h:=W9 (len:=len) (E6 (AA len) l) (E.eH l);have d:∀x∈E6 (AA len) l,x∈l:=λx I=>Bi.DF E (E.cw l).bG I;have z:(E6 (AA len) l).length=l.length:=by
  have H:∀(l s:List Pu),(l.foldl (λs x=>F5 (AA len) x s) s).length=s.length+l.length:=by
   intro l
   induction l with
   | nil=>intro s;rfl
   | cons x r ih=>
    intro s;have L:∀m:List Pu,(F5 (AA len) x m).length=m.length+1:=by
     intro m
     induction m with
     | nil=>rfl
     | cons y m ihm=>unfold F5;split<;>simp[ihm]
    rw[LG,ih,L,Cx];omega
  have:=H l [];simpa[E6] using this
 exact⟨h.Lj,λk t=>by rw[<-Xq len E l k t];exact h.Aa k t,λx I=>d x (h.DF x I),h.ne,h.Gd,h.Lk,by rw[<-z];exact h.B5⟩
def WI.EN{len:Int}{ws:List (List Pu)}{s:List Pu}(h:WI len ws s){w:List Pu}(I:w∈ws):Cz Co w=true:=by
 have z:=A4w (Nc I) h.Lj;have L:=h.Gd w I;have E:∀m:List Pu,(∀x∈m,x∈w)->m.Pairwise (λa b=>AA len a b=true)->Cz Co m=true:=by
  intro m
  induction m with
  | nil=>intro _ _;rfl
  | cons a m ih=>
   intro H z;cases m with
   | nil=>rfl
   | cons b m=>
    have d:=Dc.1 z;simp only[Cz,FE,Dn];refine⟨?_,ih (λx O=>H x (Bw _ O)) d.2⟩;have:=d.1 b (BC ..);rw[Ih]at this;have e:=L a (H a (BC ..)) b (H b (by simp));rw[A2S];omega
 exact E w (λ_ h=>h) z
def H9{ws:List (List Pu)}(h:∀w∈ws,w≠[]):ws.length<=ws.flatten.length:=by
 induction ws with
 | nil=>simp
 | cons w r ih=>
  have h1:=ih λx d=>h x (Bw _ d);have h2:=Jf.2 (h w (BC ..));rw[Jh,B1,Cx];omega
def Jz(ws:List (List Pu)):Dk ws=17*ws.flatten.length+4*ws.length:=by
 unfold Dk
 induction ws with
 | nil=>rfl
 | cons w r ih=>
  rw[He,List.sum_cons,ih,Jh,B1,Cx];omega
section
variable {P P':PD} {A:Ar} {sg cl:List (Int×List Pu)} {ol:Option (List Pu)} {N R:Nat} {Al oldest:Int}
def Lay.bZ(h:Lay P A sg cl ol):∀p∈Ax cl++ol.getD [],Bh p:=by
 intro p d;rcases AV.1 d with d|d
 ·obtain⟨x,z,d⟩:=List.mem_flatMap.1 d;exact(h.CW x z).2 p d
 ·cases ol with
  | none=>simp at d
  | some l=>exact h.AB.2.2.2.1 p (by simpa using d)
def Lay.cT(h:Lay P A sg cl ol):∀p∈Ax sg,Bh p:=by
 intro p d;obtain⟨x,z,d⟩:=List.mem_flatMap.1 d;exact(h.Cy x z).1.1 p d
def Cb(o:Int)(a b:List Pu):Prop:=(∀k t,o<=t->BG a k t=BG b k t)/\(∀p∈a,∃q∈b,q.1=p.1/\q.2.1=p.2.1)/\a.length<=b.length
def Lay.aS(h:Lay P A sg cl ol)(hw:BU (AA Al)){K n:Nat}(hn:(Ax cl++ol.getD []).length<=n)(hn2:n<=1099511627776)(hK:P.Ay.length<=K)(hsl:sg.length<=K)(hjl:A.j.Am.length<=K)(hll:A.AQ.length<=K)(hc:Cm P (N+4*K+4*n+8) (R+29*n+12+8*K))(E:isNum (A.j.Aa+1)=true)(hln:A.Aa+n<=4611686018427387904):
 (A.aS P Al).1=0/\Cm (A.aS P Al).2.2 N R/\
  ∃fresh,(A.aS P Al).2.1=⟨⟨A.j.Aa+1,(sg++BZ A.Aa fresh).map (·.1)⟩,⟨[],A.j.Aa,0,none⟩,A.Aa+fresh.length,[]⟩/\Lay (A.aS P Al).2.2 (A.aS P Al).2.1 (sg++BZ A.Aa fresh) [] none/\
   (∀m,(A.aS P Al).2.2.bs m≠none->m∈AL::(sg++BZ A.Aa fresh).map λx=>AJ x.1)/\fresh.length<=fresh.flatten.length/\fresh.flatten.length<=(Ax cl++ol.getD []).length/\(∀k t,BG (B7 (sg++BZ A.Aa fresh) [] none) k t=BG (B7 sg cl ol) k t)/\(∀p∈fresh.flatten,Bh p):=by
 have z:=h.puts (by rw[B1]at hn;omega);have d:=Hn hw (Ax cl++ol.getD []);generalize I:BA Al (Ax cl++ol.getD [])=fresh at d;have L:=H9 d.ne;have H:=d.B5;have hcost:=Jz fresh;have e:A.aS P Al=A.aG P (sg.map (·.1)) fresh:=by
  unfold Ar.aS;rw[z,Ae (by simp),I,h.segs]
 rw[e];obtain⟨Y,r2,W,r4,r5⟩:=h.aG (N:=N) (R:=R) (K:=K) sg fresh (hc.aa (by omega) (by omega)) hK (λ_ h=>h) (IJ.1 (by rw[h.segs];exact h.DG.EN))
  (λl O=>⟨λp z=>h.bZ p (d.DF p (Nf.2 ⟨l,O,z⟩)),d.EN O⟩) E (by omega)
 refine⟨Y,W,fresh,r2,r4,r5,L,H,λk t=>?_,λp z=>h.bZ p (d.DF p z)⟩;unfold B7;have e1:Ax (sg++BZ A.Aa fresh)=Ax sg++fresh.flatten:=by
  have:=@KR fresh A.Aa;unfold Ax at this ⊢;rw[VC,this]
 rw[e1];simp only[Ax,List.flatMap_nil,Option.getD_none,FA];rw[GD,GD,d.Aa];rfl
def Gf(segs:List (Int×List Pu))(oldest:Int):List (List Pu)->List (Int×List Pu)
 | []=>[]
 | l::r=>if l.any (λp=>decide (oldest<=p.2.1))=false then Gf segs oldest r else
  match segs.find? λs=>decide (s.2=l) with
  | none=>Gf segs oldest r
  | some s=>s::Gf segs oldest r
def JN(segs:List (Int×List Pu))(oldest:Int):∀ws,(BL segs oldest ws).1=(Gf segs oldest ws).map (·.1)
 | []=>rfl
 | l::r=>by
  have d:=JN segs oldest r;unfold BL Gf;split
  ·exact d
  ·cases segs.find? λs=>decide (s.2=l) with
   | none=>exact d
   | some s=>simp[d]
def L3{segs:List (Int×List Pu)}{oldest:Int}:∀ {ws:List (List Pu)} {x:Int×List Pu},x∈Gf segs oldest ws->x∈segs/\x.2∈ws
 | l::r,x,h=>by
  unfold Gf at h;split at h
  ·have:=L3 h;exact⟨this.1,Bw _ this.2⟩
  ·cases hx:segs.find? λs=>decide (s.2=l) with
   | none=>rw[hx]at h;have:=L3 h;exact⟨this.1,Bw _ this.2⟩
   | some s=>
    rw[hx]at h;rcases BQ.1 h with rfl|h
    ·have d:=List.find?_some hx;simp at d;exact⟨A4i hx,by rw[d];exact BC ..⟩
    ·have:=L3 h;exact⟨this.1,Bw _ this.2⟩
def J3{segs:List (Int×List Pu)}{oldest:Int}:∀ {ws:List (List Pu)} {l:List Pu},l∈(BL segs oldest ws).2->l∈ws
 | w::r,l,h=>by
  unfold BL at h;split at h
  ·exact Bw _ (J3 h)
  ·cases hx:segs.find? λs=>decide (s.2=w) with
   | none=>
    rw[hx]at h;rcases BQ.1 h with rfl|h
    ·exact BC ..
    ·exact Bw _ (J3 h)
   | some s=>rw[hx]at h;exact Bw _ (J3 h)
def JT{α:Type}(p:List α->Bool)(ws:List (List α)):(ws.filter p).flatten.Sublist ws.flatten:=by
 induction ws with
 | nil=>exact A4v _
 | cons w r ih=>
  rw[Fc];split
  ·rw[Jh,Jh];exact List.Sublist.append (A4v _) ih
  ·rw[Jh];exact ih.trans (List.sublist_append_right _ _)
def DR(oldest:Int)(ws:List (List Pu)):List (List Pu):=ws.filter λl=>l.any λp=>decide (oldest<=p.2.1)
def JM(segs:List (Int×List Pu))(oldest:Int):∀ws,((Gf segs oldest ws).map (·.2)++(BL segs oldest ws).2).Perm (DR oldest ws)
 | []=>List.Perm.refl _
 | l::r=>by
  have h:=JM segs oldest r;unfold BL Gf DR;by_cases d:l.any (λp=>decide (oldest<=p.2.1))=false
  ·rw[Ai d,Ai d,Kk (by simp[d])];exact h
  ·rw[Ae d,Ae d,IA (by simpa using d)];cases hx:segs.find? λs=>decide (s.2=l) with
   | none=>
    dsimp only
    exact List.perm_middle.trans (h.cons _)
   | some s=>
    have z:=List.find?_some hx;simp at z;dsimp only
    rw[He,z];exact h.cons _
def Tv{len:Int}{ws:List (List Pu)}{s:List Pu}(h:WI len ws s)(oldest k t:Int)(ht:oldest<=t):BG (DR oldest ws).flatten k t=BG s k t:=by
 rw[<-h.Aa];clear h;unfold DR
 induction ws with
 | nil=>rfl
 | cons w r ih=>
  by_cases d:w.any (λp=>decide (oldest<=p.2.1))=true
  ·(have e:(w::r).filter (λl=>l.any λp=>decide (oldest<=p.2.1))=w::r.filter (λl=>l.any λp=>decide (oldest<=p.2.1)):=by simp only[Fc,d,Ch]);rw[e,Jh,Jh,GD,GD,ih]
  ·(have e:(w::r).filter (λl=>l.any λp=>decide (oldest<=p.2.1))=r.filter (λl=>l.any λp=>decide (oldest<=p.2.1)):=by simp only[Fc,d];rfl);rw[e,Jh,GD,ih];have:BG w k t=none:=Tt.2 λp z hx=>d (Q5.2 ⟨p,z,by simp;omega⟩);rw[this,Vj]
def It(l:List Pu):Prop:=l.Pairwise λa b=>¬(a.1=b.1/\a.2.1=b.2.1)
def It.Aa{l:List Pu}(h:It l){k t v:Int}:BG l k t=some v↔(k,t,v)∈l:=by
 refine⟨A0m,λd=>?_⟩
 induction l with
 | nil=>cases d
 | cons p r ih=>
  have z:=Dc.1 h;have e:BG (p::r) k t=(BG r k t).or (BG [p] k t):=GD [p] r k t;rw[e];rcases BQ.1 d with rfl|d
  ·have:BG r k t=none:=Tt.2 λq H E=>z.1 q H ⟨E.1.symm,E.2.symm⟩;rw[this];simp[BG]
  ·rw[ih z.2 d];simp
def It.gd{l l':List Pu}(h:It l)(z:l.Perm l'):It l':=(z.pairwise_iff (R:=λa b:Pu=>¬(a.1=b.1/\a.2.1=b.2.1)) λh d=>h ⟨d.1.symm,d.2.symm⟩).1 h
def It.eg{l l':List Pu}(h:It l)(d:l.Perm l')(k t:Int):BG l k t=BG l' k t:=by
 have z:=h.gd d;cases hx:BG l k t with
 | some v=>exact(z.Aa.2 (d.mem_iff.1 (h.Aa.1 hx))).symm
 | none=>
  cases hy:BG l' k t with
  | none=>rfl
  | some v=>rw[h.Aa.2 (d.mem_iff.2 (z.Aa.1 hy))]at hx;cases hx
def WI.dT{len:Int}{ws:List (List Pu)}{s:List Pu}(h:WI len ws s)(oldest:Int):It (DR oldest ws).flatten:=by
 have z:(DR oldest ws).flatten.Pairwise (λa b=>AA len a b=true):=h.Lj.sublist (JT _ _);exact z.imp λd=>A0L d
def V5{oldest:Int}{ws:List (List Pu)}{w:List Pu}(h:w∈DR oldest ws):w∈ws:=(GX.1 h).1
def Lay.aQ(h:Lay P A sg cl ol)(hw:BU (AA Al)){K n:Nat}(hn:(B7 sg cl ol).length<=n)(hn2:n<=1099511627776)(hK:P.Ay.length<=K)(hsl:sg.length<=K)(hjl:A.j.Am.length<=K)(hll:A.AQ.length<=K)(hc:Cm P (N+4*K+4*n+8) (R+29*n+12+8*K))(aP:isNum (A.j.Aa+1)=true)(hln:A.Aa+n<=4611686018427387904):
 (A.aQ P Al oldest).1=0/\Cm (A.aQ P Al oldest).2.2 N R/\
  ∃W last,(A.aQ P Al oldest).2.1=⟨⟨A.j.Aa+1,W.map (·.1)⟩,⟨[],A.j.Aa,0,none⟩,last,[]⟩/\last<=A.Aa+n/\Lay (A.aQ P Al oldest).2.2 (A.aQ P Al oldest).2.1 W [] none/\
   (∀m,(A.aQ P Al oldest).2.2.bs m≠none->m∈AL::W.map λx=>AJ x.1)/\(W.map (·.2)).Perm (DR oldest (BA Al (B7 sg cl ol)))/\∀k t,oldest<=t->BG (B7 W [] none) k t=BG (B7 sg cl ol) k t:=by
 have aQ:(B7 sg cl ol).length=(Ax sg).length+(Ax cl++ol.getD []).length:=by unfold B7;rw[B1]
 have H:=h.puts (by rw[B1]at aQ;omega);have E:=Hn hw (B7 sg cl ol);obtain⟨ws,aG⟩:∃ws,BA Al (B7 sg cl ol)=ws:=⟨_,rfl⟩;rw[aG]at E;obtain⟨k0,aE⟩:∃k0,Gf sg oldest ws=k0:=⟨_,rfl⟩;obtain⟨fresh,aH⟩:∃fresh,(BL sg oldest ws).2=fresh:=⟨_,rfl⟩;have d:=JM sg oldest ws;rw[aE,aH]at d;obtain⟨z,aI⟩:∃z,k0.mergeSort (λx y=>decide (x.1<=y.1))=z:=⟨_,rfl⟩;have aB:z.Perm k0:=by rw[<-aI];exact A4g _ _
 have aS:z.map (·.1)=((BL sg oldest ws).1).mergeSort λx y=>decide (x<=y):=by
  rw[JN,aE,<-aI,A4l (s:=λx y:Int=>decide (x<=y))];intro a _ b _;rfl
 have I:∀x∈z,x∈sg/\x.2∈ws:=λx hx=>L3 (by rw[aE];exact aB.mem_iff.1 hx);have aO:(DR oldest ws).Nodup:=by
  have h1:(DR oldest ws).Pairwise λw w'=>∀p∈w,∀q∈w',BD p.2.1 Al<BD q.2.1 Al:=E.Lk.sublist GZ;have L:∀w∈DR oldest ws,w≠[]:=λw hw=>E.ne w (V5 hw);clear d;generalize DR oldest ws=v at h1 L
  induction v with
  | nil=>simp
  | cons w r ih=>
   have aN:=Dc.1 h1;refine Kf.2 ⟨λhm=>?_,ih aN.2 λx hx=>L x (Bw _ hx)⟩;obtain⟨p,H⟩:=A4t w (L w (BC ..));have:=aN.1 w hm p H p H;omega
 have aM:(z.map (·.2)).Nodup:=by
  have h1:(k0.map (·.2)++fresh).Nodup:=d.nodup_iff.2 aO;have L:=(GI.1 h1).1;exact(aB.map (·.2)).nodup_iff.2 L
 have aK:(sg.map (·.1)).Pairwise (· < ·):=IJ.1 (by rw[h.segs];exact h.DG.EN);have aD:∀x∈sg,∀y∈sg,x.1=y.1->x=y:=λx hx y hy e=>by
  obtain⟨i,hi,rfl⟩:=DW hx;obtain⟨j,hj,rfl⟩:=DW hy;have H:=Ke.1 aK;rcases PX i j with O|O|O
  ·have:=H i j (by simpa using hi) (by simpa using hj) O;simp at this;omega
  ·subst O;rfl
  ·have:=H j i (by simpa using hj) (by simpa using hi) O;simp at this;omega
 have Y:(z.map (·.1)).Pairwise (· < ·):=by
  have h1:z.Pairwise λx y=>x.1<=y.1:=by
   have:=Vu (le:=λx y:Int×List Pu=>decide (x.1<=y.1)) (λa b c h1 L=>by simp at *;omega) (λa b=>by simp;omega) k0;rw[aI]at this;(exact this.imp λh=>by simpa using h)
  have L:z.Pairwise λx y=>x.2≠y.2:=LA.1 aM;rw[LA];have h3:=h1.and L;refine A4x (λ{a b} ha hb aL=>?_) h3;rcases A4B aL.1 with h|h
  ·exact h
  ·exact absurd (EK Prod.snd (aD a (I a ha).1 b (I b hb).1 h)) aL.2
 have aF:∀l∈fresh,l∈ws:=λl hl=>J3 (by rw[aH];exact hl);have aA:(Ax z++fresh.flatten).Perm (DR oldest ws).flatten:=by
  have h1:(z.map (·.2)++fresh).Perm (DR oldest ws):=((aB.map (·.2)).append_right _).trans d;have L:=h1.flatten;rw[Vz]at L;have e:(z.map (·.2)).flatten=Ax z:=by unfold Ax;rw[VA]
  rwa [e]at L
 have hfl:fresh.length<=fresh.flatten.length:=H9 λw hw=>E.ne w (aF w hw);have hcount:fresh.flatten.length<=n:=by
  have h1:=aA.length_eq;have L:(DR oldest ws).flatten.length<=ws.flatten.length:=(JT _ ws).length_le;have h3:=E.B5;rw[B1]at h1;omega
 have hkl:z.length<=K:=by
  have:(z.map (·.1)).length<=(sg.map (·.1)).length:=IS (Y.imp λh=>VP h) λx hx=>by
   obtain⟨y,hy,rfl⟩:=Cr.1 hx;exact DV (I y hy).1
  simp only[Fx]at this;omega
 have hcost:=Jz fresh;have aR:∀p∈B7 sg cl ol,Bh p:=λp H=>by
  rcases AV.1 H with H|H
  ·exact h.cT p H
  ·exact h.bZ p H
 have e:A.aQ P Al oldest=A.aG P (z.map (·.1)) fresh:=by
  unfold Ar.aQ;rw[h.b8];dsimp only
  have e2:sg.flatMap (·.2)++(P.puts A.j.Am).1=B7 sg cl ol:=by rw[H];rfl
  rw[e2,aG,<-aS,aH,H,Ae (by simp)]
 rw[e,aG];obtain⟨r1,r2,r3,r4,r5⟩:=h.aG (N:=N) (R:=R) (K:=K) z fresh (hc.aa (by omega) (by omega)) hK (λx hx=>(I x hx).1) Y
  (λl hl=>⟨λp H=>aR p (E.DF p (Nf.2 ⟨l,aF l hl,H⟩)),E.EN (aF l hl)⟩) aP (by omega)
 have aJ:(BZ A.Aa fresh).map (·.2)=fresh:=by
  have aT:∀(l:List (List Pu)) (a:Int),(BZ a l).map (·.2)=l:=by
   intro l
   induction l with
   | nil=>intro a;rfl
   | cons x r ih=>intro a;simp[BZ,ih]
  exact aT _ _
 refine⟨r1,r3,z++BZ A.Aa fresh,A.Aa+fresh.length,r2,by omega,r4,r5,?_,λk t ht=>?_⟩
 ·rw[Eg,aJ];exact((aB.map (·.2)).append_right _).trans d
 ·have e1:B7 (z++BZ A.Aa fresh) [] none=Ax z++fresh.flatten:=by
   have:=@KR fresh A.Aa;unfold B7 Ax at *;simp[this]
  rw[e1,(E.dT oldest |>.eg aA.symm k t).symm,Tv E oldest k t ht]
end
end
section
open Go.RowKit
attribute [local go_sem ↓] CJ
def JD(w:World)(jb b:Nat)(J:Jn)(P:PD)(FT:Nat->Prop):Prop:=
 ∃lv ov Ft,DC w jb b lv ov J/\Bk w b P Ft/\(∀k,Ft k->k<w.heap.size)/\(∀k,Dj jb lv ov k->¬Ft k)/\∀k,Ft k\/Dj jb lv ov k->FT k
def JD.aP{w w':World}{jb b:Nat}{J:Jn}{P:PD}{FT:Nat->Prop}(h:JD w jb b J P FT)(E:G4 FT w w')(O:w.heap.size<=w'.heap.size):JD w' jb b J P FT:=by
 obtain⟨lv,ov,Ft,L,H,W,I,z⟩:=h;exact⟨lv,ov,Ft,L.aP λk d=>E k (z k (.inr d)),H.aP λk d=>E k (z k (.inl d)),λk d=>Bq (W k d) O,I,z⟩
def Aq.jd{w w':World}{jb b:Nat}{J:Jn}{P:PD}{FT S:Nat->Prop}{lv ov:Value}{Ft:Nat->Prop}(hc:A3 S w w')(Y:∀k,k<w.heap.size->S k->FT k)(E:DC w' jb b lv ov J)(I:Bk w' b P Ft)(H:∀k,Ft k->k<w'.heap.size)(L:∀k,Dj jb lv ov k->¬Ft k)(O:∀k,Ft k->FT k\/w.heap.size<=k)(W:∀k,Dj jb lv ov k->FT k\/w.heap.size<=k):
 Aq w FT w' (λw' d=>JD w' jb b J P d):=
 ⟨hc.aa Y,λk=>Ft k\/Dj jb lv ov k,⟨lv,ov,Ft,E,I,H,L,λ_ h=>h⟩,λk z=>z.elim (H k) λh=>E.lt h,λk z=>z.elim (O k) (W k)⟩
def DC.ne{w:World}{jb b:Nat}{lv ov:Value}{J:Jn}(h:DC w jb b lv ov J){g:Nat}(d:lv.ownBlock=some g):g≠jb:=by
 obtain⟨c,z⟩:=Be h.Am d;exact BT z h.Ag (by decide)
def Bd.cX{w:World}{lb:Nat}{p:Value}{name:ByteArray}{s n:Nat}{v:Value}{xs:List Value}(h:Bd w lb 237 p name s)(d:w.ownsRow 0 3 1 v n xs){g:Nat}(z:v.ownBlock=some g):g≠lb:=by
 obtain⟨c,E⟩:=Be d z;exact BT E h (by decide)
def Bd.dI{w:World}{lb jb b:Nat}{p:Value}{name:ByteArray}{s:Nat}{lv ov:Value}{last puts:Int}(h:Bd w lb 237 p name s)(d:CK w jb b lv last puts ov):lb≠jb:=BT h d (by decide)
section
variable {w:World} {b B jb lb:Nat} {P:PD} {Ft FT:Nat->Prop} {a c m:Nat} {lv ov:Value} {J:Jn} {n:Int}
def SR(w:World)(h:DC w jb b lv ov J)(d:AE (J.Aa+1)):
 Af 199 #[A5 jb] w (Aj (A0 (J.Aa+1)) λw'=>w=w'):=by
 have c2:=h.Ag.c2;obtain⟨r1,r2⟩:=d;have ew:wrap64 (J.Aa+1)=J.Aa+1:=by unfold wrap64;omega
 go_enter func199,ntmps199
 go_wp2;go_ret;exact⟨rfl,rfl⟩
def ZR(w:World)(hJ:DC w jb b lv ov J)(hl:J.Am.length<=1073741824):
 Af 136 #[A5 jb] w λe w'=>∃v,e=.returned v/\DD w' v J.Am/\(∀g,v.ownBlock=some g->w.heap.size<=g)/\A3 Ab w w':=by
 obtain⟨d,hi,L,O,W⟩:∃d,Tryz.prog.info? 3=some d/\d.zero=some (A0 0)/\d.size=1/\d.bytes=8:=by
  have h:=Tryz.cY;cases hx:Tryz.prog.info? 3 with
  | none=>rw[hx]at h;cases h
  | some i=>rw[hx]at h;simp at h;exact⟨i,rfl,h.1,h.2.1,h.2.2⟩
 have c1:=hJ.Ag.c1;have z:=A1 (Src.bO underlying26 hJ.Am (JP J.Am));have E:Hid (w.ownsRow 0 3 1 (.slice none 0 0) 0 []):=CL _ _ _ _;generalize J.Am=l at *
 go_enter func136,ntmps136
 go_wp2_with (at_builtin;refine D5 rfl (.const (.slice none 0 0)) (.tmp 6) 26 26 rfl 3 d _ 1 8 underlying26 hi L O W rfl (by decide) (.slice none 0 0) 0 [] (by rfl) E.o _ l.length _ (by rfl) z.o (by omega) ?_;intro a8 cap8 w8 I;have aA:=A1 I);go_ret;have I:=aA.o;have Y:=I.Ak (S:=λ_=>False) λ_ h=>by simp[Value.ownBlock]at h
 refine⟨_,rfl,?_,?_,Y⟩
 ·have:=I.AB;simp only[Et,GH]at this ⊢;exact this
 ·intro g hg;have H:=I.Ck;simp only[GH]at H;cases a8 with
  | none=>simp[Value.ownBlock]at hg
  | some x=>
   simp[Value.ownBlock]at H hg;omega
def A0f(w:World)(z:DC w jb b lv ov J):
 Af 201 #[A5 jb] w (Aj (.tuple #[]) λw'=>DC w' jb b (.slice none 0 0) (.pointer none) ⟨[],J.Aa,0,none⟩/\A3 (One jb) w w'):=by
 have h:=z.Ag.s1 (.slice none 0 0);have d:=h.s3 0;have E:=d.s4 (.pointer none);have c1:=z.Ag.c1;have f1:=z.Ag.fz 1;have c3:=h.c3;have f3:=h.fz 3;have c4:=d.c4;have f4:=d.fz 4;have H:=A1 E
 go_enter func201,ntmps201
 go_wp2;go_end0;exact⟨rfl,⟨H.o,CL _ _ _ _,.inl ⟨rfl,rfl⟩⟩,((((A3.I (One jb) w).aq (b:=jb) rfl 1 _).aq (b:=jb) rfl 3 _).aq (b:=jb) rfl 4 _)⟩
def A01(w:World)(h:JD w jb b J P FT):
 Af 119 #[A5 jb] w (Aj (A0 (J.ae P).1) λw'=>Aq w FT w' (λw' H=>JD w' jb b J (J.ae P).2 H)):=by
 obtain⟨lv,ov,Ft,I,hD,L,E,z⟩:=h;have c4:=I.Ag.c4;rcases I.AB with⟨W,rfl⟩|⟨n,s,lb,W,rfl,hf,hs⟩
 ·have e:J.ae P=(0,P):=by unfold Jn.ae;rw[W]
  rw[e];have aD:=A1 (show Aq w FT w (λw' H=>JD w' jb b J P H) from Aq.jd (A3.I Ab w) (λ_ _ h=>h.elim) I hD L E (λk d=>.inl (z k (.inl d))) (λk d=>.inl (z k (.inr d))))
  go_enter func119,ntmps119
  go_wp2;go_ret;exact⟨rfl,aD.o⟩
 ·have e:J.ae P=P.ae (A9 (Ah n)):=by unfold Jn.ae;rw[W]
  rw[e];have O:=A1 (QO hf hD);have e1:(⟨(Ah n).toArray⟩:ByteArray)=A9 (Ah n):=rfl;rw[e1]at O;generalize hR:P.ae (A9 (Ah n))=R at O ⊢;have aA:=A1 I;have aB:=A1 E;have Y:=A1 z
  go_enter func119,ntmps119
  go_wp2_with (go_at_call 164;refine O.m ?_;rintro e w2⟨rfl,hI⟩;have aE:=A1 hI);go_ret;obtain⟨r1,Ft',r2,r3,r4⟩:=aE.o;exact⟨rfl,Aq.jd r1 (λk _ d=>Y.o k (.inl d)) (aA.o.Ak r1 aB.o) r2 r3 (λk d hx=>by rcases r4 k hx with h|h;exact aB.o k d h;have:=aA.o.lt d;omega) (λk d=>(r4 k d).imp (λh=>Y.o k (.inl h)) id) (λk d=>.inl (Y.o k (.inr d)))⟩
def ZG(w:World)(ahead:Int)(h:Bk w b P Ft)(H:∀k,Ft k->k<w.heap.size)(hn:CM n)(W:Lets B w)(ha:AE ahead)(I:Fit P a c m)(E:CU (a+1) (c+1) (m+12)):
 Af 236 #[A5 b,A0 n,A0 ahead] w λe w'=>
  ((P.ak (A9 (Ah n))).1≠0/\e=.returned (.tuple #[.pointer none,A0 (P.ak (A9 (Ah n))).1])/\Aq w Ft w' (λw' d=>Bk w' b (P.ak (A9 (Ah n))).2 d))\/
  ((P.ak (A9 (Ah n))).1=0/\((P.ak (A9 (Ah n))).2.ad (A9 (Ah n)) (AH (Ah n)) (AS ahead)).2.1≠0/\e=.returned (.tuple #[.pointer none,A0 ((P.ak (A9 (Ah n))).2.ad (A9 (Ah n)) (AH (Ah n)) (AS ahead)).2.1])/\Aq w Ft w' (λw' d=>Bk w' b ((P.ak (A9 (Ah n))).2.ad (A9 (Ah n)) (AH (Ah n)) (AS ahead)).2.2 d))\/
  ((P.ak (A9 (Ah n))).1=0/\((P.ak (A9 (Ah n))).2.ad (A9 (Ah n)) (AH (Ah n)) (AS ahead)).2.1=0/\∃lb,e=.returned (.tuple #[A5 lb,A0 0])/\w.heap.size<=lb/\Bd w' lb 237 (A5 b) ⟨(Ah n).toArray⟩ (AW (AH (Ah n)) (AS ahead))/\
    A3 Ft w w'/\∃d,Bk w' b ((P.ak (A9 (Ah n))).2.ad (A9 (Ah n)) (AH (Ah n)) (AS ahead)).2.2 d/\(∀k,d k->k<w'.heap.size)/\(∀k,d k->Ft k\/w.heap.size<=k)/\¬d lb):=by
 have z:=I.ak (A9 (Ah n));have hp:(AT (AH (Ah n)) (AS ahead)).length=12:=by simp[AT,Hh,CP]
 have O:=z.an (A9 (Ah n)) (AT (AH (Ah n)) (AS ahead));have Y:=K0 O (A9 (Ah n));have L:=K0 z (A9 (Ah n));have hm:=E.m;exact ZF w ahead P.D.AU (P.ak (A9 (Ah n))).2.D ((P.ak (A9 (Ah n))).2.an (A9 (Ah n)) (AT (AH (Ah n)) (AS ahead))).2.D (P.ak (A9 (Ah n))).2.F ((P.ak (A9 (Ah n))).2.an (A9 (Ah n)) (AT (AH (Ah n)) (AS ahead))).2.F _ _ h H hn W ha P.D.cz
  (by have:=I.A4;have:=I.Ak;have:=E.a;have:=E.c;omega) rfl rfl rfl z.AG (AR z.dM (AR (N9 E.a (AR (Vr m 12) E.m)) (by decide))) z.Bv
  (λf hf=>by have:=z.B5 f (G0 hf);omega) ⟨Kn Y (by rw[hp];omega),Kn L (by omega)⟩
def A3V(p:Pu)(name:ByteArray)(s:Nat)(L:Bd w lb 237 (A5 b) name s)(hs:s<4294967296)(h:Bk w b P Ft)(z:∀k,Ft k->k<w.heap.size)(hn:¬Ft lb)(hp:Bh p)(d:Fit P a c m)(O:CU a c (m+21)):
 Af 191 #[A5 lb,Dv p] w (Aj (.tuple #[.bool (P.ad name s (Bb p.1 p.2.1 p.2.2)).1,A0 (P.ad name s (Bb p.1 p.2.1 p.2.2)).2.1]) λw'=>
  Bd w' lb 237 (A5 b) name (AW s (Bb p.1 p.2.1 p.2.2))/\Jm w Ft lb w' b (P.ad name s (Bb p.1 p.2.1 p.2.2)).2.2):=by
 obtain⟨⟨Y,h2⟩,h3,W⟩:=hp;have H:(AT s (Bb p.1 p.2.1 p.2.2)).length=21:=by simp[AT,Hh,Om]
 have hA:=d.an name (AT s (Bb p.1 p.2.1 p.2.2));have hz:=K0 hA name;have I:=K0 d name;have hm:=O.m;have E:CU a c m:=⟨O.a,O.c,by omega⟩;exact A3U w lb name s p.1 p.2.1 p.2.2 ⟨Y,by omega⟩ h3 W L hs h z hn d.AG (d.ew E) d.Bv (λf L=>by have:=d.B5 f (G0 L);omega) ⟨Kn hz (by rw[H];omega),Kn I (by omega)⟩
end
def OY:∃d,Tryz.prog.info? 3=some d/\d.zero=some (A0 0)/\d.size=1/\d.bytes=8:=by
 have h:=Tryz.cY;cases hx:Tryz.prog.info? 3 with
 | none=>rw[hx]at h;cases h
 | some i=>rw[hx]at h;simp at h;exact⟨i,rfl,h.1,h.2.1,h.2.2⟩
section
variable {w:World} {b B jb lb:Nat} {P:PD} {Ft FT:Nat->Prop} {a c m:Nat} {lv ov:Value} {J:Jn} {n:Int}
def A3h(w:World)(h:JD w jb b J P FT)(ho:J.AB=none)(hn:CM (J.Aa+1))(hr:AE (J.Aa+1))(hp:AE J.puts)(bD:J.Am.length<=1073741824)(hL:Lets B w)(hF:Fit P a c m)(hl:CU (a+1) (c+1) (m+12)):
 Af 190 #[A5 jb] w (Aj (A0 (J.ax P).1) λw'=>Aq w FT w' (λw' aT=>JD w' jb b (J.ax P).2.1 (J.ax P).2.2 aT)):=by
 obtain⟨i0,hi,bL,bW,bT⟩:=OY;obtain⟨lv,ov,Ft,hJ,hD,aS,aM,aN⟩:=h;have bN:ov=.pointer none:=by
  rcases hJ.AB with⟨_,h⟩|⟨n,s,lb,h,_⟩
  ·exact h
  ·rw[ho]at h;cases h
 subst bN
 have aD:Hid (J.ax P=if (P.ak (A9 (Ah (J.Aa+1)))).1≠0 then ((P.ak (A9 (Ah (J.Aa+1)))).1,J,(P.ak (A9 (Ah (J.Aa+1)))).2) else
  if ((P.ak (A9 (Ah (J.Aa+1)))).2.ad (A9 (Ah (J.Aa+1))) (AH (Ah (J.Aa+1))) (AS J.puts)).2.1≠0 then (((P.ak (A9 (Ah (J.Aa+1)))).2.ad (A9 (Ah (J.Aa+1))) (AH (Ah (J.Aa+1))) (AS J.puts)).2.1,J,((P.ak (A9 (Ah (J.Aa+1)))).2.ad (A9 (Ah (J.Aa+1))) (AH (Ah (J.Aa+1))) (AS J.puts)).2.2) else
  (0,⟨J.Am++[J.Aa+1],J.Aa+1,J.puts,some (J.Aa+1,AW (AH (Ah (J.Aa+1))) (AS J.puts))⟩,((P.ak (A9 (Ah (J.Aa+1)))).2.ad (A9 (Ah (J.Aa+1))) (AH (Ah (J.Aa+1))) (AS J.puts)).2.2)):=rfl
 have aJ:Hid (∀w1,A3 Ab w w1->_):=λw1 hc=>ZG w1 J.puts (B3.ay hD aS hc) (λk d=>Bq (aS k d) hc.Ao) hn (hL.aM hc) hp hF hl;have bS:Hid (∀w1,A3 Ab w w1->_):=λw1 hc=>SR w1 (hJ.au hc) hr;generalize hR:J.ax P=R at aD ⊢;obtain⟨L,a0⟩:∃L,J.Aa+1=L:=⟨_,rfl⟩;rw[a0]at aD aJ bS hr hn;have aI:(Ah L).length<=100:=SP hn.2.2;obtain⟨nm,aQ⟩:∃nm,Ah L=nm:=⟨_,rfl⟩;rw[aQ]at aD aJ;obtain⟨s0,aU⟩:∃s0,AH nm=s0:=⟨_,rfl⟩;have aL:s0<4294967296:=by rw[<-aU];exact Jt nm
 rw[aU]at aD aJ;obtain⟨C,hC⟩:∃C,P.ak (A9 nm)=C:=⟨_,rfl⟩;rw[hC]at aD aJ;obtain⟨A,hA⟩:∃A,C.2.ad (A9 nm) s0 (AS J.puts)=A:=⟨_,rfl⟩;rw[hA]at aD aJ;have bB:AW s0 (AS J.puts)<4294967296:=Jq _ _ aL;obtain⟨s1,aK⟩:∃s1,AW s0 (AS J.puts)=s1:=⟨_,rfl⟩;rw[aK]at aD aJ bB;have c0:=hJ.Ag.af.c0;have c3:=hJ.Ag.af.c3;have bE:=A1 hJ;have a3:=A1 aM;have aG:=A1 aN;have HO:=A1 ho;have aO:=A1 a0;have bP:=A1 aQ;have a7:=A1 bD;have aZ:=A1 (bS.o w.drew (A3.I _ w).af);have aB:=A1 (aJ.o w.drew (A3.I _ w).af);clear hC hA hR aU aL aK aI aQ a0 hJ hD aS aM aN ho bD hL hF hl hp bS aJ;have E:Hid (∀wx,A3 Ft w.drew wx->DC wx jb b lv (.pointer none) J):=λwx W=>(bE.o.au (A3.I Ab w).af).Ak W a3.o
 have aE:Hid (∀wx (bO:PD),Aq w.drew Ft wx (λw' z=>Bk w' b bO z)->Aq w FT wx (λw' aT=>JD w' jb b J bO aT)):=λwx bO W=>by
  obtain⟨r1,z,r2,r3,r4⟩:=W;exact Aq.jd ((A3.I Ft w).af.tr r1) (λk _ d=>aG.o k (.inl d)) (E.o wx r1) r2 r3 (λk d W=>by rcases r4 k W with h|h;exact a3.o k d h;have:=bE.o.lt d;have h':w.heap.size<=k:=h;omega) (λk d=>(r4 k d).imp (λh=>aG.o k (.inl h)) id) (λk d=>.inl (aG.o k (.inr d)))
 by_cases hc:C.1=0
 case neg=>
  have aF:R=(C.1,J,C.2):=by rw[aD.o,Ai hc]
  subst aF;have H:Hid (Af 236 #[A5 b,A0 L,A0 J.puts] w.drew (Aj (.tuple #[.pointer none,A0 C.1]) λw'=>Aq w.drew Ft w' (λw' z=>Bk w' b C.2 z))):=by
   refine aB.m ?_;rintro e w' (⟨_,h2,h3⟩|⟨h1,_⟩|⟨h1,_⟩)
   ·exact⟨h2,h3⟩
   ·exact absurd h1 hc
   ·exact absurd h1 hc
  have aY:(C.1 !=0)=true:=by simpa using hc
  obtain⟨C1,b4⟩:=C;dsimp only at H aY ⊢;clear aB aD
  go_enter func190,ntmps190
  go_wp2;refine BR (λw'=>A7 w' jb 0 (A5 b)/\A7 w' jb 3 (A0 J.puts)) 15
   (Br [0,1,2,3,4,6,7,8,9,5,10,11,12,13,14] [5,10]) ⟨c0,c3⟩ ?_
  iterate 9 (refine Bf ?_;(try simp only[An]))
  refine Bn λK I=>?_;go_simp;refine aZ.m ?_;rintro e w3⟨rfl,rfl⟩;refine I _ _ ⟨c0,c3⟩ (λhS=>?_);clear I K hS
  (try simp only[An])
  refine Bn λK I=>?_;go_simp;refine H.m ?_;rintro e w4⟨rfl,hI⟩;have k4:=E.o w4 hI.1;refine I _ _ ⟨k4.Ag.c0,k4.Ag.c3⟩ (λhS=>?_);have bQ:=A1 (aE.o w4 b4 hI);clear I K hS hI k4 H aE E
  (try simp only[An])
  iterate 4 (refine Bf ?_;(try simp only[An]))
  refine Bl ?_;simp only[BK,BJ];go_wp2;go_ret;exact⟨rfl,bQ.o⟩
 case pos=>
 by_cases ha:A.2.1=0
 case neg=>
  have aF:R=(A.2.1,J,A.2.2):=by rw[aD.o,Ae (by simpa using hc),Ai ha]
  subst aF;have H:Hid (Af 236 #[A5 b,A0 L,A0 J.puts] w.drew (Aj (.tuple #[.pointer none,A0 A.2.1]) λw'=>Aq w.drew Ft w' (λw' z=>Bk w' b A.2.2 z))):=by
   refine aB.m ?_;rintro e w' (⟨h1,_⟩|⟨_,_,h2,h3⟩|⟨_,h1,_⟩)
   ·exact absurd hc h1
   ·exact⟨h2,h3⟩
   ·exact absurd h1 ha
  have aY:(A.2.1 !=0)=true:=by simpa using ha
  obtain⟨b2,b1,A2⟩:=A;dsimp only at H aY ⊢;clear aB aD
  go_enter func190,ntmps190
  go_wp2;refine BR (λw'=>A7 w' jb 0 (A5 b)/\A7 w' jb 3 (A0 J.puts)) 15
   (Br [0,1,2,3,4,6,7,8,9,5,10,11,12,13,14] [5,10]) ⟨c0,c3⟩ ?_
  iterate 9 (refine Bf ?_;(try simp only[An]))
  refine Bn λK I=>?_;go_simp;refine aZ.m ?_;rintro e w3⟨rfl,rfl⟩;refine I _ _ ⟨c0,c3⟩ (λhS=>?_);clear I K hS
  (try simp only[An])
  refine Bn λK I=>?_;go_simp;refine H.m ?_;rintro e w4⟨rfl,hI⟩;have k4:=E.o w4 hI.1;refine I _ _ ⟨k4.Ag.c0,k4.Ag.c3⟩ (λhS=>?_);have bQ:=A1 (aE.o w4 A2 hI);clear I K hS hI k4 H aE E
  (try simp only[An])
  iterate 4 (refine Bf ?_;(try simp only[An]))
  refine Bl ?_;simp only[BK,BJ];go_wp2;go_ret;exact⟨rfl,bQ.o⟩
 case pos=>
  have aF:R=(0,⟨J.Am++[L],L,J.puts,some (L,s1)⟩,A.2.2):=by rw[aD.o,Ae (by simpa using hc),Ae (by simpa using ha)]
  subst aF;have H:Hid (Af 236 #[A5 b,A0 L,A0 J.puts] w.drew λe w'=>∃lb,e=.returned (.tuple #[A5 lb,A0 0])/\w.drew.heap.size<=lb/\Bd w' lb 237 (A5 b) ⟨nm.toArray⟩ s1/\A3 Ft w.drew w'/\∃z,Bk w' b A.2.2 z/\(∀k,z k->k<w'.heap.size)/\(∀k,z k->Ft k\/w.drew.heap.size<=k)/\¬z lb):=by
   refine aB.m ?_;rintro e w' (⟨h1,_⟩|⟨_,h1,_⟩|⟨_,_,h2⟩)
   ·exact absurd hc h1
   ·exact absurd ha h1
   ·exact h2
  obtain⟨b2,b1,A2⟩:=A;dsimp only at H ⊢;clear aB aD aE
  go_enter func190,ntmps190
  go_wp2;refine BR (λw'=>A7 w' jb 0 (A5 b)/\A7 w' jb 3 (A0 J.puts)) 15
   (Br [0,1,2,3,4,6,7,8,9,5,10,11,12,13,14] [5,10]) ⟨c0,c3⟩ ?_
  iterate 9 (refine Bf ?_;(try simp only[An]))
  refine Bn λK I=>?_;go_simp;refine aZ.m ?_;rintro e w3⟨rfl,rfl⟩;refine I _ _ ⟨c0,c3⟩ (λhS=>?_);clear I K hS
  (try simp only[An])
  refine Bn λK I=>?_;go_simp;refine H.m ?_;rintro e w4⟨lb,rfl,aI,a5,aW,bG,q1,q2,q3,q4⟩;have k4:=E.o w4 aW;refine I _ _ ⟨k4.Ag.c0,k4.Ag.c3⟩ (λhS=>?_);have a2:=A1 k4;have bK:Hid (w.heap.size<=lb):=aI;have aV:=A1 a5;have bY:Hid (A3 Ft w w4):=(A3.I Ft w).af.tr aW;have b9:=A1 q1;have bX:=A1 q2;have bH:Hid (∀k,bG k->Ft k\/w.heap.size<=k):=q3;have b0:=A1 q4;clear I K hS aW aI a5 q1 q2 q3 q4 H E
  (try simp only[An])
  iterate 4 (refine Bf ?_;(try simp only[An]))
  refine Bl ?_;simp only[BK,BJ];have b5:=a2.o.Ag.s4 (A5 lb);have g44:=k4.Ag.c4;have f44:=k4.Ag.fz 4;have g52:=b5.c2;have f52:=b5.fz 2;have bI:=A1 (b5.s2 L);have ew:wrap64 (J.Aa+1)=L:=by have:=aO.o;have:=hr.1;have:=hr.2;unfold wrap64;omega
  have ew2:IntKind.i64.wrap (J.Aa+1)=L:=by have:=aO.o;have:=hr.1;have:=hr.2;simp[IntKind.wrap,IntKind.bits,IntKind.signed];omega
  have c5:A3 (One jb) w4 ((w4.setCell (Ac jb 4) (A5 lb)).setCell (Ac jb 2) (A0 L)):=((A3.I (One jb) w4).aq (b:=jb) rfl 4 _).aq (b:=jb) rfl 2 _;have a4:=A1 c5;clear b5 k4 c5;have bA:Hid (lb≠jb):=aV.o.dI a2.o.Ag;have aH:Hid (∀g,lv.ownBlock=some g->g≠jb/\g≠lb):=λg Y=>⟨a2.o.ne Y,aV.o.cX a2.o.Am Y⟩
  go_wp2;generalize (w4.setCell (Ac jb 4) (A5 lb)).setCell (Ac jb 2) (A0 L)=w6 at bI a4 ⊢;have aX:Hid (w6.ownsRow 0 3 1 lv J.Am.length (DO J.Am)):=Az a2.o.Am λg Y=>a4.o.Ap g (AI a2.o.Am Y) (aH.o g Y).1;have bR:=A1 (aV.o.aj a4.o bA.o);have b3:=bI.o.af.c1;have b7:=bI.o.af.c2;obtain⟨ap,cp,rfl,hcap1,a1,-⟩:=B9 aX.o;unfold maxLen at a1;refine BR (λw'=>A7 w' jb 1 (.slice ap J.Am.length cp)/\A7 w' jb 2 (A0 L)) 11
   (Br [0,1,2,3,4,5,6,7,8,9,10] [9,10]) ⟨b3,b7⟩ ?_
  iterate 9 (refine Bf ?_;(try simp only[An]))
  refine Bn λK I=>?_;go_simp;have ka:A3 Ab w6 (w6.aC #[A0 L] 3).drew:=((A3.I _ _).ai _).af;have bJ:=bI.o.aj ka (λh=>h);have bV:Hid ((w6.aC #[A0 L] 3).drew.ownsRow 0 3 1 (.slice ap J.Am.length cp) J.Am.length (DO J.Am)):=Az aX.o λg Y=>ka.Ap g (AI aX.o Y) (λh=>h);have bF:Hid (Src Tryz.prog 1 26 (AM w6.heap.size 1 1) 1 #[A0 L].toList (w6.aC #[A0 L] 3).drew):=by
   have hb:(w6.aC #[A0 L] 3).drew.heap[w6.heap.size]?=some (.cells #[A0 L] 3 (0,0)):=BO w6 _;exact Src.cx underlying26 hb 1 1 rfl (JP [L])
  refine I _ _ ⟨bJ.c1,bJ.c2⟩ (λhS=>?_)
  (try simp only[An])
  refine DY rfl (by rfl) (λK I=>?_);refine HY (.tmp 37) (.tmp 42) 26 26 rfl 3 i0 _ 1 8 underlying26 hi bL bW bT rfl (by decide) (.slice ap J.Am.length cp) J.Am.length (DO J.Am) (by rfl) bV.o _ 1 _ (by rfl) bF.o (by have:=a7.o;omega) ?_;intro a8 O w8 hA;have aP:=hA.Ak (S:=λk=>(Value.slice ap J.Am.length cp).ownBlock=some k) λ_ h=>h;have a6:=bJ.aj aP (λh=>(aH.o _ h).1 rfl);refine I _ _ ⟨a6.c1,a6.c2⟩ (λhS=>?_);have g81:=a6.c1;have f81:=a6.fz 1;have b6:=A1 (a6.s1 (.slice a8 (J.Am.length+1) O));have bU:=A1 ((bR.o.aj ka (λh=>h)).aj aP (λh=>(aH.o _ h).2 rfl));have a9:=A1 hA.AB;have bM:=A1 hA.Ck;have bZ:Hid (A3 (λk=>(Value.slice ap J.Am.length cp).ownBlock=some k) w6 w8):=(ka.aa λ_ _ h=>h.elim).tr aP;have b8:Hid (w6.heap.size<=w8.heap.size/\w6.heap.size<=(w6.aC #[A0 L] 3).drew.heap.size):=⟨bZ.o.Ao,ka.Ao⟩
  (try simp only[An])
  refine Bl ?_;simp only[BK,BJ];go_wp2;go_ret;have aA:∀g,(Value.slice a8 (J.Am.length+1) O).ownBlock=some g->(Value.slice ap J.Am.length cp).ownBlock=some g\/w6.heap.size<=g:=λg Y=>by
   rcases bM.o with h|h
   ·rw[h]at Y;exact .inl Y
   ·rw[h]at Y;cases Y;exact .inr b8.o.2
  have s46:=a4.o.Ao;have s04:=bY.o.Ao;have jbl:=bE.o.Ag.lt;have bC:∀g,(Value.slice a8 (J.Am.length+1) O).ownBlock=some g->g≠jb:=λg Y=>by
   rcases aA g Y with h|h
   ·exact(aH.o g h).1
   ·omega
  have kf:A3 (One jb) w8 (w8.setCell (Ac jb 1) (.slice a8 (J.Am.length+1) O)):=(A3.I (One jb) w8).aq (b:=jb) rfl 1 _;have aR:A3 (λk=>k=jb\/(Value.slice ap J.Am.length cp).ownBlock=some k) w4 (w8.setCell (Ac jb 1) (.slice a8 (J.Am.length+1) O)):=
   ((a4.o.aa λ_ _ h=>.inl h).Aw bZ.o λ_ h _=>.inr h).Aw kf λ_ h _=>.inl h
  refine⟨rfl,Aq.jd (lv:=.slice a8 (J.Am.length+1) O) (ov:=(A5 lb)) (Ft:=bG) ((bY.o.aa (S':=λk=>Ft k\/k=jb\/(Value.slice ap J.Am.length cp).ownBlock=some k) λ_ _ h=>.inl h).Aw aR λ_ h _=>.inr h) ?_ ⟨b6.o,?_,.inr ⟨L,s1,lb,rfl,rfl,?_,bB⟩⟩ ?_ ?_ ?_ ?_ ?_⟩
  ·rintro k _ (h|rfl|h)
   ·exact aG.o k (.inl h)
   ·exact aG.o _ (.inr (.inl rfl))
   ·exact aG.o k (.inr (.inr (.inl h)))
  ·(have e:(J.Am++[L]).length=J.Am.length+1:=by simp);unfold DD;rw[L6,e];exact Az a9.o λg Y=>GK _ _ _ _ (λe=>bC g Y e)
  ·rw[bP.o];exact bU.o.aj kf bA.o
  ·refine B3.aP b9.o (aR.ay bX.o λk d W=>?_);rcases bH.o k d with h|h
   ·rcases W with rfl|W
    ·exact a3.o _ (.inl rfl) h
    ·exact a3.o k (.inr (.inl W)) h
   ·rcases W with rfl|W
    ·omega
    ·have:=AI bE.o.Am W;omega
  ·exact λk d=>Bq (bX.o k d) aR.Ao
  ·rintro k (rfl|d|d) W
   ·rcases bH.o _ W with h|h
    ·exact a3.o _ (.inl rfl) h
    ·omega
   ·rcases aA k d with h|h
    ·rcases bH.o k W with h' | h'
     ·exact a3.o k (.inr (.inl h)) h'
     ·have:=AI bE.o.Am h;omega
    ·have:=bX.o k W;omega
   ·cases d;exact b0.o W
  ·exact λk d=>(bH.o k d).imp (λh=>aG.o k (.inl h)) id
  ·rintro k (rfl|d|d)
   ·exact .inl (aG.o _ (.inr (.inl rfl)))
   ·rcases aA k d with h|h
    ·exact .inl (aG.o k (.inr (.inr (.inl h))))
    ·exact .inr (by omega)
   ·cases d;exact .inr bK.o
end
end
end Go.Proofs.YtodcnkbblippnaaGreatDoor
