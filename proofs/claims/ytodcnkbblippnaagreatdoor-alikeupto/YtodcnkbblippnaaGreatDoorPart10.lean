/- Part 10 of a proof: walks of the program. -/
import Derived.Test.YtodcnkbblippnaaGreatDoorPart09
namespace Go.Proofs.YtodcnkbblippnaaGreatDoor
set_option maxRecDepth 100000
set_option maxHeartbeats 32000000
set_option linter.defProp false
open Go.Proofs.Tryz
section
open Go.RowKit
def Pe{x y:Int}:Ci x y<0↔x<y:=by
 unfold Ci;by_cases h:x<y
 ·simp[h]
 ·rw[Ad h];split<;>simp<;>omega
def IP:∀ {l:List Int},Cx Ci l=true↔l.Pairwise (· < ·)
 | []=>by simp[Cx]
 | [x]=>by simp[Cx]
 | x::y::r=>by
  have L:=@IP (y::r);simp only[Cx,FH,DG,Pe,L];constructor
  ·rintro⟨I,H⟩;refine Db.2 ⟨λz d=>?_,H⟩;rcases BR.1 d with rfl|d
   ·exact I
   ·exact Int.lt_trans I ((Db.1 H).1 z d)
  ·intro h;have E:=Db.1 h;exact⟨E.1 y (BF ..),E.2⟩
def IX{α:Type}[DecidableEq α]:∀ {l l':List α},l.Nodup->(∀x∈l,x∈l')->l.length<=l'.length
 | [],l',_,_=>by simp
 | x::r,l',h,hs=>by
  have d:=Kh.1 h;have E:=hs x (BF ..);have ih:=IX (l':=l'.erase x) d.2 λy z=>(A3C (λe=>d.1 (by subst e;exact z))).2 (hs y (Bx _ z))
  have hl:=A3F E;have:0<l'.length:=A3E E;simp only[Cv];omega
def BW:Int->List (List Pu)->List (Int×List Pu)
 | _,[]=>[]
 | last,l::r=>(last+1,l):: BW (last+1) r
def Gw:∀ {l:List (List Pu)} {last:Int} {x:Int×List Pu},x∈BW last l->last<x.1/\x.1<=last+l.length/\x.2∈l
 | [],_,_,h=>by cases h
 | a::r,last,x,h=>by
  rcases BR.1 h with rfl|h
  ·simp;omega
  ·obtain⟨h1,h2,d⟩:=Gw h;simp only[Cv];exact⟨by omega,by omega,Bx _ d⟩
def Of:∀ {l:List (List Pu)} {last:Int},((BW last l).map (·.1)).Pairwise (· < ·)
 | [],_=>by simp[BW]
 | a::r,last=>by
  simp only[BW,Hb];refine Db.2 ⟨λz h=>?_,Of⟩;obtain⟨x,d,rfl⟩:=Ct.1 h;exact(Gw d).1
def M9:∀ {l:List (List Pu)} {last:Int},(BW last l).length=l.length
 | [],_=>rfl
 | a::r,last=>by simp[BW,M9]
def KJ:∀ {l:List (List Pu)} {last:Int},Aw (BW last l)=l.flatten
 | [],_=>rfl
 | a::r,last=>by
  have:=@KJ r (last+1);unfold Aw at this ⊢;simp[BW,this]
def Di(l:List (List Pu)):Nat:=(l.map λx=>17*x.length+4).sum
section
variable {P P':PD} {A:Ar} {sg cl:List (Int×List Pu)} {ol:Option (List Pu)} {N R:Nat}
def Cm.ah:∀(fresh:List (List Pu)) (last:Int) (kept:List Int) {P:PD},Cm P (N+3*fresh.length) (R+Di fresh)->0<=last->last+fresh.length<=4611686018427387904->
 (∀n,isNum n=true->last<n->P.bs (AF n)=none)->
 (PD.ah fresh last kept P).1=0/\(PD.ah fresh last kept P).2.1=last+fresh.length/\(PD.ah fresh last kept P).2.2.1=kept++(BW last fresh).map (·.1)/\Cm (PD.ah fresh last kept P).2.2.2 N R/\
  (∀x∈BW last fresh,(PD.ah fresh last kept P).2.2.2.bs (AF x.1)=some (AR (AE (AF x.1)) (Cd x.2)))/\
  ∀m,(∀x∈BW last fresh,m≠AF x.1)->(PD.ah fresh last kept P).2.2.2.bs m=P.bs m
 | [],last,kept,P,hc,h0,h1,hn=>⟨rfl,by simp[PD.ah],by simp[PD.ah,BW],by simpa[PD.ah,Di] using hc,⟨λx z=>by simp[BW]at z,λm _=>rfl⟩⟩
 | l::r,last,kept,P,hc,h0,h1,hn=>by
  simp only[Cv]at h1;have h:isNum (last+1)=true:=by unfold isNum;simp;omega
  have d:Di (l::r)=(17*l.length+4)+Di r:=by simp[Di]
  obtain⟨a1,a2,H⟩:=Cm.aI (N:=N+3*r.length) (R:=R+Di (l::r)) (nm:=AF (last+1)) (hc.aa (by simp;omega) (As _)) (hn _ h (by omega)) (X5 _) (AE (AF (last+1))) (Cd l) (by rw[I2,d];omega);rw[I2]at a2;have L:=a2.aa (N':=N+3*r.length) (R':=R+Di r) (As _) (by rw[d];omega);obtain⟨b1,b2,b3,b4,b5,O⟩:=Cm.ah r (last+1) (kept++[last+1]) L (by omega) (by omega) λn W hlt=>by
   (have E:AF n≠AF (last+1):=λe=>by have:=KK W h e;omega);rw[H,Ad E];exact hn n W (by omega)
  have e:PD.ah (l::r) last kept P=PD.ah r (last+1) (kept++[last+1]) (P.aK (last+1) l).2:=by
   conv=>lhs;unfold PD.ah
   rw[Ad (by unfold PD.aK;simp[a1])]
  have e2:(P.aK (last+1) l).2=(P.aI (AF (last+1)) (AE (AF (last+1))) (Cd l)).2:=rfl;rw[e,e2];refine⟨b1,by rw[b2];simp only[Cv];omega,by rw[b3];simp[BW],b4,λx z=>?_,λm Y=>?_⟩
  ·rcases BR.1 z with rfl|z
   ·dsimp only
    rw[O _ λy X e=>?_,H,Ah rfl];have X:=Gw X;(have I:isNum y.1=true:=by unfold isNum;simp;omega);have:=KK h I e;omega
   ·exact b5 x z
  ·rw[O m λx z=>Y x (Bx _ z),H,Ad (Y _ (BF ..))]
def IU{nm:Bs}:nm∈A.aU P↔P.bs nm≠none/\nm∉A.Ax:=by
 unfold Ar.aU;rw[GQ,H0];simp
def Cm.aq(E:Cm P N R){K M:Nat}(hK:(A.aU P).length<=K)(hN:N=M+K):(A.aq P).1=0/\Cm (A.aq P).2 M R/\∀m,(A.aq P).2.bs m=if m∈A.Ax then P.bs m else none:=by
 obtain⟨I,H,L⟩:=Cm.aL (N:=M) (A.aU P) (E.aa (by omega) (As _)) (Vt GS E.cS) λm d=>(IU.1 d).1
 refine⟨I,H,λm=>?_⟩;show (PD.aL (A.aU P) P).2.bs m=_;rw[L];by_cases d:m∈A.Ax
 ·rw[Ad (λh=>(IU.1 h).2 d),Ah d]
 ·rw[Ad d];by_cases z:P.bs m=none
  ·rw[z];simp
  ·rw[Ah (IU.2 ⟨z,d⟩)]
def Cm.ag(hc:Cm P (N+4) R)(d:Int)(segs:List Int)(E:P.bs Bo=none)(hR:12+8*segs.length<=R):
 (P.ag d segs).1=0/\Cm (P.ag d segs).2 N (R-(12+8*segs.length))/\∀m,(P.ag d segs).2.bs m=if m=AI then some (AR (AE AI) (Ch d segs)) else P.bs m:=by
 have L:(Ch d segs).length=8+8*segs.length:=by unfold Ch;rw[AY,CL,J7]
 obtain⟨O,W,H⟩:=Cm.aI (N:=N+1) hc E (by simp[Bo]) (AE AI) (Ch d segs) (by omega);obtain⟨I,X,Y⟩:=Cm.fH (N:=N) (nm:=AI) W (by rw[H,Ah rfl]) (by simp[AI]) J6.symm;unfold PD.ag;rw[Ad (by simp[O])];refine⟨I,by have:=X;rw[L]at this;exact this.aa (As _) (by omega),λm=>?_⟩;rw[Y];by_cases h:m=AI
 ·simp[h]
 ·rw[Ad h,Ad h];by_cases z:m=Bo
  ·rw[Ah z,z,E]
  ·rw[Ad z,H,Ad z]
def Lay.fY(h:Lay P A sg cl ol){x:Int×List Pu}(d:x∈sg):P.bs (AF x.1)≠none:=by rw[(h.Cw x d).2];simp
def Lay.cZ(h:Lay P A sg cl ol){x:Int×List Pu}(d:x∈sg):isNum x.1=true:=h.DC.segs _ (by rw[<-h.segs];exact DT d)
def Lay.dd(h:Lay P A sg cl ol){x:Int×List Pu}(d:x∈sg):x.1<=A.A9:=h.Em.2 _ (h.cZ d) (h.fY d)
def Lay.ay(h:Lay P A sg cl ol){K:Nat}(O:List (Int×List Pu))(fresh:List (List Pu))(hc:Cm P (N+A.AP.length+K+3*fresh.length+8+A.j.Am.length+sg.length+fresh.length) (R+Di fresh+12+8*(O.length+fresh.length)))(hK:P.Ax.length<=K)(Y:∀x∈O,x∈sg)(aN:(O.map (·.1)).Pairwise (· < ·))(hf:∀l∈fresh,(∀p∈l,Bi p)/\Cx Cn l=true)(hn:isNum (A.j.A9+1)=true)(a0:A.A9+fresh.length<=4611686018427387904):
 (A.ay P (O.map (·.1)) fresh).1=0/\(A.ay P (O.map (·.1)) fresh).2.1=⟨⟨A.j.A9+1,(O++BW A.A9 fresh).map (·.1)⟩,⟨[],A.j.A9,0,none⟩,A.A9+fresh.length,[]⟩/\Cm (A.ay P (O.map (·.1)) fresh).2.2 N R/\
  Lay (A.ay P (O.map (·.1)) fresh).2.2 (A.ay P (O.map (·.1)) fresh).2.1 (O++BW A.A9 fresh) [] none/\
  (∀m,(A.ay P (O.map (·.1)) fresh).2.2.bs m≠none->m∈AI::(O++BW A.A9 fresh).map λx=>AF x.1):=by
 obtain⟨s1,s2,s3,s4,s5⟩:=h.C (N:=N+K+3*fresh.length+8+A.j.Am.length+sg.length+fresh.length) (R:=R+Di fresh+12+8*(O.length+fresh.length)) (hc.aa (by omega) (As _));have aL:(({A with AP:=[]}:Ar).aU (A.C P).2.2).length<=K:=by
  refine AM ?_ hK;refine IX (Vt GS s3.cS) λm I=>?_;rw[H0,<-s4];exact(IU.1 I).1
 obtain⟨w1,w2,w3⟩:=Cm.aq (A:={A with AP:=[]}) s3 (K:=K) (M:=N+3*fresh.length+8+A.j.Am.length+sg.length+fresh.length) aL (by omega);have H:∀m,m∈({A with AP:=[]}:Ar).Ax↔m=AI\/(∃n∈A.j.Am,m=Ae n)\/∃x∈sg,m=AF x.1:=λm=>by
  unfold Ar.Ax;dsimp only
  rw[<-h.segs];simp[eq_comm]
 have aJ:∀n,isNum n=true->A.A9<n->(({A with AP:=[]}:Ar).aq (A.C P).2.2).2.bs (AF n)=none:=λn hk hlt=>by
  rw[w3];split
  ·rw[s4];cases d:P.bs (AF n) with
   | none=>rfl
   | some c=>have:=h.Em.2 n hk (by rw[d];simp);omega
  ·rfl
 obtain⟨g1,g2,g3,g4,g5,g6⟩:=Cm.ah (N:=N+8+A.j.Am.length+sg.length+fresh.length) (R:=R+12+8*(O.length+fresh.length)) fresh A.A9 (O.map (·.1)) (w2.aa (by omega) (by omega)) h.Em.1 a0 aJ;generalize a2:(({A with AP:=[]}:Ar).aq (A.C P).2.2).2=P1 at w3 aJ g1 g2 g3 g4 g5 g6;generalize a3:(PD.ah fresh A.A9 (O.map (·.1)) P1).2.2.2=P2 at g4 g5 g6;obtain⟨W,aB⟩:∃W,O++BW A.A9 fresh=W:=⟨_,rfl⟩;have aI:W.map (·.1)=O.map (·.1)++(BW A.A9 fresh).map (·.1):=by rw[<-aB,El]
 have aV:W.length=O.length+fresh.length:=by rw[<-aB,AY,M9]
 have aO:P2.bs Bo=none:=by
  rw[g6 _ λx _=>(LU x.1).symm,w3,Ad];rw[H];rintro (e|⟨n,_,e⟩|⟨x,_,e⟩)
  ·exact J6 e.symm
  ·exact KU n e.symm
  ·exact LU x.1 e.symm
 have aA:∀x∈W,isNum x.1=true:=λx d=>by
  rw[<-aB]at d;rcases AU.1 d with d|d
  ·exact h.cZ (Y x d)
  ·have:=Gw d;have:=h.Em.1;unfold isNum;simp;omega
 have aX:∀x∈W,x.1<=A.A9+fresh.length:=λx d=>by
  rw[<-aB]at d;rcases AU.1 d with d|d
  ·have:=h.dd (Y x d);omega
  ·have:=Gw d;omega
 have aG:(W.map (·.1)).Pairwise (· < ·):=by
  rw[aI];refine Ek.2 ⟨aN,Of,λa ha b hb=>?_⟩;obtain⟨x,d,rfl⟩:=Ct.1 ha;obtain⟨y,hy,rfl⟩:=Ct.1 hb;have h1:=h.dd (Y x d);have X:=Gw hy;omega
 have aE:∀x∈W,((∀p∈x.2,Bi p)/\Cx Cn x.2=true)/\P2.bs (AF x.1)=some (AR (AE (AF x.1)) (Cd x.2)):=λx d=>by
  rw[<-aB]at d;rcases AU.1 d with d|d
  ·have aZ:=h.Cw x (Y x d);refine⟨aZ.1,?_⟩;rw[g6 _ λy hy e=>?_,w3,Ah ((H _).2 (.inr (.inr ⟨x,Y x d,rfl⟩))),s4,aZ.2];have X:=Gw hy;have h3:=h.Em.1;have:=KK (h.cZ (Y x d)) (by unfold isNum;simp;omega) e;have h1:=h.dd (Y x d);omega
  ·exact⟨hf _ (Gw d).2.2,g5 x d⟩
 have aM:∃aD,(({A with AP:=[],A9:=A.A9+fresh.length}:Ar).ag P2 (W.map (·.1)))=(0,⟨⟨A.j.A9+1,W.map (·.1)⟩,⟨[],A.j.A9,0,none⟩,A.A9+fresh.length,[]⟩,aD)/\Cm aD (N+4+A.j.Am.length+sg.length+fresh.length) R/\((aD.bs AI=none/\A.j.A9=0/\W=[])\/aD.bs AI=some (AR (AE AI) (Ch (A.j.A9+1) (W.map (·.1)))))/\∀m,m≠AI->aD.bs m=P2.bs m:=by
  unfold Ar.ag;dsimp only
  by_cases z:A.ix.B7=A.j.A9+1/\A.ix.segs=W.map (·.1)
  ·rw[Ah z];have aQ:cl=[]:=by
    cases aQ:cl with
    | nil=>rfl
    | cons x r=>
     (have d:x∈cl:=by rw[aQ];exact BF ..);have h1:=h.ED.1 x d;have X:=(h.CT x d).1.2;have:=z.1;omega
   have a1:ol=none:=by
    cases ol with
    | none=>rfl
    | some l=>have:=h.ED.2 (by simp);have:=z.1;omega
   subst aQ a1;have hj:A.j=⟨[],A.j.A9,0,none⟩:=by
    have h1:=h.AA;have X:=h.Gi;(have e:∀j:Jn,j.AA=none->j.Am=[]->j.puts=0->j=⟨[],j.A9,0,none⟩:=λj a b c=>by cases j;simp_all);exact e _ h1.1 (by simpa using h1.2) (by simpa[Aw] using X)
   have hi:A.ix=⟨A.j.A9+1,W.map (·.1)⟩:=by
    have e:∀i:Ix,i=⟨i.B7,i.segs⟩:=λi=>rfl;rw[e A.ix,z.1,z.2]
   refine⟨P2,?_,g4.aa (by omega) (by omega),?_,λ_ _=>rfl⟩
   ·conv=>lhs;rw[hj,hi]
   ·rw[g6 _ λx _=>(JB x.1).symm,w3,Ah ((H _).2 (.inl rfl)),s4];rcases h.ix with⟨h1,X⟩|X
    ·rw[X]at z;exact .inl ⟨h1,by have:=z.1;dsimp only at this;omega,by simpa using z.2⟩
    ·exact .inr (by rw[X,z.1,z.2])
  ·rw[Ad z];obtain⟨t1,t2,t3⟩:=Cm.ag (N:=N+4+A.j.Am.length+sg.length+fresh.length) (R:=R+12+8*W.length) (g4.aa (by omega) (by rw[aV];omega)) (A.j.A9+1) (W.map (·.1)) aO (by simp);rw[Ad (by simp[t1])];refine⟨_,rfl,t2.aa (As _) (by simp;omega),.inr (by rw[t3,Ah rfl]),λm I=>by rw[t3,Ad I]⟩
 obtain⟨aD,t1,t2,t3,t4⟩:=aM;have aU:∀m,aD.bs m≠none->m=AI\/(∃n∈A.j.Am,m=Ae n)\/(∃x∈sg,m=AF x.1)\/∃x∈BW A.A9 fresh,m=AF x.1:=λm I=>by
  by_cases e:m=AI
  ·exact .inl e
  ·rw[t4 m e]at I;by_cases e2:∃x∈BW A.A9 fresh,m=AF x.1
   ·exact .inr (.inr (.inr e2))
   ·rw[g6 m λx d e3=>e2 ⟨x,d,e3⟩,w3]at I;by_cases e3:m∈({A with AP:=[]}:Ar).Ax
    ·rcases(H m).1 e3 with h|h|h
     ·exact .inl h
     ·exact .inr (.inl h)
     ·exact .inr (.inr (.inl h))
    ·rw[Ad e3]at I;exact absurd rfl I
 obtain⟨aF,aH⟩:∃aF:Ar,(⟨⟨A.j.A9+1,W.map (·.1)⟩,⟨[],A.j.A9,0,none⟩,A.A9+fresh.length,[]⟩:Ar)=aF:=⟨_,rfl⟩;have E:∀m,m∈aF.Ax↔m=AI\/∃x∈W,m=AF x.1:=λm=>by
  rw[<-aH];unfold Ar.Ax;dsimp only;simp[eq_comm]
 have aP:(aF.aU aD).length<=1+A.j.Am.length+sg.length+fresh.length:=by
  have h1:(aF.aU aD).length<=(AI::(A.j.Am.map Ae++(sg.map (λx=>AF x.1)++(BW A.A9 fresh).map λx=>AF x.1))).length:=
   IX (Vt GS t2.cS) λm I=>by
    rcases aU m (IU.1 I).1 with h|⟨n,h1,X⟩|⟨n,h1,X⟩|⟨n,h1,X⟩
    ·subst h;exact BF ..
    ·subst X;exact Bx _ (FE _ (DT h1))
    ·subst X;exact Bx _ (Ha _ (FE _ (Ct.2 ⟨n,h1,rfl⟩)))
    ·subst X;exact Bx _ (Ha _ (Ha _ (Ct.2 ⟨n,h1,rfl⟩)))
  simp only[Cv,AY,F9,M9]at h1;omega
 obtain⟨v1,v2,v3⟩:=Cm.aq (A:=aF) (t2.aa (N':=N+1+(1+A.j.Am.length+sg.length+fresh.length)) (by omega) (As _)) aP (M:=N+1) (by omega);obtain⟨d1,d2,d3⟩:=Cm.dQ (N:=N) v2;obtain⟨aR,aW⟩:∃aR,(aF.aq aD).2.aJ.2=aR:=⟨_,rfl⟩;have aY:A.ay P (O.map (·.1)) fresh=(0,aF,aR):=by
  unfold Ar.ay;dsimp only
  rw[Ad (by simp[s1]),s2,Ad (by simp[w1]),a2];dsimp only
  rw[Ad (by simp[g1]),g2,g3,a3,<-aI,t1,aH];dsimp only
  rw[Ad (by simp)];unfold Ar.aY;rw[Ad (by simp[v1]),d1,aW]
 rw[aW]at d2 d3;have L:∀m,aR.bs m=if m∈aF.Ax then aD.bs m else none:=λm=>by rw[d3,v3]
 have aK:∀x∈W,aR.bs (AF x.1)=some (AR (AE (AF x.1)) (Cd x.2)):=λx d=>by
  rw[L,Ah ((E _).2 (.inr ⟨x,d,rfl⟩)),t4 _ (JB _)];exact(aE x d).2
 have aT:aR.bs AI=aD.bs AI:=by rw[L,Ah ((E _).2 (.inl rfl))]
 rw[aY];dsimp only
 rw[aB];refine⟨rfl,aH.symm,d2,?_,λm I=>?_⟩
 ·rw[<-aH];refine⟨⟨hn,λn I=>?_,IP.2 aG⟩,?_,rfl,λx d=>⟨(aE x d).1,aK x d⟩,λx d=>(by cases d),λx d=>(by cases d),⟨λx d=>(by cases d),λh=>absurd rfl h⟩,trivial,rfl,⟨rfl,rfl⟩,⟨h.EB.1,Hv _,λn hk d=>?_⟩,⟨by have:=h.Em.1;dsimp only;omega,λn hk d=>?_⟩,λnm I=>(by cases I),List.Pairwise.nil,λnm I=>?_,λn hk _ d=>?_⟩
  ·obtain⟨x,d,rfl⟩:=Ct.1 I;exact aA x d
  ·rw[aT];rcases t3 with⟨q1,q2,q3⟩|q
   ·exact .inl ⟨q1,by dsimp only;rw[q2,q3];rfl⟩
   ·exact .inr q
  ·rw[L,Ad]at d
   ·exact absurd rfl d
   ·rw[E];rintro (e|⟨x,_,e⟩)
    ·exact Hg n e
    ·exact FR n x.1 e
  ·rw[L]at d;split at d
   ·rename_i I;rcases(E _).1 I with e|⟨x,aS,e⟩
    ·exact absurd e (JB n)
    ·have:=KK hk (aA x aS) e;rw[this];exact aX x aS
   ·exact absurd rfl d
  ·rw[L]at I;split at I
   ·rename_i X;rcases(E _).1 X with e|⟨x,d,e⟩
    ·subst e;rw[SH];simp
    ·subst e;rw[Om (aA x d)];simp
   ·exact absurd rfl I
  ·rw[L,Ad]at d
   ·exact absurd rfl d
   ·rw[E];rintro (e|⟨x,_,e⟩)
    ·exact Hg n e
    ·exact FR n x.1 e
 ·rw[L]at I;split at I
  ·rename_i X;rcases(E _).1 X with e|⟨x,d,e⟩
   ·subst e;exact BF ..
   ·subst e;exact Bx _ (Ct.2 ⟨x,d,rfl⟩)
  ·exact absurd rfl I
end
def BD(l:List Pu)(k t:Int):Option Int:=l.foldl (λo p=>if p.1=k/\p.2.1=t then some p.2.2 else o) none
def Ib(l:List Pu)(p:Pu)(k t:Int):BD (l++[p]) k t=if p.1=k/\p.2.1=t then some p.2.2 else BD l k t:=by simp[BD]
def ZB(l:List Pu)(k t:Int):∀o,l.foldl (λo p=>if p.1=k/\p.2.1=t then some p.2.2 else o) o=(BD l k t).or o:=by
 induction l with
 | nil=>intro o;simp[BD]
 | cons p r ih=>
  intro o;have h:=ih (if p.1=k/\p.2.1=t then some p.2.2 else o);have d:=ih (if p.1=k/\p.2.1=t then some p.2.2 else none);unfold BD at h d ⊢;simp only[PQ]at h d ⊢;rw[h,d];cases r.foldl (λo p=>if p.1=k/\p.2.1=t then some p.2.2 else o) none with
  | some x=>simp
  | none=>
   simp only[Option.none_or];split<;>simp
def Gx(a b:List Pu)(k t:Int):BD (a++b) k t=(BD b k t).or (BD a k t):=by
 have:=ZB b k t (BD a k t);unfold BD at this ⊢;rw[N4,this]
def Td(l:List Pu)(k t:Int)(q:Pu->Bool)(E:∀p∈l,p.1=k->p.2.1=t->q p=true):BD (l.filter q) k t=BD l k t:=by
 induction l with
 | nil=>rfl
 | cons p r ih=>
  have d:=ih λx z=>E x (Bx _ z);have e:∀x:Pu,∀l:List Pu,BD (x::l) k t=(BD l k t).or (BD [x] k t):=λx l=>Gx [x] l k t;by_cases h:q p=true
  ·rw[IF h,e p r,e p (r.filter q),d]
  ·rw[Kj h,e p r,d];have:¬(p.1=k/\p.2.1=t):=λz=>h (E p (BF ..) z.1 z.2);simp[BD,this]
def Tc{l:List Pu}{k t:Int}:BD l k t=none↔∀p∈l,¬(p.1=k/\p.2.1=t):=by
 induction l with
 | nil=>simp[BD]
 | cons p r ih=>
  have e:BD (p::r) k t=(BD r k t).or (BD [p] k t):=Gx [p] r k t;rw[e,Option.or_eq_none_iff,ih];simp only[BR,forall_eq_or_imp];constructor
  ·rintro⟨z,d⟩;exact⟨λh=>by simp[BD,h]at d,z⟩
  ·rintro⟨z,d⟩;exact⟨d,by simp[BD,z]⟩
def ZA{l:List Pu}{k t v:Int}(h:BD l k t=some v):(k,t,v)∈l:=by
 induction l with
 | nil=>cases h
 | cons p r ih=>
  have e:BD (p::r) k t=(BD r k t).or (BD [p] k t):=Gx [p] r k t;rw[e]at h;cases hr:BD r k t with
  | some x=>
   rw[hr]at h;simp at h;subst h;exact Bx _ (ih hr)
  | none=>
   rw[hr]at h;simp only[Option.none_or]at h;by_cases d:p.1=k/\p.2.1=t
   ·simp[BD,d]at h;obtain⟨a,b,c⟩:=p
    simp_all
   ·simp[BD,d]at h
def Ic{len:Int}{p q:Pu}:Az len p q=true↔BB p.2.1 len<BB q.2.1 len\/BB p.2.1 len=BB q.2.1 len/\(p.1<q.1\/p.1=q.1/\p.2.1<q.2.1):=by simp[Az]
def ZN{len:Int}{p q r:Pu}(h1:Az len p q=true)(h2:Az len q r=true):Az len p r=true:=by
 rw[Ic]at *;omega
def ZQ{len:Int}{p q:Pu}(h:Az len p q=true):¬(p.1=q.1/\p.2.1=q.2.1):=by
 rw[Ic]at h;rintro⟨h1,d⟩;rw[d]at h;omega
def Uh{p q:Pu}:Cn p q=0↔p.1=q.1/\p.2.1=q.2.1:=by
 have h:∀x y:Int,Ci x y=0↔x=y:=λx y=>by
  unfold Ci;by_cases d:x<y
  ·simp[d];omega
  ·by_cases z:y<x
   ·simp[d,z];omega
   ·simp[d,z];omega
 unfold Cn;by_cases d:Ci p.1 q.1=0
 ·simp[h,(h _ _).1 d]
 ·simp only[JO,d,Og,Cg,false_iff];exact λE=>d ((h _ _).2 E.1)
def A1V{p q:Pu}:Cn p q<0↔p.1<q.1\/p.1=q.1/\p.2.1<q.2.1:=by
 unfold Cn;by_cases h:p.1=q.1
 ·have:Ci p.1 q.1=0:=by rw[h];simp[Ci]
  rw[Ad (by simp[this]),Pe];omega
 ·have:Ci p.1 q.1≠0:=by
   unfold Ci;by_cases d:p.1<q.1
   ·simp[d]
   ·rw[Ad d,Ah (by omega)];simp
  rw[Ah this,Pe];omega
def ZO{len:Int}{p q:Pu}(h:BB p.2.1 len=BB q.2.1 len)(E:Az len p q=false)(z:Cn p q≠0):Az len q p=true:=by
 have d:¬(Az len p q=true):=by simp[E]
 rw[Ic]at d ⊢;rw[JO,Uh]at z;omega
def ZP{len:Int}{p q:Pu}(h:BB p.2.1 len≠BB q.2.1 len)(z:Az len p q=false):BB q.2.1 len<BB p.2.1 len:=by
 have d:¬(Az len p q=true):=by simp[z]
 rw[Ic]at d;omega
def WT(len:Int)(h:BT (Az len))(l:List Pu)(k t:Int):BD (E4 (Az len) l) k t=BD l k t:=by
 have E:=h.cz l (k,t,0);have d:∀m:List Pu,∀p∈m,p.1=k->p.2.1=t->eqv (Az len) (k,t,0) p=true:=λm p _ H z=>by
  subst H z;simp[eqv,Az]
 rw[<-Td l k t _ (d l),<-Td (E4 (Az len) l) k t _ (d _),E]
structure WI (len:Int) (ws:List (List Pu)) (s:List Pu):Prop where
 Le:ws.flatten.Pairwise (λa b=>Az len a b=true)
 A9:∀k t,BD ws.flatten k t=BD s k t
 DB:∀x∈ws.flatten,x∈s
 ne:∀w∈ws,w≠[]
 G7:∀w∈ws,∀p∈w,∀q∈w,BB p.2.1 len=BB q.2.1 len
 Lf:ws.Pairwise λw w'=>∀p∈w,∀q∈w',BB p.2.1 len<BB q.2.1 len
 B5:ws.flatten.length<=s.length
def WI.cM{len:Int}{ws:List (List Pu)}{s:List Pu}(h:WI len ws s)(p:Pu)(L:∀x∈ws.flatten,BB x.2.1 len<BB p.2.1 len):WI len (ws++[[p]]) (s++[p]):=by
 have e:(ws++[[p]]).flatten=ws.flatten++[p]:=by simp
 have I:∀w∈ws,∀x∈w,x∈ws.flatten:=λw d x z=>N0.2 ⟨w,d,z⟩;refine⟨?_,λk t=>?_,λx z=>?_,λw d=>?_,λw d=>?_,?_,?_⟩
 ·rw[e,Ek];refine⟨h.Le,by simp,λa H b E=>?_⟩;simp at E;subst E;rw[Ic];exact .inl (L a H)
 ·rw[e,Ib,Ib,h.A9]
 ·rw[e]at z;rcases AU.1 z with z|z
  ·exact FE _ (h.DB x z)
  ·exact Ha _ z
 ·rcases AU.1 d with d|d
  ·exact h.ne w d
  ·simp at d;subst d;simp
 ·rcases AU.1 d with d|d
  ·exact h.G7 w d
  ·simp at d;subst d;intro a H b E;simp at H E;subst H E;rfl
 ·rw[Ek];refine⟨h.Lf,by simp,λa H b E x z y O=>?_⟩;simp at E;subst E;simp at O;subst O;exact L x (I a H x z)
 ·rw[e,AY,AY];have:=h.B5;simp only[Vf];omega
def WI.ag{len:Int}{d:List (List Pu)}{w w':List Pu}{s s':List Pu}{q:Pu}(h:WI len (d++[w]) s)(hq:q∈w)(L:(d.flatten++w').Pairwise (λa b=>Az len a b=true))(I:∀k t,BD (d.flatten++w') k t=BD s' k t)(W:∀x∈w',x∈s')(X:∀x∈s,x∈s')(aA:w'≠[])(E:∀p∈w',BB p.2.1 len=BB q.2.1 len)(hlen:w'.length+s.length<=w.length+s'.length):WI len (d++[w']) s':=by
 have e:∀v:List Pu,(d++[v]).flatten=d.flatten++v:=λv=>by simp
 have O:=Ek.1 h.Lf;refine⟨by rw[e];exact L,λk t=>by rw[e];exact I k t,λx H=>?_,λv z=>?_,λv z=>?_,?_,?_⟩
 ·rw[e]at H;rcases AU.1 H with H|H
  ·exact X x (h.DB x (by rw[e];exact FE _ H))
  ·exact W x H
 ·rcases AU.1 z with z|z
  ·exact h.ne v (FE _ z)
  ·simp at z;subst z;exact aA
 ·rcases AU.1 z with z|z
  ·exact h.G7 v (FE _ z)
  ·simp at z;subst z;intro a ha b Y;rw[E a ha,E b Y]
 ·rw[Ek];refine⟨O.1,by simp,λa ha b Y x H y hy=>?_⟩;simp at Y;subst Y;rw[E y hy];exact O.2.2 a ha w (by simp) x H q hq
 ·rw[e];have:=h.B5;rw[e]at this;simp only[AY]at this ⊢;omega
def WI.a7{len:Int}{z:List (List Pu)}{I:List Pu}{q E p:Pu}{s:List Pu}(h:WI len (z++[I++[q]]) s)(hq:q.1=E.1/\q.2.1=E.2.1)(hp:Az len p E=false):
 ∃X w1,Ew len (z++[I++[q]]) false E p=X++[w1++[p]]/\WI len (X++[w1++[p]]) (s++[p]):=by
 have aE:Az len p q=false:=by
  have:Az len p q=Az len p E:=by unfold Az;rw[hq.1,hq.2]
  rw[this];exact hp
 have O:q∈I++[q]:=by simp
 have e:∀v:List Pu,(z++[v]).flatten=z.flatten++v:=λv=>by simp
 have H:=h.Le;rw[e]at H;have hall:∀x∈z.flatten++(I++[q]),x=q\/Az len x q=true:=λx d=>by
  rw[<-Cc]at d H;rcases AU.1 d with d|d
  ·exact .inr ((Ek.1 H).2.2 x d q (by simp))
  ·exact .inl (by simpa using d)
 unfold Ew;dsimp only
 by_cases L:BB p.2.1 len=BB E.2.1 len
 ·have hw:BB p.2.1 len=BB q.2.1 len:=by rw[L,hq.2]
  have W:¬(false=true\/BB p.2.1 len≠BB E.2.1 len):=by simp[L]
  simp only[Ad W];have hl:(z++[I++[q]]).getLastD []=I++[q]:=by simp
  have aF:(I++[q]).getLastD (0,0,0)=q:=by simp
  have hd:(z++[I++[q]]).dropLast=z:=by simp
  have aB:(I++[q]).dropLast=I:=by simp
  rw[hl,aF,hd,aB];by_cases hz:Cn p q=0
  ·rw[Ah ⟨by simp,hz⟩];have hk:=Uh.1 hz;refine⟨z,I,rfl,h.ag O ?_ (λk t=>?_) (λx d=>?_) (λx d=>FE _ d) (by simp) (λx d=>?_) (by simp)⟩
   ·rw[<-Cc]at H ⊢;have ha:=Ek.1 H;rw[Ek];refine⟨ha.1,by simp,λa aG b Y=>?_⟩;simp at Y;subst Y;have:=ha.2.2 a aG q (by simp);rw[Ic]at this ⊢;rw[hk.1,hk.2];exact this
   ·rw[<-Cc,Ib,Ib,<-h.A9,e,<-Cc,Ib];by_cases d:p.1=k/\p.2.1=t
    ·simp[d]
    ·rw[Ad d,Ad d,Ad (by rw[<-hk.1,<-hk.2];exact d)]
   ·rcases AU.1 d with d|d
    ·exact FE _ (h.DB x (by rw[e];simp[d]))
    ·exact Ha _ d
   ·rcases AU.1 d with d|d
    ·exact h.G7 _ (by simp) x (by simp[d]) q O
    ·simp at d;subst d;exact hw
  ·rw[Ad (by simp[hz])];have aA:=ZO hw aE hz;refine⟨z,I++[q],rfl,h.ag O ?_ (λk t=>?_) (λx d=>?_) (λx d=>FE _ d) (by simp) (λx d=>?_) (by simp;omega)⟩
   ·rw[<-Cc,Ek];refine⟨H,by simp,λa ha b Y=>?_⟩;simp at Y;subst Y;rcases hall a ha with rfl|d
    ·exact aA
    ·exact ZN d aA
   ·rw[<-Cc,Ib,Ib,<-h.A9,e]
   ·rcases AU.1 d with d|d
    ·exact FE _ (h.DB x (by rw[e];exact Ha _ d))
    ·exact Ha _ d
   ·rcases AU.1 d with d|d
    ·exact h.G7 _ (by simp) x d q O
    ·simp at d;subst d;exact hw
 ·have W:false=true\/BB p.2.1 len≠BB E.2.1 len:=.inr L;simp only[Ah W];have hl:(z++[I++[q]]++[[]]).getLastD []=([]:List Pu):=by simp
  have hd:(z++[I++[q]]++[[]]).dropLast=z++[I++[q]]:=by simp
  rw[hl,hd,Ad (by simp)];refine⟨z++[I++[q]],[],by simp,?_⟩;have aD:BB q.2.1 len<BB p.2.1 len:=by
   have:=ZP L hp;rw[hq.2];exact this
  have:=h.cM p λx d=>?_
  ·simpa using this
  ·rw[e]at d;rcases hall x d with rfl|d
   ·exact aD
   ·rw[Ic]at d;omega
def Qf{len:Int}:∀(r:List Pu) (z:List (List Pu)) (H:List Pu) (q d:Pu) (s:List Pu),WI len (z++[H++[q]]) s->q.1=d.1/\q.2.1=d.2.1->B1 (Az len) (d::r)->WI len (Ec len r false d (z++[H++[q]])) (s++r)
 | [],z,H,q,d,s,h,_,_=>by simpa[Ec] using h
 | p::r,z,H,q,d,s,h,hq,ha=>by
  have E:=Db.1 ha;obtain⟨I,L,W,O⟩:=h.a7 hq (E.1 p (BF ..));unfold Ec;rw[W];have:=Qf r I L p p (s++[p]) O ⟨rfl,rfl⟩ E.2;simpa using this
def VQ{len:Int}(s:List Pu)(z:B1 (Az len) s):WI len (Ec len s true (0,0,0) []) s:=by
 cases s with
 | nil=>exact⟨by simp[Ec],λ_ _=>rfl,λx h=>by simp[Ec]at h,λw d=>by simp[Ec]at d,λw d=>by simp[Ec]at d,by simp[Ec],by simp[Ec]⟩
 | cons p r=>
  unfold Ec;have e:Ew len [] true (0,0,0) p=[]++[[]++[p]]:=by simp[Ew]
  rw[e];have H:WI len [] []:=⟨by simp,λ_ _=>rfl,λx h=>by simp at h,λw d=>by simp at d,λw d=>by simp at d,by simp,by simp⟩;have E:=H.cM p (by simp);have:=Qf r [] [] p p [p] (by simpa using E) ⟨rfl,rfl⟩ z;simpa using this
def Hj{len:Int}(E:BT (Az len))(l:List Pu):WI len (Bz len l) l:=by
 have h:=VQ (len:=len) (E4 (Az len) l) (E.eF l);have d:∀x∈E4 (Az len) l,x∈l:=λx I=>Bh.DB E (E.cz l).bG I;have z:(E4 (Az len) l).length=l.length:=by
  have H:∀(l s:List Pu),(l.foldl (λs x=>EZ (Az len) x s) s).length=s.length+l.length:=by
   intro l
   induction l with
   | nil=>intro s;rfl
   | cons x r ih=>
    intro s;have L:∀m:List Pu,(EZ (Az len) x m).length=m.length+1:=by
     intro m
     induction m with
     | nil=>rfl
     | cons y m ihm=>unfold EZ;split<;>simp[ihm]
    rw[PQ,ih,L,Cv];omega
  have:=H l [];simpa[E4] using this
 exact⟨h.Le,λk t=>by rw[<-WT len E l k t];exact h.A9 k t,λx I=>d x (h.DB x I),h.ne,h.G7,h.Lf,by rw[<-z];exact h.B5⟩
def WI.EJ{len:Int}{ws:List (List Pu)}{s:List Pu}(h:WI len ws s){w:List Pu}(I:w∈ws):Cx Cn w=true:=by
 have z:=A3O (MY I) h.Le;have L:=h.G7 w I;have E:∀m:List Pu,(∀x∈m,x∈w)->m.Pairwise (λa b=>Az len a b=true)->Cx Cn m=true:=by
  intro m
  induction m with
  | nil=>intro _ _;rfl
  | cons a m ih=>
   intro H z;cases m with
   | nil=>rfl
   | cons b m=>
    have d:=Db.1 z;simp only[Cx,FH,DG];refine⟨?_,ih (λx O=>H x (Bx _ O)) d.2⟩;have:=d.1 b (BF ..);rw[Ic]at this;have e:=L a (H a (BF ..)) b (H b (by simp));rw[A1V];omega
 exact E w (λ_ h=>h) z
def H6{ws:List (List Pu)}(h:∀w∈ws,w≠[]):ws.length<=ws.flatten.length:=by
 induction ws with
 | nil=>simp
 | cons w r ih=>
  have h1:=ih λx d=>h x (Bx _ d);have h2:=Ji.2 (h w (BF ..));rw[Jk,AY,Cv];omega
def JC(ws:List (List Pu)):Di ws=17*ws.flatten.length+4*ws.length:=by
 unfold Di
 induction ws with
 | nil=>rfl
 | cons w r ih=>
  rw[Hb,List.sum_cons,ih,Jk,AY,Cv];omega
section
variable {P P':PD} {A:Ar} {sg cl:List (Int×List Pu)} {ol:Option (List Pu)} {N R:Nat} {Ai oldest:Int}
def Lay.b0(h:Lay P A sg cl ol):∀p∈Aw cl++ol.getD [],Bi p:=by
 intro p d;rcases AU.1 d with d|d
 ·obtain⟨x,z,d⟩:=List.mem_flatMap.1 d;exact(h.CT x z).2 p d
 ·cases ol with
  | none=>simp at d
  | some l=>exact h.AA.2.2.2.1 p (by simpa using d)
def Lay.cX(h:Lay P A sg cl ol):∀p∈Aw sg,Bi p:=by
 intro p d;obtain⟨x,z,d⟩:=List.mem_flatMap.1 d;exact(h.Cw x z).1.1 p d
def C9(o:Int)(a b:List Pu):Prop:=(∀k t,o<=t->BD a k t=BD b k t)/\(∀p∈a,∃q∈b,q.1=p.1/\q.2.1=p.2.1)/\a.length<=b.length
def Lay.aR(h:Lay P A sg cl ol)(hw:BT (Az Ai)){K n:Nat}(hn:(Aw cl++ol.getD []).length<=n)(hn2:n<=1099511627776)(hK:P.Ax.length<=K)(hsl:sg.length<=K)(hjl:A.j.Am.length<=K)(hll:A.AP.length<=K)(hc:Cm P (N+4*K+4*n+8) (R+29*n+12+8*K))(E:isNum (A.j.A9+1)=true)(hln:A.A9+n<=4611686018427387904):
 (A.aR P Ai).1=0/\Cm (A.aR P Ai).2.2 N R/\
  ∃fresh,(A.aR P Ai).2.1=⟨⟨A.j.A9+1,(sg++BW A.A9 fresh).map (·.1)⟩,⟨[],A.j.A9,0,none⟩,A.A9+fresh.length,[]⟩/\Lay (A.aR P Ai).2.2 (A.aR P Ai).2.1 (sg++BW A.A9 fresh) [] none/\
   (∀m,(A.aR P Ai).2.2.bs m≠none->m∈AI::(sg++BW A.A9 fresh).map λx=>AF x.1)/\fresh.length<=fresh.flatten.length/\fresh.flatten.length<=(Aw cl++ol.getD []).length/\(∀k t,BD (B6 (sg++BW A.A9 fresh) [] none) k t=BD (B6 sg cl ol) k t)/\(∀p∈fresh.flatten,Bi p):=by
 have z:=h.puts (by rw[AY]at hn;omega);have d:=Hj hw (Aw cl++ol.getD []);generalize I:Bz Ai (Aw cl++ol.getD [])=fresh at d;have L:=H6 d.ne;have H:=d.B5;have hcost:=JC fresh;have e:A.aR P Ai=A.ay P (sg.map (·.1)) fresh:=by
  unfold Ar.aR;rw[z,Ad (by simp),I,h.segs]
 rw[e];obtain⟨X,r2,W,Y,r5⟩:=h.ay (N:=N) (R:=R) (K:=K) sg fresh (hc.aa (by omega) (by omega)) hK (λ_ h=>h) (IP.1 (by rw[h.segs];exact h.DC.EJ))
  (λl O=>⟨λp z=>h.b0 p (d.DB p (N0.2 ⟨l,O,z⟩)),d.EJ O⟩) E (by omega)
 refine⟨X,W,fresh,r2,Y,r5,L,H,λk t=>?_,λp z=>h.b0 p (d.DB p z)⟩;unfold B6;have e1:Aw (sg++BW A.A9 fresh)=Aw sg++fresh.flatten:=by
  have:=@KJ fresh A.A9;unfold Aw at this ⊢;rw[Vl,this]
 rw[e1];simp only[Aw,List.flatMap_nil,Option.getD_none,FF];rw[Gx,Gx,d.A9];rfl
def G9(segs:List (Int×List Pu))(oldest:Int):List (List Pu)->List (Int×List Pu)
 | []=>[]
 | l::r=>if l.any (λp=>decide (oldest<=p.2.1))=false then G9 segs oldest r else
  match segs.find? λs=>decide (s.2=l) with
  | none=>G9 segs oldest r
  | some s=>s::G9 segs oldest r
def JS(segs:List (Int×List Pu))(oldest:Int):∀ws,(BK segs oldest ws).1=(G9 segs oldest ws).map (·.1)
 | []=>rfl
 | l::r=>by
  have d:=JS segs oldest r;unfold BK G9;split
  ·exact d
  ·cases segs.find? λs=>decide (s.2=l) with
   | none=>exact d
   | some s=>simp[d]
def KV{segs:List (Int×List Pu)}{oldest:Int}:∀ {ws:List (List Pu)} {x:Int×List Pu},x∈G9 segs oldest ws->x∈segs/\x.2∈ws
 | l::r,x,h=>by
  unfold G9 at h;split at h
  ·have:=KV h;exact⟨this.1,Bx _ this.2⟩
  ·cases hx:segs.find? λs=>decide (s.2=l) with
   | none=>rw[hx]at h;have:=KV h;exact⟨this.1,Bx _ this.2⟩
   | some s=>
    rw[hx]at h;rcases BR.1 h with rfl|h
    ·have d:=List.find?_some hx;simp at d;exact⟨A3A hx,by rw[d];exact BF ..⟩
    ·have:=KV h;exact⟨this.1,Bx _ this.2⟩
def J5{segs:List (Int×List Pu)}{oldest:Int}:∀ {ws:List (List Pu)} {l:List Pu},l∈(BK segs oldest ws).2->l∈ws
 | w::r,l,h=>by
  unfold BK at h;split at h
  ·exact Bx _ (J5 h)
  ·cases hx:segs.find? λs=>decide (s.2=w) with
   | none=>
    rw[hx]at h;rcases BR.1 h with rfl|h
    ·exact BF ..
    ·exact Bx _ (J5 h)
   | some s=>rw[hx]at h;exact Bx _ (J5 h)
def JY{α:Type}(p:List α->Bool)(ws:List (List α)):(ws.filter p).flatten.Sublist ws.flatten:=by
 induction ws with
 | nil=>exact A3N _
 | cons w r ih=>
  rw[Fb];split
  ·rw[Jk,Jk];exact List.Sublist.append (A3N _) ih
  ·rw[Jk];exact ih.trans (List.sublist_append_right _ _)
def DQ(oldest:Int)(ws:List (List Pu)):List (List Pu):=ws.filter λl=>l.any λp=>decide (oldest<=p.2.1)
def JR(segs:List (Int×List Pu))(oldest:Int):∀ws,((G9 segs oldest ws).map (·.2)++(BK segs oldest ws).2).Perm (DQ oldest ws)
 | []=>List.Perm.refl _
 | l::r=>by
  have h:=JR segs oldest r;unfold BK G9 DQ;by_cases d:l.any (λp=>decide (oldest<=p.2.1))=false
  ·rw[Ah d,Ah d,Kj (by simp[d])];exact h
  ·rw[Ad d,Ad d,IF (by simpa using d)];cases hx:segs.find? λs=>decide (s.2=l) with
   | none=>
    dsimp only
    exact List.perm_middle.trans (h.cons _)
   | some s=>
    have z:=List.find?_some hx;simp at z;dsimp only
    rw[Hb,z];exact h.cons _
def Te{len:Int}{ws:List (List Pu)}{s:List Pu}(h:WI len ws s)(oldest k t:Int)(ht:oldest<=t):BD (DQ oldest ws).flatten k t=BD s k t:=by
 rw[<-h.A9];clear h;unfold DQ
 induction ws with
 | nil=>rfl
 | cons w r ih=>
  by_cases d:w.any (λp=>decide (oldest<=p.2.1))=true
  ·(have e:(w::r).filter (λl=>l.any λp=>decide (oldest<=p.2.1))=w::r.filter (λl=>l.any λp=>decide (oldest<=p.2.1)):=by simp only[Fb,d,Cg]);rw[e,Jk,Jk,Gx,Gx,ih]
  ·(have e:(w::r).filter (λl=>l.any λp=>decide (oldest<=p.2.1))=r.filter (λl=>l.any λp=>decide (oldest<=p.2.1)):=by simp only[Fb,d];rfl);rw[e,Jk,Gx,ih];have:BD w k t=none:=Tc.2 λp z hx=>d (PR.2 ⟨p,z,by simp;omega⟩);rw[this,V3]
def Iy(l:List Pu):Prop:=l.Pairwise λa b=>¬(a.1=b.1/\a.2.1=b.2.1)
def Iy.A9{l:List Pu}(h:Iy l){k t v:Int}:BD l k t=some v↔(k,t,v)∈l:=by
 refine⟨ZA,λd=>?_⟩
 induction l with
 | nil=>cases d
 | cons p r ih=>
  have z:=Db.1 h;have e:BD (p::r) k t=(BD r k t).or (BD [p] k t):=Gx [p] r k t;rw[e];rcases BR.1 d with rfl|d
  ·have:BD r k t=none:=Tc.2 λq H E=>z.1 q H ⟨E.1.symm,E.2.symm⟩;rw[this];simp[BD]
  ·rw[ih z.2 d];simp
def Iy.fU{l l':List Pu}(h:Iy l)(z:l.Perm l'):Iy l':=(z.pairwise_iff (R:=λa b:Pu=>¬(a.1=b.1/\a.2.1=b.2.1)) λh d=>h ⟨d.1.symm,d.2.symm⟩).1 h
def Iy.ee{l l':List Pu}(h:Iy l)(d:l.Perm l')(k t:Int):BD l k t=BD l' k t:=by
 have z:=h.fU d;cases hx:BD l k t with
 | some v=>exact(z.A9.2 (d.mem_iff.1 (h.A9.1 hx))).symm
 | none=>
  cases hy:BD l' k t with
  | none=>rfl
  | some v=>rw[h.A9.2 (d.mem_iff.2 (z.A9.1 hy))]at hx;cases hx
def WI.dR{len:Int}{ws:List (List Pu)}{s:List Pu}(h:WI len ws s)(oldest:Int):Iy (DQ oldest ws).flatten:=by
 have z:(DQ oldest ws).flatten.Pairwise (λa b=>Az len a b=true):=h.Le.sublist (JY _ _);exact z.imp λd=>ZQ d
def UG{oldest:Int}{ws:List (List Pu)}{w:List Pu}(h:w∈DQ oldest ws):w∈ws:=(GQ.1 h).1
def Lay.aQ(h:Lay P A sg cl ol)(hw:BT (Az Ai)){K n:Nat}(hn:(B6 sg cl ol).length<=n)(hn2:n<=1099511627776)(hK:P.Ax.length<=K)(hsl:sg.length<=K)(hjl:A.j.Am.length<=K)(hll:A.AP.length<=K)(hc:Cm P (N+4*K+4*n+8) (R+29*n+12+8*K))(aO:isNum (A.j.A9+1)=true)(hln:A.A9+n<=4611686018427387904):
 (A.aQ P Ai oldest).1=0/\Cm (A.aQ P Ai oldest).2.2 N R/\
  ∃W last,(A.aQ P Ai oldest).2.1=⟨⟨A.j.A9+1,W.map (·.1)⟩,⟨[],A.j.A9,0,none⟩,last,[]⟩/\last<=A.A9+n/\Lay (A.aQ P Ai oldest).2.2 (A.aQ P Ai oldest).2.1 W [] none/\
   (∀m,(A.aQ P Ai oldest).2.2.bs m≠none->m∈AI::W.map λx=>AF x.1)/\(W.map (·.2)).Perm (DQ oldest (Bz Ai (B6 sg cl ol)))/\∀k t,oldest<=t->BD (B6 W [] none) k t=BD (B6 sg cl ol) k t:=by
 have aP:(B6 sg cl ol).length=(Aw sg).length+(Aw cl++ol.getD []).length:=by unfold B6;rw[AY]
 have H:=h.puts (by rw[AY]at aP;omega);have E:=Hj hw (B6 sg cl ol);obtain⟨ws,aF⟩:∃ws,Bz Ai (B6 sg cl ol)=ws:=⟨_,rfl⟩;rw[aF]at E;obtain⟨k0,aD⟩:∃k0,G9 sg oldest ws=k0:=⟨_,rfl⟩;obtain⟨fresh,aG⟩:∃fresh,(BK sg oldest ws).2=fresh:=⟨_,rfl⟩;have d:=JR sg oldest ws;rw[aD,aG]at d;obtain⟨z,aH⟩:∃z,k0.mergeSort (λx y=>decide (x.1<=y.1))=z:=⟨_,rfl⟩;have aA:z.Perm k0:=by rw[<-aH];exact A3y _ _
 have aR:z.map (·.1)=((BK sg oldest ws).1).mergeSort λx y=>decide (x<=y):=by
  rw[JS,aD,<-aH,A3D (s:=λx y:Int=>decide (x<=y))];intro a _ b _;rfl
 have I:∀x∈z,x∈sg/\x.2∈ws:=λx hx=>KV (by rw[aD];exact aA.mem_iff.1 hx);have aN:(DQ oldest ws).Nodup:=by
  have h1:(DQ oldest ws).Pairwise λw w'=>∀p∈w,∀q∈w',BB p.2.1 Ai<BB q.2.1 Ai:=E.Lf.sublist GS;have L:∀w∈DQ oldest ws,w≠[]:=λw hw=>E.ne w (UG hw);clear d;generalize DQ oldest ws=v at h1 L
  induction v with
  | nil=>simp
  | cons w r ih=>
   have aM:=Db.1 h1;refine Kh.2 ⟨λhm=>?_,ih aM.2 λx hx=>L x (Bx _ hx)⟩;obtain⟨p,H⟩:=A3L w (L w (BF ..));have:=aM.1 w hm p H p H;omega
 have aL:(z.map (·.2)).Nodup:=by
  have h1:(k0.map (·.2)++fresh).Nodup:=d.nodup_iff.2 aN;have L:=(GC.1 h1).1;exact(aA.map (·.2)).nodup_iff.2 L
 have aJ:(sg.map (·.1)).Pairwise (· < ·):=IP.1 (by rw[h.segs];exact h.DC.EJ);have aB:∀x∈sg,∀y∈sg,x.1=y.1->x=y:=λx hx y hy e=>by
  obtain⟨i,hi,rfl⟩:=DU hx;obtain⟨j,hj,rfl⟩:=DU hy;have H:=Kg.1 aJ;rcases PF i j with O|O|O
  ·have:=H i j (by simpa using hi) (by simpa using hj) O;simp at this;omega
  ·subst O;rfl
  ·have:=H j i (by simpa using hj) (by simpa using hi) O;simp at this;omega
 have X:(z.map (·.1)).Pairwise (· < ·):=by
  have h1:z.Pairwise λx y=>x.1<=y.1:=by
   have:=Vd (le:=λx y:Int×List Pu=>decide (x.1<=y.1)) (λa b c h1 L=>by simp at *;omega) (λa b=>by simp;omega) k0;rw[aH]at this;(exact this.imp λh=>by simpa using h)
  have L:z.Pairwise λx y=>x.2≠y.2:=Ls.1 aL;rw[Ls];have h3:=h1.and L;refine A3P (λ{a b} ha hb aK=>?_) h3;rcases A3T aK.1 with h|h
  ·exact h
  ·exact absurd (Ei Prod.snd (aB a (I a ha).1 b (I b hb).1 h)) aK.2
 have aE:∀l∈fresh,l∈ws:=λl hl=>J5 (by rw[aG];exact hl);have Y:(Aw z++fresh.flatten).Perm (DQ oldest ws).flatten:=by
  have h1:(z.map (·.2)++fresh).Perm (DQ oldest ws):=((aA.map (·.2)).append_right _).trans d;have L:=h1.flatten;rw[Vj]at L;have e:(z.map (·.2)).flatten=Aw z:=by unfold Aw;rw[Vk]
  rwa [e]at L
 have hfl:fresh.length<=fresh.flatten.length:=H6 λw hw=>E.ne w (aE w hw);have hcount:fresh.flatten.length<=n:=by
  have h1:=Y.length_eq;have L:(DQ oldest ws).flatten.length<=ws.flatten.length:=(JY _ ws).length_le;have h3:=E.B5;rw[AY]at h1;omega
 have hkl:z.length<=K:=by
  have:(z.map (·.1)).length<=(sg.map (·.1)).length:=IX (X.imp λh=>Vw h) λx hx=>by
   obtain⟨y,hy,rfl⟩:=Ct.1 hx;exact DT (I y hy).1
  simp only[F9]at this;omega
 have hcost:=JC fresh;have aQ:∀p∈B6 sg cl ol,Bi p:=λp H=>by
  rcases AU.1 H with H|H
  ·exact h.cX p H
  ·exact h.b0 p H
 have e:A.aQ P Ai oldest=A.ay P (z.map (·.1)) fresh:=by
  unfold Ar.aQ;rw[h.b8];dsimp only
  have e2:sg.flatMap (·.2)++(P.puts A.j.Am).1=B6 sg cl ol:=by rw[H];rfl
  rw[e2,aF,<-aR,aG,H,Ad (by simp)]
 rw[e,aF];obtain⟨r1,r2,r3,r4,r5⟩:=h.ay (N:=N) (R:=R) (K:=K) z fresh (hc.aa (by omega) (by omega)) hK (λx hx=>(I x hx).1) X
  (λl hl=>⟨λp H=>aQ p (E.DB p (N0.2 ⟨l,aE l hl,H⟩)),E.EJ (aE l hl)⟩) aO (by omega)
 have aI:(BW A.A9 fresh).map (·.2)=fresh:=by
  have aS:∀(l:List (List Pu)) (a:Int),(BW a l).map (·.2)=l:=by
   intro l
   induction l with
   | nil=>intro a;rfl
   | cons x r ih=>intro a;simp[BW,ih]
  exact aS _ _
 refine⟨r1,r3,z++BW A.A9 fresh,A.A9+fresh.length,r2,by omega,r4,r5,?_,λk t ht=>?_⟩
 ·rw[El,aI];exact((aA.map (·.2)).append_right _).trans d
 ·have e1:B6 (z++BW A.A9 fresh) [] none=Aw z++fresh.flatten:=by
   have:=@KJ fresh A.A9;unfold B6 Aw at *;simp[this]
  rw[e1,(E.dR oldest |>.ee Y.symm k t).symm,Te E oldest k t ht]
end
end
section
open Go.RowKit
attribute [local go_sem ↓] CE
def JD(w:World)(jb b:Nat)(J:Jn)(P:PD)(FT:Nat->Prop):Prop:=
 ∃lv ov Ft,Dx w jb b lv ov J/\Bn w b P Ft/\(∀k,Ft k->k<w.heap.size)/\(∀k,Dh jb lv ov k->¬Ft k)/\∀k,Ft k\/Dh jb lv ov k->FT k
def JD.aP{w w':World}{jb b:Nat}{J:Jn}{P:PD}{FT:Nat->Prop}(h:JD w jb b J P FT)(E:FW FT w w')(O:w.heap.size<=w'.heap.size):JD w' jb b J P FT:=by
 obtain⟨lv,ov,Ft,L,H,W,I,z⟩:=h;exact⟨lv,ov,Ft,L.aP λk d=>E k (z k (.inr d)),H.aP λk d=>E k (z k (.inl d)),λk d=>Bk (W k d) O,I,z⟩
def Aq.jd{w w':World}{jb b:Nat}{J:Jn}{P:PD}{FT S:Nat->Prop}{lv ov:Value}{Ft:Nat->Prop}(Y:A3 S w w')(X:∀k,k<w.heap.size->S k->FT k)(E:Dx w' jb b lv ov J)(I:Bn w' b P Ft)(H:∀k,Ft k->k<w'.heap.size)(L:∀k,Dh jb lv ov k->¬Ft k)(O:∀k,Ft k->FT k\/w.heap.size<=k)(W:∀k,Dh jb lv ov k->FT k\/w.heap.size<=k):
 Aq w FT w' (λw' d=>JD w' jb b J P d):=
 ⟨Y.aa X,λk=>Ft k\/Dh jb lv ov k,⟨lv,ov,Ft,E,I,H,L,λ_ h=>h⟩,λk z=>z.elim (H k) λh=>E.lt h,λk z=>z.elim (O k) (W k)⟩
def Dx.ne{w:World}{jb b:Nat}{lv ov:Value}{J:Jn}(h:Dx w jb b lv ov J){g:Nat}(d:lv.ownBlock=some g):g≠jb:=by
 obtain⟨c,z⟩:=Be h.Am d;exact BS z h.Af (by decide)
def Bd.db{w:World}{lb:Nat}{p:Value}{name:ByteArray}{s n:Nat}{v:Value}{xs:List Value}(h:Bd w lb 237 p name s)(d:w.ownsRow 0 3 1 v n xs){g:Nat}(z:v.ownBlock=some g):g≠lb:=by
 obtain⟨c,E⟩:=Be d z;exact BS E h (by decide)
def Bd.dG{w:World}{lb jb b:Nat}{p:Value}{name:ByteArray}{s:Nat}{lv ov:Value}{last puts:Int}(h:Bd w lb 237 p name s)(d:CG w jb b lv last puts ov):lb≠jb:=BS h d (by decide)
section
variable {w:World} {b B jb lb:Nat} {P:PD} {Ft FT:Nat->Prop} {a c m:Nat} {lv ov:Value} {J:Jn} {n:Int}
def Sv(w:World)(h:Dx w jb b lv ov J)(d:AN (J.A9+1)):
 Ag 199 #[A5 jb] w (Al (A0 (J.A9+1)) λw'=>w=w'):=by
 have c2:=h.Af.c2;obtain⟨r1,r2⟩:=d;have ew:wrap64 (J.A9+1)=J.A9+1:=by unfold wrap64;omega
 go_enter func199,ntmps199
 go_wp2;go_ret;exact⟨rfl,rfl⟩
def Zf(w:World)(hJ:Dx w jb b lv ov J)(hl:J.Am.length<=1073741824):
 Ag 136 #[A5 jb] w λe w'=>∃v,e=.returned v/\Dy w' v J.Am/\(∀g,v.ownBlock=some g->w.heap.size<=g)/\A3 Ab w w':=by
 obtain⟨d,hi,L,O,W⟩:∃d,Tryz.prog.info? 3=some d/\d.zero=some (A0 0)/\d.size=1/\d.bytes=8:=by
  have h:=Tryz.dc;cases hx:Tryz.prog.info? 3 with
  | none=>rw[hx]at h;cases h
  | some i=>rw[hx]at h;simp at h;exact⟨i,rfl,h.1,h.2.1,h.2.2⟩
 have c1:=hJ.Af.c1;have z:=A1 (Src.bO underlying26 hJ.Am (JU J.Am));have E:Hid (w.ownsRow 0 3 1 (.slice none 0 0) 0 []):=CD _ _ _ _;generalize J.Am=l at *
 go_enter func136,ntmps136
 go_wp2_with (at_builtin;refine D4 rfl (.const (.slice none 0 0)) (.tmp 6) 26 26 rfl 3 d _ 1 8 underlying26 hi L O W rfl (by decide) (.slice none 0 0) 0 [] (by rfl) E.o _ l.length _ (by rfl) z.o (by omega) ?_;intro a8 cap8 w8 I;have aA:=A1 I);go_ret;have I:=aA.o;have X:=I.Aj (S:=λ_=>False) λ_ h=>by simp[Value.ownBlock]at h
 refine⟨_,rfl,?_,?_,X⟩
 ·have:=I.AA;simp only[Es,GO]at this ⊢;exact this
 ·intro g Y;have H:=I.Cj;simp only[GO]at H;cases a8 with
  | none=>simp[Value.ownBlock]at Y
  | some x=>
   simp[Value.ownBlock]at H Y;omega
def Zt(w:World)(z:Dx w jb b lv ov J):
 Ag 201 #[A5 jb] w (Al (.tuple #[]) λw'=>Dx w' jb b (.slice none 0 0) (.pointer none) ⟨[],J.A9,0,none⟩/\A3 (One jb) w w'):=by
 have h:=z.Af.s1 (.slice none 0 0);have d:=h.s3 0;have E:=d.s4 (.pointer none);have c1:=z.Af.c1;have f1:=z.Af.fz 1;have c3:=h.c3;have f3:=h.fz 3;have c4:=d.c4;have f4:=d.fz 4;have H:=A1 E
 go_enter func201,ntmps201
 go_wp2;go_end0;exact⟨rfl,⟨H.o,CD _ _ _ _,.inl ⟨rfl,rfl⟩⟩,((((A3.I (One jb) w).ao (b:=jb) rfl 1 _).ao (b:=jb) rfl 3 _).ao (b:=jb) rfl 4 _)⟩
def ZT(w:World)(h:JD w jb b J P FT):
 Ag 119 #[A5 jb] w (Al (A0 (J.ae P).1) λw'=>Aq w FT w' (λw' H=>JD w' jb b J (J.ae P).2 H)):=by
 obtain⟨lv,ov,Ft,I,hD,L,E,z⟩:=h;have c4:=I.Af.c4;rcases I.AA with⟨W,rfl⟩|⟨n,s,lb,W,rfl,hf,hs⟩
 ·have e:J.ae P=(0,P):=by unfold Jn.ae;rw[W]
  rw[e];have aB:=A1 (show Aq w FT w (λw' H=>JD w' jb b J P H) from Aq.jd (A3.I Ab w) (λ_ _ h=>h.elim) I hD L E (λk d=>.inl (z k (.inl d))) (λk d=>.inl (z k (.inr d))))
  go_enter func119,ntmps119
  go_wp2;go_ret;exact⟨rfl,aB.o⟩
 ·have e:J.ae P=P.ae (A8 (Ae n)):=by unfold Jn.ae;rw[W]
  rw[e];have O:=A1 (QB hf hD);have e1:(⟨(Ae n).toArray⟩:ByteArray)=A8 (Ae n):=rfl;rw[e1]at O;generalize hR:P.ae (A8 (Ae n))=R at O ⊢;have Y:=A1 I;have aA:=A1 E;have X:=A1 z
  go_enter func119,ntmps119
  go_wp2_with (go_at_call 164;refine O.m ?_;rintro e w2⟨rfl,hI⟩;have aD:=A1 hI);go_ret;obtain⟨r1,Ft',r2,r3,r4⟩:=aD.o;exact⟨rfl,Aq.jd r1 (λk _ d=>X.o k (.inl d)) (Y.o.Aj r1 aA.o) r2 r3 (λk d hx=>by rcases r4 k hx with h|h;exact aA.o k d h;have:=Y.o.lt d;omega) (λk d=>(r4 k d).imp (λh=>X.o k (.inl h)) id) (λk d=>.inl (X.o k (.inr d)))⟩
def Z4(w:World)(ahead:Int)(h:Bn w b P Ft)(H:∀k,Ft k->k<w.heap.size)(hn:CJ n)(W:Lets B w)(ha:AN ahead)(I:Fit P a c m)(E:CN (a+1) (c+1) (m+12)):
 Ag 236 #[A5 b,A0 n,A0 ahead] w λe w'=>
  ((P.ai (A8 (Ae n))).1≠0/\e=.returned (.tuple #[.pointer none,A0 (P.ai (A8 (Ae n))).1])/\Aq w Ft w' (λw' d=>Bn w' b (P.ai (A8 (Ae n))).2 d))\/
  ((P.ai (A8 (Ae n))).1=0/\((P.ai (A8 (Ae n))).2.ad (A8 (Ae n)) (AE (Ae n)) (AQ ahead)).2.1≠0/\e=.returned (.tuple #[.pointer none,A0 ((P.ai (A8 (Ae n))).2.ad (A8 (Ae n)) (AE (Ae n)) (AQ ahead)).2.1])/\Aq w Ft w' (λw' d=>Bn w' b ((P.ai (A8 (Ae n))).2.ad (A8 (Ae n)) (AE (Ae n)) (AQ ahead)).2.2 d))\/
  ((P.ai (A8 (Ae n))).1=0/\((P.ai (A8 (Ae n))).2.ad (A8 (Ae n)) (AE (Ae n)) (AQ ahead)).2.1=0/\∃lb,e=.returned (.tuple #[A5 lb,A0 0])/\w.heap.size<=lb/\Bd w' lb 237 (A5 b) ⟨(Ae n).toArray⟩ (AT (AE (Ae n)) (AQ ahead))/\
    A3 Ft w w'/\∃d,Bn w' b ((P.ai (A8 (Ae n))).2.ad (A8 (Ae n)) (AE (Ae n)) (AQ ahead)).2.2 d/\(∀k,d k->k<w'.heap.size)/\(∀k,d k->Ft k\/w.heap.size<=k)/\¬d lb):=by
 have z:=I.ai (A8 (Ae n));have Y:(AR (AE (Ae n)) (AQ ahead)).length=12:=by simp[AR,Hd,CL]
 have O:=z.an (A8 (Ae n)) (AR (AE (Ae n)) (AQ ahead));have X:=K3 O (A8 (Ae n));have L:=K3 z (A8 (Ae n));have hm:=E.m;exact Z0 w ahead P.D.AS (P.ai (A8 (Ae n))).2.D ((P.ai (A8 (Ae n))).2.an (A8 (Ae n)) (AR (AE (Ae n)) (AQ ahead))).2.D (P.ai (A8 (Ae n))).2.F ((P.ai (A8 (Ae n))).2.an (A8 (Ae n)) (AR (AE (Ae n)) (AQ ahead))).2.F _ _ h H hn W ha P.D.cB
  (by have:=I.A4;have:=I.Aj;have:=E.a;have:=E.c;omega) rfl rfl rfl z.AH (AM z.dK (AM (MU E.a (AM (PG m 12) E.m)) (by decide))) z.BJ
  (λf hf=>by have:=z.B5 f (FQ hf);omega) ⟨Kl X (by rw[Y];omega),Kl L (by omega)⟩
def A3h(p:Pu)(name:ByteArray)(s:Nat)(L:Bd w lb 237 (A5 b) name s)(hs:s<4294967296)(h:Bn w b P Ft)(z:∀k,Ft k->k<w.heap.size)(hn:¬Ft lb)(hp:Bi p)(d:Fit P a c m)(O:CN a c (m+21)):
 Ag 191 #[A5 lb,Dt p] w (Al (.tuple #[.bool (P.ad name s (Bc p.1 p.2.1 p.2.2)).1,A0 (P.ad name s (Bc p.1 p.2.1 p.2.2)).2.1]) λw'=>
  Bd w' lb 237 (A5 b) name (AT s (Bc p.1 p.2.1 p.2.2))/\Jp w Ft lb w' b (P.ad name s (Bc p.1 p.2.1 p.2.2)).2.2):=by
 obtain⟨⟨X,h2⟩,h3,W⟩:=hp;have H:(AR s (Bc p.1 p.2.1 p.2.2)).length=21:=by simp[AR,Hd,O4]
 have Y:=d.an name (AR s (Bc p.1 p.2.1 p.2.2));have hz:=K3 Y name;have I:=K3 d name;have hm:=O.m;have E:CN a c m:=⟨O.a,O.c,by omega⟩;exact A3g w lb name s p.1 p.2.1 p.2.2 ⟨X,by omega⟩ h3 W L hs h z hn d.AH (d.eu E) d.BJ (λf L=>by have:=d.B5 f (FQ L);omega) ⟨Kl hz (by rw[H];omega),Kl I (by omega)⟩
end
def OG:∃d,Tryz.prog.info? 3=some d/\d.zero=some (A0 0)/\d.size=1/\d.bytes=8:=by
 have h:=Tryz.dc;cases hx:Tryz.prog.info? 3 with
 | none=>rw[hx]at h;cases h
 | some i=>rw[hx]at h;simp at h;exact⟨i,rfl,h.1,h.2.1,h.2.2⟩
section
variable {w:World} {b B jb lb:Nat} {P:PD} {Ft FT:Nat->Prop} {a c m:Nat} {lv ov:Value} {J:Jn} {n:Int}
def A2j(w:World)(h:JD w jb b J P FT)(ho:J.AA=none)(hn:CJ (J.A9+1))(hr:AN (J.A9+1))(hp:AN J.puts)(bC:J.Am.length<=1073741824)(hL:Lets B w)(hF:Fit P a c m)(hl:CN (a+1) (c+1) (m+12)):
 Ag 190 #[A5 jb] w (Al (A0 (J.au P).1) λw'=>Aq w FT w' (λw' aS=>JD w' jb b (J.au P).2.1 (J.au P).2.2 aS)):=by
 obtain⟨i0,hi,bK,bV,bS⟩:=OG;obtain⟨lv,ov,Ft,hJ,hD,aR,aL,aM⟩:=h;have bM:ov=.pointer none:=by
  rcases hJ.AA with⟨_,h⟩|⟨n,s,lb,h,_⟩
  ·exact h
  ·rw[ho]at h;cases h
 subst bM
 have aB:Hid (J.au P=if (P.ai (A8 (Ae (J.A9+1)))).1≠0 then ((P.ai (A8 (Ae (J.A9+1)))).1,J,(P.ai (A8 (Ae (J.A9+1)))).2) else
  if ((P.ai (A8 (Ae (J.A9+1)))).2.ad (A8 (Ae (J.A9+1))) (AE (Ae (J.A9+1))) (AQ J.puts)).2.1≠0 then (((P.ai (A8 (Ae (J.A9+1)))).2.ad (A8 (Ae (J.A9+1))) (AE (Ae (J.A9+1))) (AQ J.puts)).2.1,J,((P.ai (A8 (Ae (J.A9+1)))).2.ad (A8 (Ae (J.A9+1))) (AE (Ae (J.A9+1))) (AQ J.puts)).2.2) else
  (0,⟨J.Am++[J.A9+1],J.A9+1,J.puts,some (J.A9+1,AT (AE (Ae (J.A9+1))) (AQ J.puts))⟩,((P.ai (A8 (Ae (J.A9+1)))).2.ad (A8 (Ae (J.A9+1))) (AE (Ae (J.A9+1))) (AQ J.puts)).2.2)):=rfl
 have aI:Hid (∀w1,A3 Ab w w1->_):=λw1 hc=>Z4 w1 J.puts (B3.aH hD aR hc) (λk d=>Bk (aR k d) hc.Ak) hn (hL.aS hc) hp hF hl;have bR:Hid (∀w1,A3 Ab w w1->_):=λw1 hc=>Sv w1 (hJ.aw hc) hr;generalize hR:J.au P=R at aB ⊢;obtain⟨L,aZ⟩:∃L,J.A9+1=L:=⟨_,rfl⟩;rw[aZ]at aB aI bR hr hn;have aH:(Ae L).length<=100:=Ss hn.2.2;obtain⟨nm,aP⟩:∃nm,Ae L=nm:=⟨_,rfl⟩;rw[aP]at aB aI;obtain⟨s0,aT⟩:∃s0,AE nm=s0:=⟨_,rfl⟩;have aK:s0<4294967296:=by rw[<-aT];exact Jx nm
 rw[aT]at aB aI;obtain⟨C,hC⟩:∃C,P.ai (A8 nm)=C:=⟨_,rfl⟩;rw[hC]at aB aI;obtain⟨A,hA⟩:∃A,C.2.ad (A8 nm) s0 (AQ J.puts)=A:=⟨_,rfl⟩;rw[hA]at aB aI;have bA:AT s0 (AQ J.puts)<4294967296:=Ju _ _ aK;obtain⟨s1,aJ⟩:∃s1,AT s0 (AQ J.puts)=s1:=⟨_,rfl⟩;rw[aJ]at aB aI bA;have c0:=hJ.Af.af.c0;have c3:=hJ.Af.af.c3;have bD:=A1 hJ;have a2:=A1 aL;have aF:=A1 aM;have HO:=A1 ho;have aN:=A1 aZ;have bO:=A1 aP;have a6:=A1 bC;have aY:=A1 (bR.o w.drew (A3.I _ w).af);have aA:=A1 (aI.o w.drew (A3.I _ w).af);clear hC hA hR aT aK aJ aH aP aZ hJ hD aR aL aM ho bC hL hF hl hp bR aI;have E:Hid (∀wx,A3 Ft w.drew wx->Dx wx jb b lv (.pointer none) J):=λwx W=>(bD.o.aw (A3.I Ab w).af).Aj W a2.o
 have aD:Hid (∀wx (bN:PD),Aq w.drew Ft wx (λw' z=>Bn w' b bN z)->Aq w FT wx (λw' aS=>JD w' jb b J bN aS)):=λwx bN W=>by
  obtain⟨r1,z,r2,r3,r4⟩:=W;exact Aq.jd ((A3.I Ft w).af.tr r1) (λk _ d=>aF.o k (.inl d)) (E.o wx r1) r2 r3 (λk d W=>by rcases r4 k W with h|h;exact a2.o k d h;have:=bD.o.lt d;have h':w.heap.size<=k:=h;omega) (λk d=>(r4 k d).imp (λh=>aF.o k (.inl h)) id) (λk d=>.inl (aF.o k (.inr d)))
 by_cases hc:C.1=0
 case neg=>
  have aE:R=(C.1,J,C.2):=by rw[aB.o,Ah hc]
  subst aE;have H:Hid (Ag 236 #[A5 b,A0 L,A0 J.puts] w.drew (Al (.tuple #[.pointer none,A0 C.1]) λw'=>Aq w.drew Ft w' (λw' z=>Bn w' b C.2 z))):=by
   refine aA.m ?_;rintro e w' (⟨_,h2,h3⟩|⟨h1,_⟩|⟨h1,_⟩)
   ·exact⟨h2,h3⟩
   ·exact absurd h1 hc
   ·exact absurd h1 hc
  have aX:(C.1 !=0)=true:=by simpa using hc
  obtain⟨C1,b3⟩:=C;dsimp only at H aX ⊢;clear aA aB
  go_enter func190,ntmps190
  go_wp2;refine BP (λw'=>A7 w' jb 0 (A5 b)/\A7 w' jb 3 (A0 J.puts)) 15
   (Bq [0,1,2,3,4,6,7,8,9,5,10,11,12,13,14] [5,10]) ⟨c0,c3⟩ ?_
  iterate 9 (refine Bg ?_;(try simp only[An]))
  refine Bw λK I=>?_;go_simp;refine aY.m ?_;rintro e w3⟨rfl,rfl⟩;refine I _ _ ⟨c0,c3⟩ (λhS=>?_);clear I K hS
  (try simp only[An])
  refine Bw λK I=>?_;go_simp;refine H.m ?_;rintro e w4⟨rfl,hI⟩;have k4:=E.o w4 hI.1;refine I _ _ ⟨k4.Af.c0,k4.Af.c3⟩ (λhS=>?_);have bP:=A1 (aD.o w4 b3 hI);clear I K hS hI k4 H aD E
  (try simp only[An])
  iterate 4 (refine Bg ?_;(try simp only[An]))
  refine Bl ?_;simp only[BI,BH];go_wp2;go_ret;exact⟨rfl,bP.o⟩
 case pos=>
 by_cases ha:A.2.1=0
 case neg=>
  have aE:R=(A.2.1,J,A.2.2):=by rw[aB.o,Ad (by simpa using hc),Ah ha]
  subst aE;have H:Hid (Ag 236 #[A5 b,A0 L,A0 J.puts] w.drew (Al (.tuple #[.pointer none,A0 A.2.1]) λw'=>Aq w.drew Ft w' (λw' z=>Bn w' b A.2.2 z))):=by
   refine aA.m ?_;rintro e w' (⟨h1,_⟩|⟨_,_,h2,h3⟩|⟨_,h1,_⟩)
   ·exact absurd hc h1
   ·exact⟨h2,h3⟩
   ·exact absurd h1 ha
  have aX:(A.2.1 !=0)=true:=by simpa using ha
  obtain⟨b1,b0,A2⟩:=A;dsimp only at H aX ⊢;clear aA aB
  go_enter func190,ntmps190
  go_wp2;refine BP (λw'=>A7 w' jb 0 (A5 b)/\A7 w' jb 3 (A0 J.puts)) 15
   (Bq [0,1,2,3,4,6,7,8,9,5,10,11,12,13,14] [5,10]) ⟨c0,c3⟩ ?_
  iterate 9 (refine Bg ?_;(try simp only[An]))
  refine Bw λK I=>?_;go_simp;refine aY.m ?_;rintro e w3⟨rfl,rfl⟩;refine I _ _ ⟨c0,c3⟩ (λhS=>?_);clear I K hS
  (try simp only[An])
  refine Bw λK I=>?_;go_simp;refine H.m ?_;rintro e w4⟨rfl,hI⟩;have k4:=E.o w4 hI.1;refine I _ _ ⟨k4.Af.c0,k4.Af.c3⟩ (λhS=>?_);have bP:=A1 (aD.o w4 A2 hI);clear I K hS hI k4 H aD E
  (try simp only[An])
  iterate 4 (refine Bg ?_;(try simp only[An]))
  refine Bl ?_;simp only[BI,BH];go_wp2;go_ret;exact⟨rfl,bP.o⟩
 case pos=>
  have aE:R=(0,⟨J.Am++[L],L,J.puts,some (L,s1)⟩,A.2.2):=by rw[aB.o,Ad (by simpa using hc),Ad (by simpa using ha)]
  subst aE;have H:Hid (Ag 236 #[A5 b,A0 L,A0 J.puts] w.drew λe w'=>∃lb,e=.returned (.tuple #[A5 lb,A0 0])/\w.drew.heap.size<=lb/\Bd w' lb 237 (A5 b) ⟨nm.toArray⟩ s1/\A3 Ft w.drew w'/\∃z,Bn w' b A.2.2 z/\(∀k,z k->k<w'.heap.size)/\(∀k,z k->Ft k\/w.drew.heap.size<=k)/\¬z lb):=by
   refine aA.m ?_;rintro e w' (⟨h1,_⟩|⟨_,h1,_⟩|⟨_,_,h2⟩)
   ·exact absurd hc h1
   ·exact absurd ha h1
   ·exact h2
  obtain⟨b1,b0,A2⟩:=A;dsimp only at H ⊢;clear aA aB aD
  go_enter func190,ntmps190
  go_wp2;refine BP (λw'=>A7 w' jb 0 (A5 b)/\A7 w' jb 3 (A0 J.puts)) 15
   (Bq [0,1,2,3,4,6,7,8,9,5,10,11,12,13,14] [5,10]) ⟨c0,c3⟩ ?_
  iterate 9 (refine Bg ?_;(try simp only[An]))
  refine Bw λK I=>?_;go_simp;refine aY.m ?_;rintro e w3⟨rfl,rfl⟩;refine I _ _ ⟨c0,c3⟩ (λhS=>?_);clear I K hS
  (try simp only[An])
  refine Bw λK I=>?_;go_simp;refine H.m ?_;rintro e w4⟨lb,rfl,aH,a4,aV,bF,q1,q2,q3,q4⟩;have k4:=E.o w4 aV;refine I _ _ ⟨k4.Af.c0,k4.Af.c3⟩ (λhS=>?_);have a1:=A1 k4;have bJ:Hid (w.heap.size<=lb):=aH;have aU:=A1 a4;have bX:Hid (A3 Ft w w4):=(A3.I Ft w).af.tr aV;have b8:=A1 q1;have bW:=A1 q2;have bG:Hid (∀k,bF k->Ft k\/w.heap.size<=k):=q3;have bZ:=A1 q4;clear I K hS aV aH a4 q1 q2 q3 q4 H E
  (try simp only[An])
  iterate 4 (refine Bg ?_;(try simp only[An]))
  refine Bl ?_;simp only[BI,BH];have b5:=a1.o.Af.s4 (A5 lb);have g44:=k4.Af.c4;have f44:=k4.Af.fz 4;have g52:=b5.c2;have f52:=b5.fz 2;have bH:=A1 (b5.s2 L);have ew:wrap64 (J.A9+1)=L:=by have:=aN.o;have:=hr.1;have:=hr.2;unfold wrap64;omega
  have ew2:IntKind.i64.wrap (J.A9+1)=L:=by have:=aN.o;have:=hr.1;have:=hr.2;simp[IntKind.wrap,IntKind.bits,IntKind.signed];omega
  have c5:A3 (One jb) w4 ((w4.setCell (Aa jb 4) (A5 lb)).setCell (Aa jb 2) (A0 L)):=((A3.I (One jb) w4).ao (b:=jb) rfl 4 _).ao (b:=jb) rfl 2 _;have a3:=A1 c5;clear b5 k4 c5;have a9:Hid (lb≠jb):=aU.o.dG a1.o.Af;have aG:Hid (∀g,lv.ownBlock=some g->g≠jb/\g≠lb):=λg X=>⟨a1.o.ne X,aU.o.db a1.o.Am X⟩
  go_wp2;generalize (w4.setCell (Aa jb 4) (A5 lb)).setCell (Aa jb 2) (A0 L)=w6 at bH a3 ⊢;have aW:Hid (w6.ownsRow 0 3 1 lv J.Am.length (DL J.Am)):=Ay a1.o.Am λg X=>a3.o.Ao g (AB a1.o.Am X) (aG.o g X).1;have bQ:=A1 (aU.o.aj a3.o a9.o);have b2:=bH.o.af.c1;have b6:=bH.o.af.c2;obtain⟨ap,cp,rfl,hcap1,a0,-⟩:=B8 aW.o;unfold maxLen at a0;refine BP (λw'=>A7 w' jb 1 (.slice ap J.Am.length cp)/\A7 w' jb 2 (A0 L)) 11
   (Bq [0,1,2,3,4,5,6,7,8,9,10] [9,10]) ⟨b2,b6⟩ ?_
  iterate 9 (refine Bg ?_;(try simp only[An]))
  refine Bw λK I=>?_;go_simp;have ka:A3 Ab w6 (w6.aC #[A0 L] 3).drew:=((A3.I _ _).ak _).af;have bI:=bH.o.aj ka (λh=>h);have bU:Hid ((w6.aC #[A0 L] 3).drew.ownsRow 0 3 1 (.slice ap J.Am.length cp) J.Am.length (DL J.Am)):=Ay aW.o λg X=>ka.Ao g (AB aW.o X) (λh=>h);have bE:Hid (Src Tryz.prog 1 26 (AJ w6.heap.size 1 1) 1 #[A0 L].toList (w6.aC #[A0 L] 3).drew):=by
   have hb:(w6.aC #[A0 L] 3).drew.heap[w6.heap.size]?=some (.cells #[A0 L] 3 (0,0)):=BN w6 _;exact Src.cA underlying26 hb 1 1 rfl (JU [L])
  refine I _ _ ⟨bI.c1,bI.c2⟩ (λhS=>?_)
  (try simp only[An])
  refine DW rfl (by rfl) (λK I=>?_);refine HW (.tmp 37) (.tmp 42) 26 26 rfl 3 i0 _ 1 8 underlying26 hi bK bV bS rfl (by decide) (.slice ap J.Am.length cp) J.Am.length (DL J.Am) (by rfl) bU.o _ 1 _ (by rfl) bE.o (by have:=a6.o;omega) ?_;intro a8 O w8 hA;have aO:=hA.Aj (S:=λk=>(Value.slice ap J.Am.length cp).ownBlock=some k) λ_ h=>h;have a5:=bI.aj aO (λh=>(aG.o _ h).1 rfl);refine I _ _ ⟨a5.c1,a5.c2⟩ (λhS=>?_);have g81:=a5.c1;have f81:=a5.fz 1;have b4:=A1 (a5.s1 (.slice a8 (J.Am.length+1) O));have bT:=A1 ((bQ.o.aj ka (λh=>h)).aj aO (λh=>(aG.o _ h).2 rfl));have a7:=A1 hA.AA;have bL:=A1 hA.Cj;have bY:Hid (A3 (λk=>(Value.slice ap J.Am.length cp).ownBlock=some k) w6 w8):=(ka.aa λ_ _ h=>h.elim).tr aO;have b7:Hid (w6.heap.size<=w8.heap.size/\w6.heap.size<=(w6.aC #[A0 L] 3).drew.heap.size):=⟨bY.o.Ak,ka.Ak⟩
  (try simp only[An])
  refine Bl ?_;simp only[BI,BH];go_wp2;go_ret;have Y:∀g,(Value.slice a8 (J.Am.length+1) O).ownBlock=some g->(Value.slice ap J.Am.length cp).ownBlock=some g\/w6.heap.size<=g:=λg X=>by
   rcases bL.o with h|h
   ·rw[h]at X;exact .inl X
   ·rw[h]at X;cases X;exact .inr b7.o.2
  have s46:=a3.o.Ak;have s04:=bX.o.Ak;have jbl:=bD.o.Af.lt;have bB:∀g,(Value.slice a8 (J.Am.length+1) O).ownBlock=some g->g≠jb:=λg X=>by
   rcases Y g X with h|h
   ·exact(aG.o g h).1
   ·omega
  have kf:A3 (One jb) w8 (w8.setCell (Aa jb 1) (.slice a8 (J.Am.length+1) O)):=(A3.I (One jb) w8).ao (b:=jb) rfl 1 _;have aQ:A3 (λk=>k=jb\/(Value.slice ap J.Am.length cp).ownBlock=some k) w4 (w8.setCell (Aa jb 1) (.slice a8 (J.Am.length+1) O)):=
   ((a3.o.aa λ_ _ h=>.inl h).Ap bY.o λ_ h _=>.inr h).Ap kf λ_ h _=>.inl h
  refine⟨rfl,Aq.jd (lv:=.slice a8 (J.Am.length+1) O) (ov:=(A5 lb)) (Ft:=bF) ((bX.o.aa (S':=λk=>Ft k\/k=jb\/(Value.slice ap J.Am.length cp).ownBlock=some k) λ_ _ h=>.inl h).Ap aQ λ_ h _=>.inr h) ?_ ⟨b4.o,?_,.inr ⟨L,s1,lb,rfl,rfl,?_,bA⟩⟩ ?_ ?_ ?_ ?_ ?_⟩
  ·rintro k _ (h|rfl|h)
   ·exact aF.o k (.inl h)
   ·exact aF.o _ (.inr (.inl rfl))
   ·exact aF.o k (.inr (.inr (.inl h)))
  ·(have e:(J.Am++[L]).length=J.Am.length+1:=by simp);unfold Dy;rw[KZ,e];exact Ay a7.o λg X=>GF _ _ _ _ (λe=>bB g X e)
  ·rw[bO.o];exact bT.o.aj kf a9.o
  ·refine B3.aP b8.o (aQ.aH bW.o λk d W=>?_);rcases bG.o k d with h|h
   ·rcases W with rfl|W
    ·exact a2.o _ (.inl rfl) h
    ·exact a2.o k (.inr (.inl W)) h
   ·rcases W with rfl|W
    ·omega
    ·have:=AB bD.o.Am W;omega
  ·exact λk d=>Bk (bW.o k d) aQ.Ak
  ·rintro k (rfl|d|d) W
   ·rcases bG.o _ W with h|h
    ·exact a2.o _ (.inl rfl) h
    ·omega
   ·rcases Y k d with h|h
    ·rcases bG.o k W with h' | h'
     ·exact a2.o k (.inr (.inl h)) h'
     ·have:=AB bD.o.Am h;omega
    ·have:=bW.o k W;omega
   ·cases d;exact bZ.o W
  ·exact λk d=>(bG.o k d).imp (λh=>aF.o k (.inl h)) id
  ·rintro k (rfl|d|d)
   ·exact .inl (aF.o _ (.inr (.inl rfl)))
   ·rcases Y k d with h|h
    ·exact .inl (aF.o k (.inr (.inr (.inl h))))
    ·exact .inr (by omega)
   ·cases d;exact .inr bJ.o
end
end
end Go.Proofs.YtodcnkbblippnaaGreatDoor
