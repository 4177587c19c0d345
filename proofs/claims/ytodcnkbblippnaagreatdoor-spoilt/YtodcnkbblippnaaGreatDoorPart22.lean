/- Part 22 of a proof: walks of the program. -/
import Derived.Test.YtodcnkbblippnaaGreatDoorPart21
namespace Go.Proofs.YtodcnkbblippnaaGreatDoor
set_option maxRecDepth 100000
set_option maxHeartbeats 32000000
set_option linter.defProp false
open Go.Proofs.Tryz
section
open Go.RowKit
def II(n:Int):Af n=108::(Lib.repeatL [48] (19-(Lib.itoa n).length)++Lib.itoa n):=by simp[Af,BO,Em,Dd]
def I8(n:Int):Aw n=115::(Lib.repeatL [48] (19-(Lib.itoa n).length)++Lib.itoa n):=by simp[Aw,BO,Em,Dd]
def Ug{lt:Bs}{a b:Int}(d:isNum a=true)(E:isNum b=true)(h:Em lt a=Em lt b):a=b:=by
 unfold isNum at d E;simp at d E;have z:=MW lt (n:=a) (by omega) (by omega);have H:=MW lt (n:=b) (by omega) (by omega);rw[h,H]at z;simpa using z.symm
def G6{a b:Int}(d:isNum a=true)(z:isNum b=true)(h:Af a=Af b):a=b:=Ug (lt:=Dd 1) d z (by simpa[Af,BO] using h)
def Lz{a b:Int}(d:isNum a=true)(z:isNum b=true)(h:Aw a=Aw b):a=b:=Ug (lt:=Dd 2) d z (by simpa[Aw,BO] using h)
def G8(a b:Int):Af a≠Aw b:=by rw[II,I8];simp
def HD(a:Int):Af a≠Ay:=by rw[II];simp[Ay]
def JZ(a:Int):Aw a≠Ay:=by rw[I8];simp[Ay]
def LH(a:Int):Af a≠Bm:=by rw[II];simp[Bm]
def MI(a:Int):Aw a≠Bm:=by rw[I8];simp[Bm]
def JA:Ay≠Bm:=by simp[Ay,Bm]
def LA{n:Int}(h:isNum n=true):Ba (Af n)=(1,n):=by
 have d:1<=n/\n<=4611686018427387904:=by unfold isNum at h;simpa using h
 unfold Ba;have e:DX [108] (Af n)=some n:=by
  have:=MW (Dd 1) (n:=n) (by omega) d.2;simpa[Af,BO,Dd] using this
 rw[e]
def LD{c d:UInt8}{r:Bs}(h:c≠d):DX [c] (d::r)=none:=by
 cases hx:DX [c] (d::r) with
 | none=>rfl
 | some v=>have:=(LC hx).2;simp[Em]at this;exact absurd this.1 h
def Pr{n:Int}(h:isNum n=true):Ba (Aw n)=(2,n):=by
 have d:1<=n/\n<=4611686018427387904:=by unfold isNum at h;simpa using h
 have e:DX [115] (Aw n)=some n:=by
  have:=MW (Dd 2) (n:=n) (by omega) d.2;simpa[Aw,BO,Dd] using this
 have z:DX [108] (Aw n)=none:=by rw[I8];exact LD (by decide)
 unfold Ba H5;rw[z,e]
def U7:Ba Ay=(3,0):=by
 have h:DX [108] Ay=none:=LD (by decide);have d:DX [115] Ay=none:=LD (by decide);unfold Ba H5;rw[h,d];simp[H4]
def A1d(a:Int):Af a≠[]:=by rw[II];simp
def YV(a:Int):Aw a≠[]:=by rw[I8];simp
def EY(P:PD):Int->gh (Int×gh Pu)->Prop
 | _,[]=>True
 | a,x::r=>P.aU x.1 a=(x.2,0)/\EY P (a+x.2.length) r
def Au(l:gh (Int×gh Pu)):gh Pu:=l.flatMap (·.2)
def Wz(P:PD)(j:Jn)(cl:gh (Int×gh Pu)):Option (gh Pu)->Prop
 | none=>j.AE=none/\j.Ak=cl.map (·.1)
 | some l=>j.AE=some (j.A8,F9 (Af j.A8) j.pd l)/\j.Ak=cl.map (·.1)++[j.A8]/\P.bs (Af j.A8)=some (E9 (Af j.A8) j.pd l)/\(∀p∈l,B8 p)/\isNum j.A8=true
structure Lay (P:PD) (A:Ar) (sg cl:gh (Int×gh Pu)) (ol:Option (gh Pu)):Prop where
 DH:NZ A.ix
 ix:(P.bs Ay=none/\A.ix=⟨1,[]⟩)\/P.bs Ay=some (AS (AB Ay) (Cl A.ix.AZ A.ix.sd))
 sd:sg.map (·.1)=A.ix.sd
 BN:∀x∈sg,((∀p∈x.2,B8 p)/\Cw Cr x.2=true)/\P.bs (Aw x.1)=some (AS (AB (Aw x.1)) (Ci x.2))
 CV:∀x∈cl,(isNum x.1=true/\x.1<=A.j.A8)/\∀p∈x.2,B8 p
 JH:∀x∈cl,ol≠none->x.1≠A.j.A8
 EO:(∀x∈cl,A.ix.AZ<=x.1)/\(ol≠none->A.ix.AZ<=A.j.A8)
 Ak:EY P 0 cl
 Gx:A.j.pd=((Au cl).length:Int)
 AE:Wz P A.j cl ol
 EB:0<=A.j.A8/\A.ix.AZ<=A.j.A8+1/\∀n,isNum n=true->P.bs (Af n)≠none->n<=A.j.A8
 Ep:0<=A.A8/\∀n,isNum n=true->P.bs (Aw n)≠none->n<=A.A8
 AN:∀nm∈A.AN,P.bs nm≠none
 Hl:A.j.Ak.Pairwise (· < ·)
 Ef:∀nm,P.bs nm≠none->(Ba nm).1≠0
 HC:∀n,isNum n=true->A.ix.AZ<=n->P.bs (Af n)≠none->n∈A.j.Ak
def B7(sg cl:gh (Int×gh Pu))(ol:Option (gh Pu)):gh Pu:=Au sg++(Au cl++ol.getD [])
section
variable{P P':PD}{A:Ar}{sg cl:gh (Int×gh Pu)}{ol:Option (gh Pu)}{N R:Nat}
def EY.ay(d:∀m,P'.bs m=P.bs m):∀ {a:Int} {l:gh (Int×gh Pu)},EY P a l->EY P' a l
 | _,[],_=>trivial
 | a,x::r,h=>by
  obtain⟨E,z⟩:=h;refine⟨?_,z.ay d⟩;rw[<-E];unfold PD.aU Gi;have e:∀Q:PD,DQ Q.D Q.F ⟨(Af x.1).toArray⟩=match Q.bs (Af x.1) with|some c=>(c,0)|none=>([],8):=λQ=>@FQ Q (Af x.1)
  rw[e P',e P,d]
def A1c{n:Int}(d:P'.bs (Af n)=P.bs (Af n))(a:Int):P'.aU n a=P.aU n a:=by
 unfold PD.aU Gi;have e:∀Q:PD,DQ Q.D Q.F ⟨(Af n).toArray⟩=match Q.bs (Af n) with|some c=>(c,0)|none=>([],8):=λQ=>@FQ Q (Af n)
 rw[e P',e P,d]
def EY.FM:∀ {a:Int} {l:gh (Int×gh Pu)},EY P a l->(∀x∈l,P'.bs (Af x.1)=P.bs (Af x.1))->EY P' a l
 | _,[],_,_=>trivial
 | a,x::_,h,hb=>⟨(A1c (hb x (Bt ..)) a).trans h.1,h.2.FM λy hy=>hb y (Bp _ hy)⟩
def EY.bS:∀ {a:Int} {l:gh (Int×gh Pu)} {x:Int×gh Pu},EY P a l->P.aU x.1 (a+(Au l).length)=(x.2,0)->EY P a (l++[x])
 | a,[],x,_,h=>⟨by simpa[Au] using h,trivial⟩
 | a,y::r,x,h,h2=>⟨h.1,h.2.bS (by
  rw[<-h2];congr 1
  simp only[Au,KR,AY];omega)⟩
def OZ:∀ {l:gh (Int×gh Pu)} {d:gh Pu},EY P d.length l->P.a1 (l.map (·.1)) d=(d++Au l,0)
 | [],d,_=>by simp[PD.a1,Au]
 | x::r,d,h=>by
  obtain⟨z,E⟩:=h;simp only[GY,PD.a1];rw[z];dsimp only
  rw[Aa (by simp),OZ (by simpa using E)];simp[Au,List.append_assoc]
def A1g{n a:Int}{l:gh Pu}(h:P.aU n a=(l,0)):P.bs (Af n)≠none:=by
 intro d;have e:DQ P.D P.F ⟨(Af n).toArray⟩=([],8):=by have:=@FQ P (Af n);unfold PD.Ck at this;rw[d]at this;exact this
 unfold PD.aU Gi at h;rw[e]at h;simp at h
def EY.DG:∀ {a:Int} {l:gh (Int×gh Pu)} {x:Int×gh Pu},EY P a l->x∈l->P.bs (Af x.1)≠none
 | a,y::r,x,h,d=>by
  rcases BB.1 d with rfl|d
  ·exact A1g h.1
  ·exact h.2.DG d
def Lay.dr(h:Lay P A sg cl ol)(hl:(Au cl).length<=1099511627776):AT A.j.pd:=by rw[h.Gx];constructor<;>omega
def Lay.pd(h:Lay P A sg cl ol)(z:(Au cl).length<=1099511627776):P.pd A.j.Ak=(Au cl++ol.getD [],0):=by
 have d:=h.AE;unfold PD.pd;cases ol with
 | none=>
  rw[d.2,OZ h.Ak];simp
 | some l=>
  obtain⟨-,H,E,I,h4⟩:=d
  have L:EY P 0 (cl++[(A.j.A8,l)]):=h.Ak.bS (by
   have:=h.Gx;rw[O1,<-this]
   exact Px (t:=[]) (h.dr z) I (by simp) (by simpa using E))
  have e:cl.map (·.1)++[A.j.A8]=(cl++[(A.j.A8,l)]).map (·.1):=by simp
  rw[H,e,OZ L];simp[Au]
def Lay.b4(h:Lay P A sg cl ol):P.sd A.ix.sd=some sg:=by
 rw[<-h.sd];have d:∀l:gh (Int×gh Pu),(∀x∈l,x∈sg)->P.sd (l.map (·.1))=some l:=by
  intro l
  induction l with
  | nil=>intro _;rfl
  | cons x r ih=>
   intro z;have⟨⟨h1,h2⟩,h3⟩:=h.BN x (z x (Bt ..));simp only[GY,PD.sd];rw[YT h1 h2 h3];dsimp only
   rw[ih λy hy=>z y (Bp _ hy)];rfl
 exact d sg λ_ h=>h
def Lay.ay(h:Lay P A sg cl ol)(d:∀m,P'.bs m=P.bs m):Lay P' A sg cl ol:=by
 refine⟨h.DH,by rw[d];exact h.ix,h.sd,λx z=>by rw[d];exact h.BN x z,h.CV,h.JH,h.EO,h.Ak.ay d,h.Gx,?_,⟨h.EB.1,h.EB.2.1,λn H z=>h.EB.2.2 n H (by rw[<-d];exact z)⟩,
  ⟨h.Ep.1,λn H z=>h.Ep.2 n H (by rw[<-d];exact z)⟩,λnm E=>by rw[d];exact h.AN nm E,h.Hl,λnm E=>h.Ef nm (by rw[<-d];exact E),λn L I O=>h.HC n L I (by rw[<-d];exact O)⟩
 have:=h.AE;cases ol with
 | none=>exact this
 | some l=>unfold Wz at this ⊢;rw[d];exact this
def Lay.C(h:Lay P A sg cl ol)(E:Cm P (N+A.AN.length) R):(A.C P).1=0/\(A.C P).2.1 = {A with AN:=[]}/\Cm (A.C P).2.2 N R/\(∀m,(A.C P).2.2.bs m=P.bs m)/\Lay (A.C P).2.2 {A with AN:=[]} sg cl ol:=by
 have⟨h1,h2,h3⟩:=Cm.az A.AN E h.AN;have e:A.C P=(0,{A with AN:=[]},(P.az A.AN).2):=by unfold Ar.C;rw[Aa (by simp[h1])]
 have d:=h.ay h3;rw[e];exact⟨rfl,rfl,h2,h3,⟨d.DH,d.ix,d.sd,d.BN,d.CV,d.JH,d.EO,d.Ak,d.Gx,d.AE,d.EB,d.Ep,λnm z=>(by cases z),d.Hl,d.Ef,d.HC⟩⟩
def Lay.aw(h:Lay P A sg cl none)(hc:Cm P (N+2) R)(hn:isNum (A.j.A8+1)=true)(hR:12<=R):
 (A.j.aw P).1=0/\Cm (A.j.aw P).2.2 N (R-12)/\Lay (A.j.aw P).2.2 {A with j:=(A.j.aw P).2.1} sg cl (some [])/\(A.j.aw P).2.1.AE≠none:=by
 obtain⟨n,O⟩:∃n,A.j.A8+1=n:=⟨_,rfl⟩;have h0:P.bs (Af n)=none:=by
  cases z:P.bs (Af n) with
  | none=>rfl
  | some c=>have:=h.EB.2.2 n (O ▸ hn) (by rw[z];simp);omega
 have⟨a1,a2,a3⟩:=Cm.db (N:=N+1) hc h0 (A1d n);obtain⟨-,b1,b2,b3⟩:=Cm.ae (N:=N) (nm:=Af n) (c:=[]) a2 (by rw[a3];simp) (AB (Af n)) (AO A.j.pd) (by rw[CQ];omega);rw[CQ]at b2;have I:=h.AE;have e:A.j.aw P=(0,⟨A.j.Ak++[n],n,A.j.pd,some (n,AP (AB (Af n)) (AO A.j.pd))⟩,((P.ai (A6 (Af n))).2.ae (A6 (Af n)) (AB (Af n)) (AO A.j.pd)).2.2):=by
  unfold Jn.aw;rw[O,Aa (by simp[a1])];dsimp only
  rw[Aa (by simp[b1])]
 rw[e];dsimp only
 have d:∀m,m≠Af n->((P.ai (A6 (Af n))).2.ae (A6 (Af n)) (AB (Af n)) (AO A.j.pd)).2.2.bs m=P.bs m:=λm L=>by rw[b3,Aa L,a3,Aa L]
 have E:=b3 (Af n);rw[Ae rfl,Ff]at E;generalize ((P.ai (A6 (Af n))).2.ae (A6 (Af n)) (AB (Af n)) (AO A.j.pd)).2.2=P2 at d E b2;have H:=O ▸ hn;have W:∀x∈cl,x.1≠n:=λx z e=>by have:=(h.CV x z).1.2;omega
 refine⟨rfl,b2,⟨h.DH,?_,h.sd,λx z=>?_,λx z=>?_,λx z _=>W x z,⟨h.EO.1,λ_=>by have:=h.EB.2.1;dsimp only;omega⟩,?_,h.Gx,?_,?_,?_,λnm L=>?_,?_,λnm L=>?_,λk h1 h2 h3=>?_⟩,by simp⟩
 ·rw[d _ (HD n).symm];exact h.ix
 ·rw[d _ (G8 n x.1).symm];exact h.BN x z
 ·have⟨⟨c1,c2⟩,c3⟩:=h.CV x z;exact⟨⟨c1,by dsimp only;omega⟩,c3⟩
 ·exact h.Ak.FM λx z=>d _ λe=>W x z (G6 (h.CV x z).1.1 H e)
 ·refine⟨rfl,by dsimp only;rw[I.2],?_,by simp,H⟩;dsimp only
  rw[E];simp[E9,E8]
 ·refine⟨by have:=h.EB.1;dsimp only;omega,by have:=h.EB.2.1;dsimp only;omega,λk Y z=>?_⟩;dsimp only
  by_cases e:Af k=Af n
  ·have:=G6 Y H e;omega
  ·rw[d _ e]at z;have:=h.EB.2.2 k Y z;omega
 ·refine⟨h.Ep.1,λk Y z=>h.Ep.2 k Y ?_⟩
  rwa [d _ (G8 n k).symm]at z
 ·by_cases e:nm=Af n
  ·subst e;rw[E];simp
  ·rw[d _ e];exact h.AN nm L
 ·dsimp only
  refine Ez.2 ⟨h.Hl,by simp,λa ha b hb=>?_⟩;simp at hb;subst hb;rw[I.2]at ha;obtain⟨x,z,rfl⟩:=CC.1 ha;have:=(h.CV x z).1.2;omega
 ·by_cases e:nm=Af n
  ·subst e;rw[LA H];simp
  ·rw[d _ e]at L;exact h.Ef nm L
 ·dsimp only
  by_cases e:Af k=Af n
  ·have:=G6 h1 H e;subst this;simp
  ·rw[d _ e]at h3;exact FV _ (h.HC k h1 h2 h3)
def Lay.ax{l:gh Pu}(h:Lay P A sg cl (some l))(hc:Cm P (N+1) R)(p:Pu)(Y:B8 p)(hR:21<=R):
 (A.j.ax P p).1=true/\(A.j.ax P p).2.1=0/\Cm (A.j.ax P p).2.2.2 N (R-21)/\Lay (A.j.ax P p).2.2.2 {A with j:=(A.j.ax P p).2.2.1} sg cl (some (l++[p])):=by
 have⟨O,h2,h3,h4,h5⟩:=h.AE;obtain⟨n,hnn⟩:∃n,A.j.A8=n:=⟨_,rfl⟩;have⟨b0,b1,b2,b3⟩:=Cm.ae (N:=N) hc h3 (F9 (Af A.j.A8) A.j.pd l) (Bc p.1 p.2.1 p.2.2) (by rw[F7];omega);rw[F7]at b2;have⟨q1,q2⟩:=Uv (Af A.j.A8) A.j.pd l p;unfold Jn.ax;rw[O];dsimp only
 refine⟨b0,b1,b2,?_⟩;have d:∀m,m≠Af A.j.A8->(P.ae (A6 (Af A.j.A8)) (F9 (Af A.j.A8) A.j.pd l) (Bc p.1 p.2.1 p.2.2)).2.2.bs m=P.bs m:=λm H=>by rw[b3,Aa H]
 have E:=b3 (Af A.j.A8);rw[Ae rfl]at E;generalize (P.ae (A6 (Af A.j.A8)) (F9 (Af A.j.A8) A.j.pd l) (Bc p.1 p.2.1 p.2.2)).2.2=P2 at d E b2;refine⟨h.DH,?_,h.sd,λx z=>?_,h.CV,λx z _=>h.JH x z (by simp),⟨h.EO.1,λ_=>h.EO.2 (by simp)⟩,?_,h.Gx,⟨?_,h2,?_,?_,h5⟩,⟨h.EB.1,h.EB.2.1,λk L z=>?_⟩,⟨h.Ep.1,λk L z=>?_⟩,λnm H=>?_,h.Hl,λnm H=>?_,λk O W I=>?_⟩
 ·rw[d _ (HD _).symm];exact h.ix
 ·rw[d _ (G8 _ x.1).symm];exact h.BN x z
 ·exact h.Ak.FM λx z=>d _ λe=>h.JH x z (by simp) (G6 (h.CV x z).1.1 h5 e)
 ·dsimp only;rw[q2]
 ·dsimp only;rw[E,q1]
 ·intro x z;rcases AU.1 z with z|z
  ·exact h4 x z
  ·simp at z;subst z;exact Y
 ·by_cases e:Af k=Af A.j.A8
  ·have:=G6 L h5 e;show k<=A.j.A8;omega
  ·rw[d _ e]at z;exact h.EB.2.2 k L z
 ·rw[d _ (G8 _ k).symm]at z;exact h.Ep.2 k L z
 ·by_cases e:nm=Af A.j.A8
  ·subst e;rw[E];simp
  ·rw[d _ e];exact h.AN nm H
 ·by_cases e:nm=Af A.j.A8
  ·subst e;rw[LA h5];simp
  ·rw[d _ e]at H;exact h.Ef nm H
 ·by_cases e:Af k=Af A.j.A8
  ·have:=G6 O h5 e;subst this;show A.j.A8∈A.j.Ak;rw[h2];simp
  ·rw[d _ e]at I;exact h.HC k O W I
def Lay.ae(h:Lay P A sg cl ol)(z:Cm P (N+A.AN.length+3) R)(E:ol=none->isNum (A.j.A8+1)=true)(p:Pu)(d:B8 p)(hR:33<=R):
 (A.ae P p).1=true/\(A.ae P p).2.1=0/\Cm (A.ae P p).2.2.2 N (R-33)/\Lay (A.ae P p).2.2.2 (A.ae P p).2.2.1 sg cl (some (ol.getD []++[p]))/\(A.ae P p).2.2.1.AN=[]:=by
 have⟨s1,s2,s3,s4,s5⟩:=h.C (N:=N+3) (z.af (by omega) (Ao _));unfold Ar.ae;rw[Aa (by simp[s1])];dsimp only
 rw[s2];dsimp only
 generalize (A.C P).2.2=P1 at s3 s4 s5;cases ol with
 | none=>
  have⟨b1,b2,b3,b4⟩:=Lay.aw (N:=N+1) s5 s3 (E rfl) (by omega);dsimp only at b1 b2 b3 b4;have⟨p1,p2,p3,p4⟩:=b3.ax (N:=N) b2 p d (by omega);dsimp only at p1 p2 p3 p4;have e:A.j.ae P1 p=(A.j.aw P1).2.1.ax (A.j.aw P1).2.2 p:=by
   unfold Jn.ae;rw[Ae h.AE.1,Aa (by simp[b1])]
  rw[e];exact⟨p1,p2,p3.af (Ao _) (by omega),p4,rfl⟩
 | some l=>
  have⟨p1,p2,p3,p4⟩:=s5.ax (N:=N) (s3.af (by omega) (Ao _)) p d (by omega);dsimp only at p1 p2 p3 p4;have e:A.j.ae P1 p=A.j.ax P1 p:=by
   unfold Jn.ae;rw[Aa (by rw[h.AE.1];simp)]
  rw[e];exact⟨p1,p2,p3.af (Ao _) (by omega),p4,rfl⟩
def Lay.ad(h:Lay P A sg cl ol)(L:Cm P (N+A.AN.length+2) R):
 (A.ad P).1=0/\Cm (A.ad P).2.2 N R/\Lay (A.ad P).2.2 (A.ad P).2.1 sg cl ol/\(A.ad P).2.1 = {A with AN:=[]}:=by
 have⟨s1,s2,s3,s4,s5⟩:=h.C (N:=N+2) (L.af (by omega) (Ao _));have E:((A.C P).2.1.j.ad (A.C P).2.2).1=0/\Cm ((A.C P).2.1.j.ad (A.C P).2.2).2 (N+1) R/\∀m,((A.C P).2.1.j.ad (A.C P).2.2).2.bs m=(A.C P).2.2.bs m:=by
  rw[s2];dsimp only
  unfold Jn.ad;cases ol with
  | none=>rw[h.AE.1];exact⟨rfl,s3.af (by omega) (Ao _),λ_=>rfl⟩
  | some l=>
   rw[h.AE.1];have z:=s5.AE.2.2.1;dsimp only at z;exact Cm.cG (N:=N+1) s3 z
 obtain⟨H,I,d⟩:=E;have⟨d1,d2,d3⟩:=Cm.dc (N:=N) I;unfold Ar.ad;rw[Aa (by simp[s1]),Aa (by simp[H])];refine⟨d1,d2,?_,s2⟩;dsimp only
 rw[s2];rw[s2]at d3 d;dsimp only at d3 d ⊢;exact s5.ay λm=>by rw[d3,d]
end
def Qp{x y:Int}:Cn x y<0↔x<y:=by
 unfold Cn;by_cases h:x<y
 ·simp[h]
 ·rw[Aa h];split<;>simp<;>omega
def IC:∀ {l:gh Int},Cw Cn l=true↔l.Pairwise (· < ·)
 | []=>by simp[Cw]
 | [x]=>by simp[Cw]
 | x::y::r=>by
  have L:=@IC (y::r);simp only[Cw,Gg,E0,Qp,L];constructor
  ·rintro⟨I,H⟩;refine D7.2 ⟨λz d=>?_,H⟩;rcases BB.1 d with rfl|d
   ·exact I
   ·exact Int.lt_trans I ((D7.1 H).1 z d)
  ·intro h;have E:=D7.1 h;exact⟨E.1 y (Bt ..),E.2⟩
def Jp{α:Type}[DecidableEq α]:∀ {l l':gh α},l.Nodup->(∀x∈l,x∈l')->l.length<=l'.length
 | [],l',_,_=>by simp
 | x::r,l',h,hs=>by
  have d:=KL.1 h;have z:=hs x (Bt ..);have ih:=Jp (l':=l'.erase x) d.2 λy hy=>(A41 (λe=>d.1 (by subst e;exact hy))).2 (hs y (Bp _ hy))
  have hl:=A44 z;have:0<l'.length:=A43 z;simp only[Cg];omega
def BW:Int->gh (gh Pu)->gh (Int×gh Pu)
 | _,[]=>[]
 | lh,l::r=>(lh+1,l):: BW (lh+1) r
def GQ:∀ {l:gh (gh Pu)} {d:Int} {x:Int×gh Pu},x∈BW d l->d<x.1/\x.1<=d+l.length/\x.2∈l
 | [],_,_,h=>by cases h
 | a::r,d,x,h=>by
  rcases BB.1 h with rfl|h
  ·simp;omega
  ·have⟨h1,h2,h3⟩:=GQ h;simp only[Cg];exact⟨by omega,by omega,Bp _ h3⟩
def Pl:∀ {l:gh (gh Pu)} {d:Int},((BW d l).map (·.1)).Pairwise (· < ·)
 | [],_=>by simp[BW]
 | a::r,d=>by
  simp only[BW,GY];refine D7.2 ⟨λz E=>?_,Pl⟩;obtain⟨x,h,rfl⟩:=CC.1 E;exact(GQ h).1
def MU:∀ {l:gh (gh Pu)} {d:Int},(BW d l).length=l.length
 | [],_=>rfl
 | a::r,d=>by simp[BW,MU]
def Ly:∀ {l:gh (gh Pu)} {d:Int},Au (BW d l)=l.flatten
 | [],_=>rfl
 | a::r,d=>by
  have:=@Ly r (d+1);unfold Au at this ⊢;simp[BW,this]
def Dr(l:gh (gh Pu)):Nat:=(l.map λx=>17*x.length+4).sum
section
variable{P P':PD}{A:Ar}{sg cl:gh (Int×gh Pu)}{ol:Option (gh Pu)}{N R:Nat}
def Cm.aj:∀(h:gh (gh Pu)) (d:Int) (z:gh Int) {P:PD},Cm P (N+3*h.length) (R+Dr h)->0<=d->d+h.length<=4611686018427387904->
 (∀n,isNum n=true->d<n->P.bs (Aw n)=none)->
 (PD.aj h d z P).1=0/\(PD.aj h d z P).2.1=d+h.length/\(PD.aj h d z P).2.2.1=z++(BW d h).map (·.1)/\Cm (PD.aj h d z P).2.2.2 N R/\
  (∀x∈BW d h,(PD.aj h d z P).2.2.2.bs (Aw x.1)=some (AS (AB (Aw x.1)) (Ci x.2)))/\
  ∀m,(∀x∈BW d h,m≠Aw x.1)->(PD.aj h d z P).2.2.2.bs m=P.bs m
 | [],d,z,P,hc,h0,h1,hn=>⟨rfl,by simp[PD.aj],by simp[PD.aj,BW],by simpa[PD.aj,Dr] using hc,⟨λx I=>by simp[BW]at I,λm _=>rfl⟩⟩
 | l::r,d,z,P,hc,h0,h1,hn=>by
  simp only[Cg]at h1;have H:isNum (d+1)=true:=by unfold isNum;simp;omega
  have E:Dr (l::r)=(17*l.length+4)+Dr r:=by simp[Dr]
  have⟨a1,a2,a3⟩:=Cm.aH (N:=N+3*r.length) (R:=R+Dr (l::r)) (nm:=Aw (d+1)) (hc.af (by simp;omega) (Ao _)) (hn _ H (by omega)) (YV _) (AB (Aw (d+1))) (Ci l) (by rw[ID,E];omega);rw[ID]at a2;have W:=a2.af (N':=N+3*r.length) (R':=R+Dr r) (Ao _) (by rw[E];omega);have⟨b1,b2,b3,b4,b5,b6⟩:=Cm.aj r (d+1) (z++[d+1]) W (by omega) (by omega) λn Y hlt=>by
   (have L:Aw n≠Aw (d+1):=λe=>by have:=Lz Y H e;omega);rw[a3,Aa L];exact hn n Y (by omega)
  have e:PD.aj (l::r) d z P=PD.aj r (d+1) (z++[d+1]) (P.aI (d+1) l).2:=by
   conv=>lhs;unfold PD.aj
   rw[Aa (by unfold PD.aI;simp[a1])]
  have e2:(P.aI (d+1) l).2=(P.aH (Aw (d+1)) (AB (Aw (d+1))) (Ci l)).2:=rfl;rw[e,e2];refine⟨b1,by rw[b2];simp only[Cg];omega,by rw[b3];simp[BW],b4,λx I=>?_,λm hm=>?_⟩
  ·rcases BB.1 I with rfl|I
   ·dsimp only
    rw[b6 _ λy hy e=>?_,a3,Ae rfl];have hy:=GQ hy;(have O:isNum y.1=true:=by unfold isNum;simp;omega);have:=Lz H O e;omega
   ·exact b5 x I
  ·rw[b6 m λx I=>hm x (Bp _ I),a3,Aa (hm _ (Bt ..))]
def Jl{nm:Bs}:nm∈A.aV P↔P.bs nm≠none/\nm∉A.Ai:=by
 unfold Ar.aV;rw[GX,Es];simp
def Cm.au(E:Cm P N R){K M:Nat}(hK:(A.aV P).length<=K)(hN:N=M+K):(A.au P).1=0/\Cm (A.au P).2 M R/\∀m,(A.au P).2.bs m=if m∈A.Ai then P.bs m else none:=by
 have⟨h1,h2,h3⟩:=Cm.aK (N:=M) (A.aV P) (E.af (by omega) (Ao _)) (X0 Hf E.cH) λm d=>(Jl.1 d).1
 refine⟨h1,h2,λm=>?_⟩;show (PD.aK (A.aV P) P).2.bs m=_;rw[h3];by_cases d:m∈A.Ai
 ·rw[Aa (λh=>(Jl.1 h).2 d),Ae d]
 ·rw[Aa d];by_cases z:P.bs m=none
  ·rw[z];simp
  ·rw[Ae (Jl.2 ⟨z,d⟩)]
def Cm.ah(hc:Cm P (N+4) R)(first:Int)(sd:gh Int)(z:P.bs Bm=none)(hR:12+8*sd.length<=R):
 (P.ah first sd).1=0/\Cm (P.ah first sd).2 N (R-(12+8*sd.length))/\∀m,(P.ah first sd).2.bs m=if m=Ay then some (AS (AB Ay) (Cl first sd)) else P.bs m:=by
 have I:(Cl first sd).length=8+8*sd.length:=by unfold Cl;rw[AY,CQ,JB]
 obtain⟨L,O,E⟩:=Cm.aH (N:=N+1) hc z (by simp[Bm]) (AB Ay) (Cl first sd) (by omega);obtain⟨H,W,Y⟩:=Cm.fE (N:=N) (nm:=Ay) O (by rw[E,Ae rfl]) (by simp[Ay]) JA.symm;unfold PD.ah;rw[Aa (by simp[L])];refine⟨H,by have:=W;rw[I]at this;exact this.af (Ao _) (by omega),λm=>?_⟩;rw[Y];by_cases h:m=Ay
 ·simp[h]
 ·rw[Aa h,Aa h];by_cases d:m=Bm
  ·rw[Ae d,d,z]
  ·rw[Aa d,E,Aa d]
def Lay.fW(h:Lay P A sg cl ol){x:Int×gh Pu}(d:x∈sg):P.bs (Aw x.1)≠none:=by rw[(h.BN x d).2];simp
def Lay.cP(h:Lay P A sg cl ol){x:Int×gh Pu}(d:x∈sg):isNum x.1=true:=h.DH.sd _ (by rw[<-h.sd];exact E5 d)
def Lay.cX(h:Lay P A sg cl ol){x:Int×gh Pu}(d:x∈sg):x.1<=A.A8:=h.Ep.2 _ (h.cP d) (h.fW d)
def Lay.aF(h:Lay P A sg cl ol){K:Nat}(W:gh (Int×gh Pu))(H:gh (gh Pu))(hc:Cm P (N+A.AN.length+K+3*H.length+8+A.j.Ak.length+sg.length+H.length) (R+Dr H+12+8*(W.length+H.length)))(hK:P.Ai.length<=K)(aA:∀x∈W,x∈sg)(aO:(W.map (·.1)).Pairwise (· < ·))(hf:∀l∈H,(∀p∈l,B8 p)/\Cw Cr l=true)(hn:isNum (A.j.A8+1)=true)(a1:A.A8+H.length<=4611686018427387904):
 (A.aF P (W.map (·.1)) H).1=0/\(A.aF P (W.map (·.1)) H).2.1=⟨⟨A.j.A8+1,(W++BW A.A8 H).map (·.1)⟩,⟨[],A.j.A8,0,none⟩,A.A8+H.length,[]⟩/\Cm (A.aF P (W.map (·.1)) H).2.2 N R/\
  Lay (A.aF P (W.map (·.1)) H).2.2 (A.aF P (W.map (·.1)) H).2.1 (W++BW A.A8 H) [] none/\
  (∀m,(A.aF P (W.map (·.1)) H).2.2.bs m≠none->m∈Ay::(W++BW A.A8 H).map λx=>Aw x.1):=by
 have⟨s1,s2,s3,s4,s5⟩:=h.C (N:=N+K+3*H.length+8+A.j.Ak.length+sg.length+H.length) (R:=R+Dr H+12+8*(W.length+H.length)) (hc.af (by omega) (Ao _));have aM:(({A with AN:=[]}:Ar).aV (A.C P).2.2).length<=K:=by
  refine AJ ?_ hK;refine Jp (X0 Hf s3.cH) λm L=>?_;rw[Es,<-s4];exact(Jl.1 L).1
 have⟨w1,w2,w3⟩:=Cm.au (A:={A with AN:=[]}) s3 (K:=K) (M:=N+3*H.length+8+A.j.Ak.length+sg.length+H.length) aM (by omega);have I:∀m,m∈({A with AN:=[]}:Ar).Ai↔m=Ay\/(∃n∈A.j.Ak,m=Af n)\/∃x∈sg,m=Aw x.1:=λm=>by
  unfold Ar.Ai;dsimp only
  rw[<-h.sd];simp[eq_comm]
 have aK:∀n,isNum n=true->A.A8<n->(({A with AN:=[]}:Ar).au (A.C P).2.2).2.bs (Aw n)=none:=λn hk hlt=>by
  rw[w3];split
  ·rw[s4];cases d:P.bs (Aw n) with
   | none=>rfl
   | some c=>have:=h.Ep.2 n hk (by rw[d];simp);omega
  ·rfl
 have⟨g1,g2,g3,g4,g5,g6⟩:=Cm.aj (N:=N+8+A.j.Ak.length+sg.length+H.length) (R:=R+12+8*(W.length+H.length)) H A.A8 (W.map (·.1)) (w2.af (by omega) (by omega)) h.Ep.1 a1 aK;generalize a3:(({A with AN:=[]}:Ar).au (A.C P).2.2).2=P1 at w3 aK g1 g2 g3 g4 g5 g6;generalize a4:(PD.aj H A.A8 (W.map (·.1)) P1).2.2.2=P2 at g4 g5 g6;obtain⟨Y,aD⟩:∃Y,W++BW A.A8 H=Y:=⟨_,rfl⟩;have aJ:Y.map (·.1)=W.map (·.1)++(BW A.A8 H).map (·.1):=by rw[<-aD,Ei]
 have aW:Y.length=W.length+H.length:=by rw[<-aD,AY,MU]
 have aP:P2.bs Bm=none:=by
  rw[g6 _ λx _=>(MI x.1).symm,w3,Aa];rw[I];rintro (e|⟨n,_,e⟩|⟨x,_,e⟩)
  ·exact JA e.symm
  ·exact LH n e.symm
  ·exact MI x.1 e.symm
 have aB:∀x∈Y,isNum x.1=true:=λx d=>by
  rw[<-aD]at d;rcases AU.1 d with d|d
  ·exact h.cP (aA x d)
  ·have:=GQ d;have:=h.Ep.1;unfold isNum;simp;omega
 have aY:∀x∈Y,x.1<=A.A8+H.length:=λx d=>by
  rw[<-aD]at d;rcases AU.1 d with d|d
  ·have:=h.cX (aA x d);omega
  ·have:=GQ d;omega
 have aH:(Y.map (·.1)).Pairwise (· < ·):=by
  rw[aJ];refine Ez.2 ⟨aO,Pl,λa ha b hb=>?_⟩;obtain⟨x,d,rfl⟩:=CC.1 ha;obtain⟨y,hy,rfl⟩:=CC.1 hb;have h1:=h.cX (aA x d);have h2:=GQ hy;omega
 have aF:∀x∈Y,((∀p∈x.2,B8 p)/\Cw Cr x.2=true)/\P2.bs (Aw x.1)=some (AS (AB (Aw x.1)) (Ci x.2)):=λx d=>by
  rw[<-aD]at d;rcases AU.1 d with d|d
  ·have a0:=h.BN x (aA x d);refine⟨a0.1,?_⟩;rw[g6 _ λy hy e=>?_,w3,Ae ((I _).2 (.inr (.inr ⟨x,aA x d,rfl⟩))),s4,a0.2];have h2:=GQ hy;have h3:=h.Ep.1;have:=Lz (h.cP (aA x d)) (by unfold isNum;simp;omega) e;have h1:=h.cX (aA x d);omega
  ·exact⟨hf _ (GQ d).2.2,g5 x d⟩
 have aN:∃aE,(({A with AN:=[],A8:=A.A8+H.length}:Ar).ah P2 (Y.map (·.1)))=(0,⟨⟨A.j.A8+1,Y.map (·.1)⟩,⟨[],A.j.A8,0,none⟩,A.A8+H.length,[]⟩,aE)/\Cm aE (N+4+A.j.Ak.length+sg.length+H.length) R/\((aE.bs Ay=none/\A.j.A8=0/\Y=[])\/aE.bs Ay=some (AS (AB Ay) (Cl (A.j.A8+1) (Y.map (·.1)))))/\∀m,m≠Ay->aE.bs m=P2.bs m:=by
  unfold Ar.ah;dsimp only
  by_cases z:A.ix.AZ=A.j.A8+1/\A.ix.sd=Y.map (·.1)
  ·rw[Ae z];have aR:cl=[]:=by
    cases aR:cl with
    | nil=>rfl
    | cons x r=>
     (have d:x∈cl:=by rw[aR];exact Bt ..);have h1:=h.EO.1 x d;have h2:=(h.CV x d).1.2;have:=z.1;omega
   have a2:ol=none:=by
    cases ol with
    | none=>rfl
    | some l=>have:=h.EO.2 (by simp);have:=z.1;omega
   subst aR a2;have hj:A.j=⟨[],A.j.A8,0,none⟩:=by
    have h1:=h.AE;have h2:=h.Gx;(have e:∀j:Jn,j.AE=none->j.Ak=[]->j.pd=0->j=⟨[],j.A8,0,none⟩:=λj a b c=>by cases j;simp_all);exact e _ h1.1 (by simpa using h1.2) (by simpa[Au] using h2)
   have hi:A.ix=⟨A.j.A8+1,Y.map (·.1)⟩:=by
    have e:∀i:Ix,i=⟨i.AZ,i.sd⟩:=λi=>rfl;rw[e A.ix,z.1,z.2]
   refine⟨P2,?_,g4.af (by omega) (by omega),?_,λ_ _=>rfl⟩
   ·conv=>lhs;rw[hj,hi]
   ·rw[g6 _ λx _=>(JZ x.1).symm,w3,Ae ((I _).2 (.inl rfl)),s4];rcases h.ix with⟨h1,h2⟩|h2
    ·rw[h2]at z;exact .inl ⟨h1,by have:=z.1;dsimp only at this;omega,by simpa using z.2⟩
    ·exact .inr (by rw[h2,z.1,z.2])
  ·rw[Aa z];have⟨t1,t2,t3⟩:=Cm.ah (N:=N+4+A.j.Ak.length+sg.length+H.length) (R:=R+12+8*Y.length) (g4.af (by omega) (by rw[aW];omega)) (A.j.A8+1) (Y.map (·.1)) aP (by simp);rw[Aa (by simp[t1])];refine⟨_,rfl,t2.af (Ao _) (by simp;omega),.inr (by rw[t3,Ae rfl]),λm L=>by rw[t3,Aa L]⟩
 obtain⟨aE,t1,t2,t3,t4⟩:=aN;have aV:∀m,aE.bs m≠none->m=Ay\/(∃n∈A.j.Ak,m=Af n)\/(∃x∈sg,m=Aw x.1)\/∃x∈BW A.A8 H,m=Aw x.1:=λm L=>by
  by_cases e:m=Ay
  ·exact .inl e
  ·rw[t4 m e]at L;by_cases e2:∃x∈BW A.A8 H,m=Aw x.1
   ·exact .inr (.inr (.inr e2))
   ·rw[g6 m λx d e3=>e2 ⟨x,d,e3⟩,w3]at L;by_cases e3:m∈({A with AN:=[]}:Ar).Ai
    ·rcases(I m).1 e3 with h|h|h
     ·exact .inl h
     ·exact .inr (.inl h)
     ·exact .inr (.inr (.inl h))
    ·rw[Aa e3]at L;exact absurd rfl L
 obtain⟨aG,aI⟩:∃aG:Ar,(⟨⟨A.j.A8+1,Y.map (·.1)⟩,⟨[],A.j.A8,0,none⟩,A.A8+H.length,[]⟩:Ar)=aG:=⟨_,rfl⟩;have E:∀m,m∈aG.Ai↔m=Ay\/∃x∈Y,m=Aw x.1:=λm=>by
  rw[<-aI];unfold Ar.Ai;dsimp only;simp[eq_comm]
 have aQ:(aG.aV aE).length<=1+A.j.Ak.length+sg.length+H.length:=by
  have h1:(aG.aV aE).length<=(Ay::(A.j.Ak.map Af++(sg.map (λx=>Aw x.1)++(BW A.A8 H).map λx=>Aw x.1))).length:=
   Jp (X0 Hf t2.cH) λm L=>by
    rcases aV m (Jl.1 L).1 with h|⟨n,h1,h2⟩|⟨n,h1,h2⟩|⟨n,h1,h2⟩
    ·subst h;exact Bt ..
    ·subst h2;exact Bp _ (FV _ (E5 h1))
    ·subst h2;exact Bp _ (Hr _ (FV _ (CC.2 ⟨n,h1,rfl⟩)))
    ·subst h2;exact Bp _ (Hr _ (Hr _ (CC.2 ⟨n,h1,rfl⟩)))
  simp only[Cg,AY,FW,MU]at h1;omega
 have⟨v1,v2,v3⟩:=Cm.au (A:=aG) (t2.af (N':=N+1+(1+A.j.Ak.length+sg.length+H.length)) (by omega) (Ao _)) aQ (M:=N+1) (by omega);have⟨d1,d2,d3⟩:=Cm.dc (N:=N) v2;obtain⟨aS,aX⟩:∃aS,(aG.au aE).2.av.2=aS:=⟨_,rfl⟩;have aZ:A.aF P (W.map (·.1)) H=(0,aG,aS):=by
  unfold Ar.aF;dsimp only
  rw[Aa (by simp[s1]),s2,Aa (by simp[w1]),a3];dsimp only
  rw[Aa (by simp[g1]),g2,g3,a4,<-aJ,t1,aI];dsimp only
  rw[Aa (by simp)];unfold Ar.a6;rw[Aa (by simp[v1]),d1,aX]
 rw[aX]at d2 d3;have O:∀m,aS.bs m=if m∈aG.Ai then aE.bs m else none:=λm=>by rw[d3,v3]
 have aL:∀x∈Y,aS.bs (Aw x.1)=some (AS (AB (Aw x.1)) (Ci x.2)):=λx d=>by
  rw[O,Ae ((E _).2 (.inr ⟨x,d,rfl⟩)),t4 _ (JZ _)];exact(aF x d).2
 have aU:aS.bs Ay=aE.bs Ay:=by rw[O,Ae ((E _).2 (.inl rfl))]
 rw[aZ];dsimp only
 rw[aD];refine⟨rfl,aI.symm,d2,?_,λm L=>?_⟩
 ·rw[<-aI];refine⟨⟨hn,λn L=>?_,IC.2 aH⟩,?_,rfl,λx d=>⟨(aF x d).1,aL x d⟩,λx d=>(by cases d),λx d=>(by cases d),⟨λx d=>(by cases d),λh=>absurd rfl h⟩,trivial,rfl,⟨rfl,rfl⟩,⟨h.EB.1,I0 _,λn hk d=>?_⟩,⟨by have:=h.Ep.1;dsimp only;omega,λn hk d=>?_⟩,λnm L=>(by cases L),List.Pairwise.nil,λnm L=>?_,λn hk _ d=>?_⟩
  ·obtain⟨x,d,rfl⟩:=CC.1 L;exact aB x d
  ·rw[aU];rcases t3 with⟨q1,q2,q3⟩|q
   ·exact .inl ⟨q1,by dsimp only;rw[q2,q3];rfl⟩
   ·exact .inr q
  ·rw[O,Aa]at d
   ·exact absurd rfl d
   ·rw[E];rintro (e|⟨x,_,e⟩)
    ·exact HD n e
    ·exact G8 n x.1 e
  ·rw[O]at d;split at d
   ·rename_i L;rcases(E _).1 L with e|⟨x,aT,e⟩
    ·exact absurd e (JZ n)
    ·have:=Lz hk (aB x aT) e;rw[this];exact aY x aT
   ·exact absurd rfl d
  ·rw[O]at L;split at L
   ·rename_i h2;rcases(E _).1 h2 with e|⟨x,d,e⟩
    ·subst e;rw[U7];simp
    ·subst e;rw[Pr (aB x d)];simp
   ·exact absurd rfl L
  ·rw[O,Aa]at d
   ·exact absurd rfl d
   ·rw[E];rintro (e|⟨x,_,e⟩)
    ·exact HD n e
    ·exact G8 n x.1 e
 ·rw[O]at L;split at L
  ·rename_i h2;rcases(E _).1 h2 with e|⟨x,d,e⟩
   ·subst e;exact Bt ..
   ·subst e;exact Bp _ (CC.2 ⟨x,d,rfl⟩)
  ·exact absurd rfl L
end
end
end Go.Proofs.YtodcnkbblippnaaGreatDoor
