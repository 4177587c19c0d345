/- Part 13 of a proof: walks of the program. -/
import Derived.Test.YtodcnkbblippnaaGreatDoorPart12
namespace Go.Proofs.YtodcnkbblippnaaGreatDoor
set_option maxRecDepth 100000
set_option maxHeartbeats 32000000
set_option linter.defProp false
open Go.Proofs.Tryz
section
open Go.RowKit
structure SI (bd:Int×Int) (A:Ar) (P:PD) (puts:List Pu) (Ac:Nat) (o:Int) (sg cl:List (Int×List Pu)) (ol:Option (List Pu)):Prop where
 di:DI bd P puts Ac o
 AV:Lay P A sg cl ol
 HI:∃nb,nb<=puts.length/\C9 o (Aw sg++Aw cl) (puts.take nb)/\ol.getD []=puts.drop nb/\(ol=none->Ac<=nb)
 Gy:∀m,(m=AI\/(∃x∈sg,m=AF x.1)\/∃x∈cl,m=Ae x.1)->∀c,P.fl m=some c->m∈A.AP\/C2 c
 AA:∀l,ol=some l->∃f,Ej bd P puts Ac o A.j.A9 f (Aw cl).length
 CP:(Aw cl).length<=1099511627776
 Ef:Hu bd A.ix sg/\A.j.A9<=bd.1/\A.A9<=bd.2
section
variable {bd:Int×Int} {P P':PD} {A:Ar} {sg cl:List (Int×List Pu)} {ol:Option (List Pu)} {puts:List Pu} {Ac:Nat} {o:Int}
def DI.DX(h:DI bd P puts Ac o)(nm:Bs)(c:FC)(z:P.fl nm=some c):0<=c.2/\c.2<=c.1.length:=by
 obtain⟨ix,sg,cl,lo,nb,d,_⟩:=h.DM _ h.CK;exact d.DX nm c z
def DI.Ax(h:DI bd P puts Ac o):∀nm,P.fl nm≠none->F6 bd nm:=by
 obtain⟨ix,sg,cl,lo,nb,d,_⟩:=h.DM _ h.CK;exact d.Ed
def Ej.a1{d:Int×Int}{n:Int}{f ahead:Nat}(h:Ej bd P puts Ac o n f ahead)(z:Hw bd d):Ej d P puts Ac o n f ahead:=
 ⟨h.1,λs E=>(h.2 s E).imp id λq=>⟨q.1,q.2.a1 z⟩⟩
def SI.a1{d:Int×Int}(h:SI bd A P puts Ac o sg cl ol)(z:Hw bd d):SI d A P puts Ac o sg cl ol:=
 ⟨h.di.a1 z,h.AV,h.HI,h.Gy,λl e=>by obtain⟨f,E⟩:=h.AA l e;exact⟨f,E.a1 z⟩,h.CP,h.Ef.1.a1 z,by have:=h.Ef.2.1;have:=z.1;omega,by have:=h.Ef.2.2;have:=z.2;omega⟩
def SI.Co(h:SI bd A P puts Ac o sg cl ol):C9 o (B6 sg cl ol) puts:=by
 obtain⟨nb,h1,d,z,_⟩:=h.HI;unfold B6;rw[<-Cc,z];have:puts=puts.take nb++puts.drop nb:=(DK _ _).symm
 conv=>rhs;rw[this]
 exact d.dE _
def SI.bw(h:SI bd A P puts Ac o sg cl ol):Reads bd P puts o:=⟨A,sg,cl,ol,h.AV,h.Co,h.Ef.1⟩
def SI.dI(h:SI bd A P puts Ac o sg cl ol):Ac<=puts.length:=by
 obtain⟨nb,O,_,_,I⟩:=h.HI;cases ol with
 | none=>exact AM (I rfl) O
 | some l=>
  obtain⟨f,H,L⟩:=h.AA l rfl;rcases L _ h.di.CK with d|⟨_,ix,sg',cl',l',nb',c,_,hnb,_,_,_,_,E,z⟩
  ·exact absurd rfl (d _ (E6 H))
  ·(have:EM c l'<=l'.length:=by unfold EM;omega);rw[z,Cu]at this;rw[z]at E;omega
def SI.dj(h:SI bd A P puts Ac o sg cl ol)(I:(A.C P).1=0):SI bd {A with AP:=[]} (A.C P).2.2 puts Ac o sg cl ol/\CW bd (A.C P).2.2.fl A.ix sg cl (ol.map λl=>(A.j.A9,l)):=by
 have X:=NJ A P;have d:=h.AV.aH X;have O:Lay (A.C P).2.2 {A with AP:=[]} sg cl ol:=⟨d.DC,d.ix,d.segs,d.Cw,d.CT,d.Jc,d.ED,d.Am,d.Gi,d.AA,d.EB,d.Em,λm E=>(by cases E),d.H5,d.Ed,d.Hf⟩;have H:=h.di.C (A:=A);have z:∀m,(m=AI\/(∃x∈sg,m=AF x.1)\/∃x∈cl,m=Ae x.1)->∀c,(A.C P).2.2.fl m=some c->C2 c:=λm E=>X0 I (h.Gy m E);exact⟨⟨H,O,h.HI,λm E c L=>.inr (z m E c L),λl e=>by obtain⟨f,W⟩:=h.AA l e;exact⟨f,W.C⟩,h.CP,h.Ef⟩,O.bu h.CP H.DX (λm c E L=>z m E c L) h.Ef.1 H.Ax⟩
def SI.dL(h:SI bd A P puts Ac o sg cl ol):DI bd (A.C P).2.2 puts Ac o/\Reads bd (A.C P).2.2 puts o:=⟨h.di.C,h.bw.aH (NJ A P)⟩
def A3f{P:PD}{nm:Bs}{f:Nat}{pc:Bs}(h:lookup P.D.A4 (A8 nm)=some f)(d:(P.an (A8 nm) pc).2.D.A4=P.D.A4):H7 P.D P.F (A8 nm) pc=decide (((((P.an (A8 nm) pc).2.F f).1.length:Int)-(P.F f).1.length)=pc.length):=by
 have e:H7 P.D P.F (A8 nm) pc=decide ((CC (P.an (A8 nm) pc).2.D (P.an (A8 nm) pc).2.F (A8 nm)).1-(CC P.D P.F (A8 nm)).1=pc.length):=rfl;rw[e];unfold CC;rw[d,h]
def SI.av{l:List Pu}(h:SI bd A P puts Ac o sg cl (some l))(p:Pu)(hp:Bi p):
 DI bd (A.j.av P p).2.2.2 (puts++[p]) Ac o/\((A.j.av P p).1=true->(∃f,Ej bd (A.j.av P p).2.2.2 (puts++[p]) Ac o A.j.A9 f (Aw cl).length)/\Reads bd (A.j.av P p).2.2.2 (puts++[p]) o)/\
  ((A.j.av P p).1=false->DI bd (A.j.av P p).2.2.2 puts Ac o/\Reads bd (A.j.av P p).2.2.2 puts o):=by
 obtain⟨f,hO⟩:=h.AA l rfl;obtain⟨h1,h2,h3,h4,h5⟩:=h.AV.AA;have hl:=hO.1;obtain⟨c,hc,W⟩:=Ik h3;have H:P.F f=c:=by unfold PD.fl at hc;rw[hl]at hc;simpa using hc
 rw[h.AV.Gi]at W h1;have L:(A.j.av P p).2.2.2=(P.an (A8 (Ae A.j.A9)) (AR (EY (Ae A.j.A9) ((Aw cl).length:Int) l) (Bc p.1 p.2.1 p.2.2))).2:=by
  unfold Jn.av;rw[h1];rfl
 have E:(A.j.av P p).1=H7 P.D P.F (A8 (Ae A.j.A9)) (AR (EY (Ae A.j.A9) ((Aw cl).length:Int) l) (Bc p.1 p.2.1 p.2.2)):=by
  unfold Jn.av;rw[h1];rfl
 obtain⟨pc,aA⟩:∃pc,AR (EY (Ae A.j.A9) ((Aw cl).length:Int) l) (Bc p.1 p.2.1 p.2.2)=pc:=⟨_,rfl⟩;have X:pc.length=21:=by rw[<-aA,Ez,EW]
 rw[aA]at L E;obtain⟨a1,a2,a3,Y⟩:=Is pc hl;have aF:=A3f (pc:=pc) hl a1;have hj:∃j,(P.an (A8 (Ae A.j.A9)) pc).2.F=upd P.F f (c.1++pc.take j,c.2)/\((A.j.av P p).1=true↔21<=j):=by
  rcases Y with Y|⟨j,Y⟩
  ·refine⟨0,by rw[Y];funext g;by_cases e:g=f<;>simp[upd,e,H],?_⟩;rw[E,aF,Y,X];simp
  ·refine⟨j,by rw[Y,H],?_⟩;rw[E,aF,Y,X,H];simp only[upd,Cg,AY,BU,X,DG];omega
 obtain⟨j,hF,I⟩:=hj;rw[<-L]at hF a1 a2 a3;rw[<-aA]at hF;obtain⟨b1,b2,b3⟩:=hO.an h.di H W p hp j a1 a2 a3 hF;refine⟨b1,λht=>?_,λht=>?_⟩
 ·have aB:=b2 (I.1 ht);refine⟨⟨f,aB⟩,?_⟩;rcases aB.2 _ b1.CK with z|⟨_,hw⟩
  ·exact absurd rfl (z _ (E6 aB.1))
  ·exact Whole.bw (hw.bC h.CP)
 ·have hj:j<21:=by
   by_cases d:21<=j
   ·rw[I.2 d]at ht;cases ht
   ·omega
  refine⟨b3 hj,?_⟩;have z:∀m,m≠Ae A.j.A9->(A.j.av P p).2.2.2.bs m=P.bs m:=λm hm=>by
   unfold PD.bs PD.fl;rw[a1,hF];cases hk:lookup P.D.A4 (A8 m) with
   | none=>rfl
   | some g=>
    have:g≠f:=λe=>hm (by
     have:=JM (h.di.Au _ h.di.CK) (E6 hk) (E6 hl) e
     exact FO.1 (Pv this).1)
    simp[upd,this]
  have aE:(A.j.av P p).2.2.2.bs (Ae A.j.A9)=some (DZ (Ae A.j.A9) ((Aw cl).length:Int) l++(AR (EY (Ae A.j.A9) ((Aw cl).length:Int) l) (Bc p.1 p.2.1 p.2.2)).take j):=by
   unfold PD.bs PD.fl;rw[a1,hl,hF];simp[upd,W]
  have aG:∀x∈cl,Ae x.1≠Ae A.j.A9:=λx d e=>h.AV.Jc x d (by simp) (FN (h.AV.CT x d).1.1 h5 e);have aD:ES (A.j.av P p).2.2.2 0 (cl++[(A.j.A9,l)]):=by
   refine(h.AV.Am.br λx d=>z _ (aG x d)).bU ?_;rw[Nb];exact Ou (by constructor<;>have:=h.CP<;>omega) h4 (by rw[BU];omega) aE
  refine⟨⟨A.ix,⟨A.j.Am,A.j.A9,((Aw (cl++[(A.j.A9,l)])).length:Int),none⟩,A.A9,[]⟩,sg,cl++[(A.j.A9,l)],none,?_,?_⟩
  ·refine⟨h.AV.DC,by rw[z _ (Hg _).symm];exact h.AV.ix,h.AV.segs,λx d=>by rw[z _ (FR _ x.1).symm];exact h.AV.Cw x d,λx d=>?_,λx _ d=>absurd rfl d,⟨λx d=>?_,λd=>absurd rfl d⟩,aD,rfl,⟨rfl,by dsimp only;rw[h2];simp⟩,
    ⟨h.AV.EB.1,h.AV.EB.2.1,λn O k2=>?_⟩,⟨h.AV.Em.1,λn O k2=>h.AV.Em.2 n O (by rwa [z _ (FR _ n).symm]at k2)⟩,λm hm=>(by cases hm),h.AV.H5,λm hm=>?_,λn O k2 k3=>?_⟩
   ·rcases AU.1 d with d|d
    ·exact h.AV.CT x d
    ·simp at d;subst d;exact⟨⟨h5,Hv _⟩,h4⟩
   ·rcases AU.1 d with d|d
    ·exact h.AV.ED.1 x d
    ·simp at d;subst d;exact h.AV.ED.2 (by simp)
   ·by_cases e:Ae n=Ae A.j.A9
    ·have:=FN O h5 e;rw[this];exact Hv _
    ·rw[z _ e]at k2;exact h.AV.EB.2.2 n O k2
   ·by_cases e:m=Ae A.j.A9
    ·subst e;rw[KP h5];simp
    ·rw[z _ e]at hm;exact h.AV.Ed m hm
   ·by_cases e:Ae n=Ae A.j.A9
    ·have:=FN O h5 e;subst this;show A.j.A9∈A.j.Am;rw[h2];simp
    ·rw[z _ e]at k3;exact h.AV.Hf n O k2 k3
  ·refine⟨?_,h.Ef.1⟩;have:=h.Co;unfold B6 at this ⊢;simpa[Aw] using this
end
section
variable {bd:Int×Int} {P P':PD} {A:Ar} {sg cl:List (Int×List Pu)} {ol:Option (List Pu)} {puts:List Pu} {Ac:Nat} {o:Int}
def SI.bu(h:SI bd A P puts Ac o sg cl ol)(d:A.AP=[]):CW bd P.fl A.ix sg cl (ol.map λl=>(A.j.A9,l)):=
 h.AV.bu h.CP h.di.DX (λm c z E=>(h.Gy m z c E).resolve_left (by rw[d];simp)) h.Ef.1 h.di.Ax
def SI.dC(h:SI bd A P puts Ac o sg cl none):C9 o (Aw sg++Aw cl) puts:=by
 have:=h.Co;unfold B6 at this;simpa using this
def SI.au(h:SI bd A P puts Ac o sg cl none)(aB:A.AP=[])(X:isNum (A.j.A9+1)=true)(H:A.j.A9+1<=bd.1):
 (DI bd (A.j.au P).2.2 puts Ac o/\Reads bd (A.j.au P).2.2 puts o)/\((A.j.au P).1=0->SI bd {A with j:=(A.j.au P).2.1} (A.j.au P).2.2 puts Ac o sg cl (some [])/\(A.j.au P).2.1.A9=A.j.A9+1):=by
 have hL:=h.bu aB;have E:∀x∈cl,x.1<A.j.A9+1:=λx W=>by have:=(h.AV.CT x W).1.2;omega
 have hf:=h.AV.EB.2.1;obtain⟨d1,d2⟩:=h.di.au (J:=A.j) hL h.dC h.dI X H hf E h.AV.Gi;obtain⟨b1,⟨j,b2⟩,b3⟩:=MF P A.j;have L:=Extra.fl h.di b1;refine⟨⟨d1,?_⟩,λd=>?_⟩
 ·rcases L with e|⟨h0,e⟩
  ·exact h.bw.aH λm=>by unfold PD.bs;rw[e]
  ·rw[b2,h.AV.Gi]at e;have hw:=(hL.dq h.dC h.dI X H hf E j (V':=(A.j.au P).2.2.fl) e).1;exact Whole.bw ⟨A.ix,sg,cl,some (A.j.A9+1,[]),hw.bu,h.CP,by simpa[EA] using h.dC⟩
 ·have I:=(AG.aN P).au (J:=A.j) (N:=4611686018427387900) (R:=4611686018427387904) (h.di.bj.aN.aa (by omega) (As _)) (by omega) d;obtain⟨s1,s2,s3,s4⟩:=I;have hq:=(h.AV.aH (P':=P.aN) λm=>((AG.aN P).bs m).symm).au (N:=4611686018427387900) (R:=4611686018427387904) (h.di.bj.aN.aa (by omega) (As _)) X (by omega);have O:Lay (A.j.au P).2.2 {A with j:=(A.j.au P).2.1} sg cl (some []):=by
   rw[s2];exact hq.2.2.1.aH λm=>s3.bs m
  have z:(A.j.au P).2.1.A9=A.j.A9+1:=by
   unfold Jn.au at d ⊢;split at d
   ·rename_i h1;exact absurd d h1
   ·rename_i h1;rw[Ad h1];dsimp only at d ⊢;split at d
    ·rename_i h2;exact absurd d h2
    ·rename_i h2;rw[Ad h2]
  refine⟨⟨d1,O,?_,λm hm c Y=>?_,λl e=>?_,h.CP,h.Ef.1,by dsimp only;rw[z];exact H,h.Ef.2.2⟩,z⟩
  ·obtain⟨nb,g1,g2,g3,g4⟩:=h.HI;exact⟨nb,g1,g2,g3,λe=>by cases e⟩
  ·
   have aA:m≠Ae (A.j.A9+1):=by
    rcases hm with rfl|⟨x,_,rfl⟩|⟨x,W,rfl⟩
    ·exact(Hg _).symm
    ·exact(FR _ x.1).symm
    ·intro e;have:=FN (h.AV.CT x W).1.1 X e;have:=E x W;omega
   rcases L with e|⟨h0,e⟩
   ·rw[e]at Y;exact h.Gy m hm c Y
   ·rw[e,Ad aA]at Y;exact h.Gy m hm c Y
  ·cases e;exact⟨_,by dsimp only;rw[z];exact d2 d⟩
def SI.eo{l:List Pu}(h:SI bd A P puts Ac o sg cl (some l))(p:Pu)(hp:Bi p)(X:(A.j.av P p).2.1=0):
 (A.j.av P p).1=true/\SI bd {A with j:=(A.j.av P p).2.2.1} (A.j.av P p).2.2.2 (puts++[p]) Ac o sg cl (some (l++[p])):=by
 obtain⟨s0,s1,s2,s3,s4⟩:=(AG.aN P).av (J:=A.j) (N:=4611686018427387900) (R:=4611686018427387904) (h.di.bj.aN.aa (by omega) (As _)) (by omega) p X;have hq:=(h.AV.aH (P':=P.aN) λm=>((AG.aN P).bs m).symm).av (N:=4611686018427387900) (R:=4611686018427387904) (h.di.bj.aN.aa (by omega) (As _)) p hp (by omega);have ht:(A.j.av P p).1=true:=by rw[s0];exact hq.1
 obtain⟨g1,g2,_⟩:=h.av p hp;have I:Lay (A.j.av P p).2.2.2 {A with j:=(A.j.av P p).2.2.1} sg cl (some (l++[p])):=by
  rw[s2];exact hq.2.2.2.aH λm=>s3.bs m
 have d:(A.j.av P p).2.2.1.A9=A.j.A9:=by unfold Jn.av;cases A.j.AA<;>rfl
 obtain⟨f,hO⟩:=(g2 ht).1;refine⟨ht,⟨g1,I,?_,λm hm c hc=>?_,λl' e=>⟨f,by dsimp only;rw[d];exact hO⟩,h.CP,h.Ef.1,by dsimp only;rw[d];exact h.Ef.2.1,h.Ef.2.2⟩⟩
 ·obtain⟨nb,Y,k2,k3,_⟩:=h.HI;refine⟨nb,by simp;omega,by rw[GP Y];exact k2,?_,λe=>by cases e⟩;rw[LB Y,<-k3];rfl
 ·
  obtain⟨h1,h2,h3,h4,h5⟩:=h.AV.AA;have L:m≠Ae A.j.A9:=by
   rcases hm with rfl|⟨x,_,rfl⟩|⟨x,hx,rfl⟩
   ·exact(Hg _).symm
   ·exact(FR _ x.1).symm
   ·intro e;exact h.AV.Jc x hx (by simp) (FN (h.AV.CT x hx).1.1 h5 e)
  obtain⟨f0,E⟩:=h.AA l rfl;have H:(A.j.av P p).2.2.2=(P.an (A8 (Ae A.j.A9)) (AR (EY (Ae A.j.A9) A.j.puts l) (Bc p.1 p.2.1 p.2.2))).2:=by
   unfold Jn.av;rw[h1];rfl
  obtain⟨a1,_,_,z⟩:=Is (AR (EY (Ae A.j.A9) A.j.puts l) (Bc p.1 p.2.1 p.2.2)) E.1;have W:(A.j.av P p).2.2.2.fl m=P.fl m:=by
   rw[H];unfold PD.fl;rw[a1];cases hk:lookup P.D.A4 (A8 m) with
   | none=>rfl
   | some g=>
    have O:g≠f0:=λe=>L (by
     have:=JM (h.di.Au _ h.di.CK) (E6 hk) (E6 E.1) e
     exact FO.1 (Pv this).1)
    rcases z with z|⟨j,z⟩
    ·rw[z]
    ·rw[z];simp[upd,O]
  rw[W]at hc;exact h.Gy m hm c hc
def SI.ad(h:SI bd A P puts Ac o sg cl ol)(hn:ol=none->isNum (A.j.A9+1)=true/\A.j.A9+1<=bd.1)(p:Pu)(L:Bi p):
 DI bd (A.ad P p).2.2.2 (puts++[p]) Ac o/\((A.ad P p).1=true->Reads bd (A.ad P p).2.2.2 (puts++[p]) o)/\((A.ad P p).1=false->DI bd (A.ad P p).2.2.2 puts Ac o/\Reads bd (A.ad P p).2.2.2 puts o)/\
  ((A.ad P p).2.1=0->(A.ad P p).1=true/\SI bd (A.ad P p).2.2.1 (A.ad P p).2.2.2 (puts++[p]) Ac o sg cl (some (ol.getD []++[p]))/\(A.ad P p).2.2.1.AP=[]):=by
 unfold Ar.ad;by_cases I:(A.C P).1=0
 ·rw[Ad (nn I)];dsimp only
  obtain⟨O,_⟩:=h.dj I;have hA:(A.C P).2.1 = {A with AP:=[]}:=by
   unfold Ar.C at I ⊢;split at I
   ·rename_i E;exact absurd I E
   ·rename_i E;rw[Ad E]
  rw[hA];dsimp only
  generalize (A.C P).2.2=P1 at O;cases ol with
  | none=>
   have z:=h.AV.AA.1;obtain⟨⟨W,b2⟩,b3⟩:=O.au rfl (hn rfl).1 (hn rfl).2;dsimp only at W b2 b3;by_cases E:(A.j.au P1).1=0
   ·obtain⟨c1,c2⟩:=b3 E;have e:A.j.ad P1 p=(A.j.au P1).2.1.av (A.j.au P1).2.2 p:=by
     unfold Jn.ad;rw[Ah z,Ad (nn E)]
    rw[e];obtain⟨d1,d2,d3⟩:=c1.av p L;refine⟨d1,λH=>(d2 H).2,d3,λd=>?_⟩;obtain⟨Y,X⟩:=c1.eo p L d;exact⟨Y,X,rfl⟩
   ·have e:A.j.ad P1 p=(false,(A.j.au P1).1,(A.j.au P1).2.1,(A.j.au P1).2.2):=by
     unfold Jn.ad;rw[Ah z,Ah E]
    rw[e];exact⟨W.cc [p],λH=>(by cases H),λ_=>⟨W,b2⟩,λd=>absurd d E⟩
  | some l=>
   (have z:¬A.j.AA=none:=by rw[h.AV.AA.1];simp);(have e:A.j.ad P1 p=A.j.av P1 p:=by unfold Jn.ad;rw[Ad z]);rw[e];obtain⟨d1,d2,d3⟩:=O.av p L;refine⟨d1,λH=>(d2 H).2,d3,λd=>?_⟩;obtain⟨Y,X⟩:=O.eo p L d;exact⟨Y,X,rfl⟩
 ·rw[Ah I];obtain⟨u1,u2⟩:=h.dL;exact⟨u1.cc [p],λH=>(by cases H),λ_=>⟨u1,u2⟩,λd=>absurd d I⟩
end
section
variable {bd:Int×Int} {P P':PD} {V V':View} {A:Ar} {ix:Ix} {sg cl:List (Int×List Pu)} {lo:Option (Int×List Pu)} {ol:Option (List Pu)} {puts:List Pu} {Ac:Nat} {o:Int}
def A04{c:FC}{nm:Bs}{a:Int}{l:List Pu}(d:C2 c)(h:c.1=DZ nm a l):EM c l=l.length:=by
 unfold EM;unfold C2 at d;rw[d,h,J4];have:((12+21*l.length:Nat):Int).toNat=12+21*l.length:=by omega
 rw[this];have:(12+21*l.length-12)/21=l.length:=by omega
 omega
def Qz(d:P.aJ.1=0):Bu P.aJ.2=[P.D.A4]/\P.aJ.2.D.A4=P.D.A4/\P.aJ.2.F=P.F/\P.aJ.2.D.Av=[]:=by
 unfold PD.aJ DH at d ⊢;dsimp only at d ⊢;rw[Ah d];exact⟨rfl,rfl,rfl,rfl⟩
def IJ(P:PD):P.aJ.2.fl=P.fl:=by
 unfold PD.aJ DH PD.fl;dsimp only
 split<;>rfl
def Ml(h:P'.fl=P.fl)(m:Bs):P'.bs m=P.bs m:=by unfold PD.bs;rw[h]
def DI.G7(h:DI bd P puts Ac o)(H:Bu P=[P.D.A4]){d:Nat}(E:Holds bd P.fl puts d o):DI bd P puts d o:=
 ⟨λs z=>by rw[H]at z;simp at z;subst z;exact E,h.Au,h.Cl,h.CK⟩
def SI.ae(h:SI bd A P puts Ac o sg cl ol):
 (DI bd (A.ae P).2.2 puts Ac o/\Reads bd (A.ae P).2.2 puts o)/\((A.ae P).1=0->SI bd (A.ae P).2.1 (A.ae P).2.2 puts puts.length o sg cl ol/\(A.ae P).2.1 = {A with AP:=[]}/\(A.ae P).2.2.D.Av=[]):=by
 unfold Ar.ae;by_cases W:(A.C P).1=0
 ·rw[Ad (nn W)];obtain⟨X,hL⟩:=h.dj W;have hA:(A.C P).2.1 = {A with AP:=[]}:=by
   unfold Ar.C at W ⊢;split at W
   ·rename_i L;exact absurd W L
   ·rename_i L;rw[Ad L]
  rw[hA];dsimp only
  generalize (A.C P).2.2=P1 at X hL;have hj:∃P2,A.j.ae P1=((A.j.ae P1).1,P2)/\DI bd P2 puts Ac o/\(∀m,P2.bs m=P1.bs m)/\(∀m,(∀c,P1.fl m=some c->C2 c)->∀c,P2.fl m=some c->C2 c)/\(∀l f,ol=some l->Ej bd P1 puts Ac o A.j.A9 f (Aw cl).length->Ej bd P2 puts Ac o A.j.A9 f (Aw cl).length)/\
   ((A.j.ae P1).1=0->∀l,ol=some l->∀c,P2.fl (Ae A.j.A9)=some c->C2 c):=by
   cases ol with
   | none=>
    (have e:A.j.ae P1=(0,P1):=by unfold Jn.ae;rw[h.AV.AA.1]);rw[e];exact⟨P1,rfl,X.di,λ_=>rfl,λm H=>H,λl f e=>(by cases e),λ_ l e=>(by cases e)⟩
   | some l=>
    (have e:A.j.ae P1=P1.ae (A8 (Ae A.j.A9)):=by unfold Jn.ae;rw[h.AV.AA.1]);rw[e];exact⟨_,rfl,X.di.cG _,λm=>NA P1 _ m,λm H c z=>Nz H z,λl f _ Y=>Y.cG _,λd l e c z=>Qw d c z⟩
  obtain⟨P2,e2,d2,b2,k2,o2,m2⟩:=hj;have r2:=X.bw.aH b2;rw[e2];dsimp only
  by_cases L:(A.j.ae P1).1=0
  ·rw[Ad (nn L)];dsimp only
   have d3:=d2.en;have r3:=r2.aH (Ml (IJ P2));refine⟨⟨d3,r3⟩,λd=>?_⟩;obtain⟨s1,s2,s3,s4⟩:=Qz d;have hb:∀m,P2.aJ.2.bs m=P1.bs m:=λm=>(Ml (IJ P2) m).trans (b2 m)
   have E:=X.AV.aH hb;have O:∀m,(m=AI\/(∃x∈sg,m=AF x.1)\/∃x∈cl,m=Ae x.1)->∀c,P2.aJ.2.fl m=some c->C2 c:=λm H c z=>by
    rw[IJ]at z;exact k2 m (λc z=>(X.Gy m H c z).resolve_left (by simp)) c z
   have aB:=E.bu h.CP d3.DX (λm c H z=>O m H c z) h.Ef.1 d3.Ax;(have aA:Bu P2.aJ.2=[P2.aJ.2.D.A4]:=by rw[s1,s2]);obtain⟨nb,n1,n2,n3,n4⟩:=h.HI;have I:∀l,ol=some l->∃f,Ej bd P2.aJ.2 puts puts.length o A.j.A9 f (Aw cl).length:=λl e=>by
    obtain⟨f,Y⟩:=X.AA l e;have aD:=o2 l f e Y;refine⟨f,by rw[s2];exact aD.1,λs hs=>?_⟩;rw[s1]at hs;simp at hs;subst hs;refine .inr ⟨aD.1,?_⟩;subst e;obtain⟨c,c1,c2⟩:=Ik E.AA.2.2.1;(have aE:C2 c:=by rw[IJ]at c1;exact m2 L l rfl c c1);(have hl:l=puts.drop nb:=by simpa using n3);(have ha:c.1=DZ (Ae A.j.A9) ((Aw cl).length:Int) l:=by rw[c2];dsimp only;rw[h.AV.Gi]);(have hv:vw P2.aJ.2.F P2.D.A4=P2.aJ.2.fl:=by rw[s3,IJ];rfl);rw[hv];refine⟨A.ix,sg,cl,l,nb,c,aB,n1,n2,c1,ha,rfl,?_,hl⟩;rw[A04 aE ha,hl,Cu];omega
   have hH:Holds bd P2.aJ.2.fl puts puts.length o:=by
    cases ol with
    | none=>
     have aF:nb=puts.length:=by
      (have:(puts.drop nb).length=0:=by rw[<-n3];rfl);rw[Cu]at this;omega
     exact Holds.bC aB (by rw[aF,C6]at n2;exact n2) (As _)
    | some l=>
     obtain⟨f,Y⟩:=I l rfl;rcases Y.2 P2.aJ.2.D.A4 (by rw[aA];simp) with hno|⟨_,hw⟩
     ·exact absurd rfl (hno _ (E6 Y.1))
     ·exact hw.cd
   refine⟨⟨d3.G7 aA hH,E,⟨nb,n1,n2,n3,λe=>?_⟩,λm H c z=>.inr (O m H c z),I,h.CP,h.Ef⟩,rfl,s4⟩;subst e;(have:(puts.drop nb).length=0:=by rw[<-n3];rfl);rw[Cu]at this;omega
  ·rw[Ah L];exact⟨⟨d2,r2⟩,λd=>absurd d L⟩
 ·rw[Ah W];exact⟨h.dL,λd=>absurd d W⟩
end
section
variable {bd:Int×Int} {P P':PD} {V V':View} {A:Ar} {ix:Ix} {sg cl:List (Int×List Pu)} {lo:Option (Int×List Pu)} {ol:Option (List Pu)} {puts:List Pu} {Ac:Nat} {o:Int}
def SI.by(h:SI bd A P puts Ac o sg cl ol)(hL:CW bd P.fl A.ix sg cl (ol.map λl=>(A.j.A9,l))):CX bd P.fl A.ix sg cl (ol.map λl=>(A.j.A9,l)) puts Ac o:=by
 obtain⟨nb,n1,n2,Y,n4⟩:=h.HI;refine⟨nb,hL,n1,n2,λn l e=>?_,λe=>?_⟩
 ·cases ol with
  | none=>cases e
  | some l0=>
   cases e;obtain⟨f,O⟩:=h.AA l rfl;rcases O.2 _ h.di.CK with E|⟨_,ix',sg',cl',l',I,c,_,hnb,_,g1,g2,_,g4,g5⟩
   ·exact absurd rfl (E _ (E6 O.1))
   ·(have W:l=puts.drop nb:=by simpa using Y);obtain⟨c2,X,e2⟩:=Ik h.AV.AA.2.2.1;have H:c2=c:=by
     have z:P.fl (Ae A.j.A9)=some c:=g1;rw[X]at z;simpa using z
    subst H;have d:l.length=l'.length:=by
     have:=Ei List.length (e2.symm.trans g2);rw[J4,J4]at this;omega
    have L:nb=I:=by
     rw[W,g5,Cu,Cu]at d;omega
    refine⟨c2,X,?_,by rw[W,C6]⟩;(have:EM c2 l=EM c2 l':=by unfold EM;rw[d]);rw[this,L];exact g4
 ·cases ol with
  | none=>exact n4 rfl
  | some l=>cases e
def SI.eS(h:SI bd A P puts Ac o sg cl ol):C9 o (Aw sg++Aw cl++EA (ol.map λl=>(A.j.A9,l))) puts:=by
 have:=h.Co;unfold B6 at this;cases ol<;>simpa[EA,List.append_assoc] using this
def CX.bC(h:CX bd V ix sg cl lo puts Ac o)(d:C9 o (Aw sg++Aw cl++EA lo) puts)(z:(Aw cl).length<=1099511627776):Whole bd V puts o:=⟨ix,sg,cl,lo,h.bu,z,d⟩
def CX.segs{h:List (Int×List Pu)}(E:CW bd V ix h [] none)(z:C9 o (Aw h) puts)(d:Ac<=puts.length):CX bd V ix h [] none puts Ac o:=
 ⟨puts.length,E,As _,by rw[C6];simpa[Aw] using z,λn l e=>(by cases e),λ_=>d⟩
def Sy:∀(fresh:List (List Pu)) (last:Int) (kept:List Int) {P:PD},DI bd P puts Ac o->0<=last->last+fresh.length<=4611686018427387904->last+fresh.length<=bd.2->(PD.ah fresh last kept P).1=0->
 (∀x∈BW last fresh,∀c,(PD.ah fresh last kept P).2.2.2.fl (AF x.1)=some c->C2 c)/\∀m,(∀x∈BW last fresh,m≠AF x.1)->(PD.ah fresh last kept P).2.2.2.fl m=P.fl m
 | [],last,kept,P,_,_,_,_,_=>⟨λx z=>(by cases z),λm _=>rfl⟩
 | l::r,last,kept,P,h,h0,h1,hb,hok=>by
  simp only[Cv]at h1 hb;have E:PD.ah (l::r) last kept P=if (P.aK (last+1) l).1≠0 then ((P.aK (last+1) l).1,last+1,kept,(P.aK (last+1) l).2) else PD.ah r (last+1) (kept++[last+1]) (P.aK (last+1) l).2:=rfl
  rw[E]at hok ⊢;by_cases I:(P.aK (last+1) l).1=0
  ·rw[Ad (nn I)]at hok ⊢;(have d:isNum (last+1)=true:=by unfold isNum;simp;omega);have hw:DI bd (P.aK (last+1) l).2 puts Ac o:=h.aI (.inr ⟨last+1,⟨d,by omega⟩,rfl⟩) _ _;obtain⟨i1,i2⟩:=Sy r (last+1) (kept++[last+1]) hw (by omega) (by omega) (by omega) hok;obtain⟨e1,e2⟩:=JZ P (AF (last+1)) (AE (AF (last+1))) (Cd l);obtain⟨e3,e4⟩:=e2 I;have O:∀x∈BW (last+1) r,AF (last+1)≠AF x.1:=λx z e=>by
    have z:=Gw z;have:=KK d (by unfold isNum;simp;omega) e;omega
   have X:=Extra.fl h e1;refine⟨λx z c L=>?_,λm hm=>?_⟩
   ·rcases BR.1 z with rfl|z
    ·rw[i2 _ O]at L;have:(P.aK (last+1) l).2.fl (AF (last+1))=some ((P.aK (last+1) l).2.F P.D.AS):=by
      unfold PD.fl;have Y:lookup (P.aK (last+1) l).2.D.A4 (A8 (AF (last+1)))=some P.D.AS:=e3;rw[Y];rfl
     rw[this]at L;cases L;exact e4
    ·exact i1 x z c L
   ·rw[i2 m λx z=>hm x (Bx _ z)];have W:=hm _ (BF ..);have H:(P.aK (last+1) l).2.fl=P.fl\/(P.fl (AF (last+1))=none/\∀m,(P.aK (last+1) l).2.fl m=if m=AF (last+1) then some ((P.aK (last+1) l).2.F P.D.AS) else P.fl m):=X;rcases H with e|⟨_,e⟩
    ·rw[e]
    ·rw[e,Ad W]
  ·rw[Ah I]at hok;exact absurd hok I
def VG{nm:Bs}{s:Nat}{l:Bs}(d:(P.aI nm s l).1=0):((P.aI nm s l).2.F P.D.AS).1=AR s l:=by
 unfold PD.aI at d ⊢;obtain⟨c1,c2⟩:=K0 P nm;by_cases H:(P.ai (A8 nm)).1=0
 ·rw[Ad (nn H)]at d ⊢;have L:=c2 H;by_cases E:((P.ai (A8 nm)).2.ad (A8 nm) s l).2.1=0
  ·rw[Ad (nn E)];(have O:(P.ai (A8 nm)).2.F P.D.AS=([],0):=by unfold PD.ai;simp[upd]);have W:=Uw (AR s l) L E;(have I:lookup ((P.ai (A8 nm)).2.an (A8 nm) (AR s l)).2.D.A4 (A8 nm)=some P.D.AS:=by rw[(Is (AR s l) L).1];exact L);have z:((P.ai (A8 nm)).2.ad (A8 nm) s l).2.2=((P.ai (A8 nm)).2.an (A8 nm) (AR s l)).2:=rfl;rw[z];obtain⟨_,_,_,h⟩:=II I;rcases h with h|h
   ·rw[h,W];simp[upd,O]
   ·rw[h,W];simp[upd,O]
  ·rw[Ah E]at d;exact absurd d E
 ·rw[Ah H]at d;exact absurd d H
def DI.cY(h:DI bd P puts Ac o)(hT:CX bd P.fl ix sg cl lo puts Ac o)(hW:C9 o (Aw sg++Aw cl++EA lo) puts)(aB:(Aw cl).length<=1099511627776){d:Int}{z:List (Int×List Pu)}(W:Hu bd ⟨d,z.map (·.1)⟩ z)(aD:∀x∈z,((∀p∈x.2,Bi p)/\Cx Cn x.2=true)/\∃c,P.fl (AF x.1)=some c/\C2 c/\c.1=AR (AE (AF x.1)) (Cd x.2))(Y:∀n,isNum n=true->d<=n->P.fl (Ae n)=none)(hs:C9 o (Aw z) puts)(O:Ac<=puts.length):
 DI bd (P.ag d (z.map (·.1))).2 puts Ac o/\Reads bd (P.ag d (z.map (·.1))).2 puts o/\((P.ag d (z.map (·.1))).1=0->CX bd (P.ag d (z.map (·.1))).2.fl ⟨d,z.map (·.1)⟩ z [] none puts Ac o):=by
 obtain⟨e1,e2⟩:=JZ P Bo (AE AI) (Ch d (z.map (·.1)));have d1:DI bd (P.aI Bo (AE AI) (Ch d (z.map (·.1)))).2 puts Ac o:=h.aI (.inl rfl) _ _;have t1:=hT.ef h e1 (.inl rfl);have aA:=Extra.fl h e1;unfold PD.ag;by_cases h1:(P.aI Bo (AE AI) (Ch d (z.map (·.1)))).1=0
 ·rw[Ad (nn h1)];obtain⟨e3,e4⟩:=e2 h1;have I:=VG h1;obtain⟨E,X⟩:∃E,(P.aI Bo (AE AI) (Ch d (z.map (·.1)))).2=E:=⟨_,rfl⟩;rw[X]at I;rw[X]at d1 t1 e3 e4 aA ⊢;have hV:CW bd (λm=>if m=AI then some (E.F P.D.AS) else if m=Bo then none else E.fl m) ⟨d,z.map (·.1)⟩ z [] none:=by
   have H:∀m,m≠Bo->E.fl m=P.fl m:=λm hm=>by
    rcases aA with e|⟨_,e⟩
    ·rw[e]
    ·rw[e,Ad hm]
   refine CW.fs (V:=E.fl) W ⟨e4,I⟩ (λx hx=>?_) (λn k1 k2=>?_) t1.bu.Ed t1.bu.DX λ_=>rfl
   ·rw[H _ (LU _)];exact aD x hx
   ·rw[H _ (KU _)];exact Y n k1 k2
  have hB:=CX.segs (Ac:=Ac) hV hs O;have d2:=d1.eW e3 hB.cd;obtain⟨a1,a2,a3⟩:=Rn (nw:=AI) d1.bj e3;have aE:=(t1.bC hW aB).bw;rcases a3 with⟨b1,b2,b3⟩|⟨b1,b2⟩
  ·refine⟨d2,aE.aH (Ml (by unfold PD.fl;rw[b1,a1])),λL=>absurd L b3⟩
  ·have hf:(E.aO (A8 Bo) (A8 AI)).2.fl=λm=>if m=AI then some (E.F P.D.AS) else if m=Bo then none else E.fl m:=by
    funext m
    (have:(E.aO (A8 Bo) (A8 AI)).2.fl m=vw E.F ((E.D.A4.filter λe=>decide (e.1≠A8 Bo/\e.1≠A8 AI))++[(A8 AI,P.D.AS)]) m:=by unfold PD.fl vw;rw[b1,a1]);rw[this,Qj J6.symm];rfl
   rw[<-hf]at hB;exact⟨d2,(hB.bC (by simpa[Aw,EA] using hs) (by simp[Aw])).bw,λ_=>hB⟩
 ·rw[Ah h1];exact⟨d1,(t1.bC hW aB).bw,λL=>absurd L h1⟩
end
section
variable {bd:Int×Int} {P P':PD} {A:Ar} {ix:Ix} {sg cl:List (Int×List Pu)} {lo:Option (Int×List Pu)} {ol:Option (List Pu)} {puts:List Pu} {Ac:Nat} {o:Int}
def XJ(h:FY P)(x m:Bs):(P.az (A8 x)).2.fl m=none\/(P.az (A8 x)).2.fl m=P.fl m:=by
 obtain⟨d,_,z⟩:=Rt h (A8 x);rcases z with⟨d1,_,_⟩|⟨d1,_⟩
 ·exact .inr (by unfold PD.fl;rw[d1,d])
 ·have:(P.az (A8 x)).2.fl m=vw P.F (P.D.A4.filter λe=>decide (e.1≠A8 x)) m:=by unfold PD.fl vw;rw[d1,d]
  rw[this,Qk];by_cases e:m=x
  ·exact .inl (by rw[Ah e])
  ·exact .inr (by rw[Ad e];rfl)
def Ru:∀(l:List Bs) {P:PD},DI bd P puts Ac o->CX bd P.fl ix sg cl lo puts Ac o->(∀m∈l,¬Km ix sg m)->∀m,(PD.aL l P).2.fl m=none\/(PD.aL l P).2.fl m=P.fl m
 | [],P,_,_,_,m=>.inr rfl
 | x::r,P,h,hT,hm,m=>by
  obtain⟨H,E⟩:=h.eg hT (hm x (BF ..));have d:=XJ h.bj x m;unfold PD.aL;split
  ·exact d
  ·rcases Ru r H E (λy z=>hm y (Bx _ z)) m with e|e
   ·exact .inl e
   ·rw[e];exact d
def Yu(L:CX bd P.fl A.ix sg cl lo puts Ac o)(E:A.j.Am=cl.map (·.1)++(lo.map (·.1)).toList)(d:sg.map (·.1)=A.ix.segs):∀m∈A.aU P,¬Km A.ix sg m:=λm h W=>by
 obtain⟨O,I⟩:=IU.1 h;refine I ?_;unfold Ar.Ax;rcases W with rfl|⟨x,X,rfl⟩|⟨n,Y,z,rfl⟩
 ·simp
 ·refine Ha _ (DT ?_);rw[<-d];exact DT X
 ·refine FE _ (Bx _ (DT ?_));rw[E];refine L.bu.Co n Y z λH=>O ?_;unfold PD.bs;rw[H];rfl
def SI.ay(h:SI bd A P puts Ac o sg cl ol)(H:List (Int×List Pu))(fresh:List (List Pu))(aF:∀x∈H,x∈sg)(aB:(H.map (·.1)).Pairwise (· < ·))(hf:∀l∈fresh,(∀p∈l,Bi p)/\Cx Cn l=true)(hn:isNum (A.j.A9+1)=true)(aA:A.A9+fresh.length<=4611686018427387904)(a2:∀l∈fresh,l≠[])(aL:A.A9+fresh.length<=bd.2)(hs:C9 o (Aw (H++BW A.A9 fresh)) puts)(hbig:A.AP.length+P.Ax.length+Di fresh+fresh.length+A.j.Am.length+sg.length+H.length<=1099511627776):
 (DI bd (A.ay P (H.map (·.1)) fresh).2.2 puts Ac o/\Reads bd (A.ay P (H.map (·.1)) fresh).2.2 puts o)/\
  ((A.ay P (H.map (·.1)) fresh).1=0->SI bd (A.ay P (H.map (·.1)) fresh).2.1 (A.ay P (H.map (·.1)) fresh).2.2 puts puts.length o (H++BW A.A9 fresh) [] none/\
    (A.ay P (H.map (·.1)) fresh).2.1=⟨⟨A.j.A9+1,(H++BW A.A9 fresh).map (·.1)⟩,⟨[],A.j.A9,0,none⟩,A.A9+fresh.length,[]⟩/\
    (∀m,(A.ay P (H.map (·.1)) fresh).2.2.bs m≠none->m∈AI::(H++BW A.A9 fresh).map λx=>AF x.1)/\(A.ay P (H.map (·.1)) fresh).2.2.D.Av=[]):=by
 have a0:P.aN.dl=P.Ax.length:=by rw[Hk];rfl
 have W:(A.ay P (H.map (·.1)) fresh).1=0->(A.ay P (H.map (·.1)) fresh).2.1=⟨⟨A.j.A9+1,(H++BW A.A9 fresh).map (·.1)⟩,⟨[],A.j.A9,0,none⟩,A.A9+fresh.length,[]⟩/\
  Lay (A.ay P (H.map (·.1)) fresh).2.2 (A.ay P (H.map (·.1)) fresh).2.1 (H++BW A.A9 fresh) [] none/\∀m,(A.ay P (H.map (·.1)) fresh).2.2.bs m≠none->m∈AI::(H++BW A.A9 fresh).map λx=>AF x.1:=λz=>by
  obtain⟨r1,r2,r3,r4⟩:=(AG.aN P).ay (A:=A) (N:=0) (R:=0) (H.map (·.1)) fresh (h.di.bj.aN.aa (by rw[a0];omega) (by simp;omega)) z;obtain⟨q1,q2,q3,q4,q5⟩:=(h.AV.aH (P':=P.aN) λm=>((AG.aN P).bs m).symm).ay (N:=0) (R:=0) (K:=P.Ax.length) H fresh (h.di.bj.aN.aa (by omega) (by omega)) (by rw[Hk,a0];exact As _) aF aB hf hn aA;refine⟨by rw[r2,q2],by rw[r2];exact q4.aH λm=>r3.bs m,λm hm=>q5 m (by rw[<-r3.bs];exact hm)⟩
 obtain⟨O,aG⟩:∃O,H++BW A.A9 fresh=O:=⟨_,rfl⟩;have aN:O.map (·.1)=H.map (·.1)++(BW A.A9 fresh).map (·.1):=by rw[<-aG,El]
 have aM:∀x∈O,x.2≠[]:=λx E=>by
  rw[<-aG]at E;rcases AU.1 E with E|E
  ·exact h.Ef.1.2.2 x (aF x E)
  ·exact a2 _ (Gw E).2.2
 rw[aG]at hs W ⊢;have key:∃t:Int×Ar×PD,A.ay P (H.map (·.1)) fresh=t/\(DI bd t.2.2 puts Ac o/\Reads bd t.2.2 puts o)/\(t.1=0->t.2.2.D.Av=[]/\Bu t.2.2=[t.2.2.D.A4]/\∃a1 L,CX bd t.2.2.fl a1 L [] none puts Ac o/\L.map (·.1)=O.map (·.1)/\C9 o (Aw L) puts):=by
  unfold Ar.ay;dsimp only
  by_cases h1:(A.C P).1=0
  ·rw[Ad (nn h1)];obtain⟨hS,hL⟩:=h.dj h1;have hA:(A.C P).2.1 = {A with AP:=[]}:=by
    unfold Ar.C at h1 ⊢;split at h1
    ·rename_i h2;exact absurd h1 h2
    ·rename_i h2;rw[Ad h2]
   have aD:=NJ A P;rw[hA];generalize (A.C P).2.2=P1 at hS hL aD;(have aV:=hS.by hL);have hall:=h.eS;have hj:({A with AP:=[]}:Ar).j.Am=cl.map (·.1)++(Option.map (·.1) (ol.map λl=>(A.j.A9,l))).toList:=by
    dsimp only
    rw[h.AV.bS];cases ol<;>simp[shut]
   have a3:=Yu (A:={A with AP:=[]}) aV hj h.AV.segs;obtain⟨d2,t2⟩:=hS.di.aq (A:={A with AP:=[]}) aV hj h.AV.segs;have Y:∀m,(({A with AP:=[]}:Ar).aq P1).2.fl m=none\/(({A with AP:=[]}:Ar).aq P1).2.fl m=P1.fl m:=Ru _ hS.di aV a3;generalize hP2:({A with AP:=[]}:Ar).aq P1=SW at d2 t2 Y ⊢;obtain⟨c2,P2⟩:=SW;dsimp only at d2 t2 Y ⊢;have r2:Reads bd P2 puts o:=(t2.bC hall h.CP).bw;by_cases h2:c2=0
   ·rw[Ad (nn h2)];have h0:=h.AV.Em.1;have d3:=DI.ah fresh A.A9 (H.map (·.1)) d2 h0 aA aL;have t3:=CX.ah fresh A.A9 (H.map (·.1)) d2 t2 h0 aA aL;have X:=Sy fresh A.A9 (H.map (·.1)) d2 h0 aA aL;have aP:∀n,isNum n=true->A.A9<n->P2.bs (AF n)=none:=λn k1 k2=>by
     rcases Y (AF n) with e|e
     ·unfold PD.bs;rw[e];rfl
     ·(have:P2.bs (AF n)=P.bs (AF n):=by unfold PD.bs;rw[e];have:=aD (AF n);unfold PD.bs at this;exact this);rw[this];cases E:P.bs (AF n) with
      | none=>rfl
      | some c=>have:=h.AV.Em.2 n k1 (by rw[E];simp);omega
    have aE:=λz=>AG.ah (N:=0) (R:=0) fresh A.A9 (H.map (·.1)) (AG.aN P2) (d2.bj.aN.aa (by omega) (by omega)) z;obtain⟨w1,w2,w3,w4,w5,w6⟩:=Cm.ah (N:=0) (R:=0) fresh A.A9 (H.map (·.1)) (d2.bj.aN.aa (by omega) (by omega)) h0 aA (λn k1 k2=>by rw[<- (AG.aN P2).bs];exact aP n k1 k2);generalize hP3:PD.ah fresh A.A9 (H.map (·.1)) P2=NS at d3 t3 X aE ⊢;obtain⟨c3,aO,aS,aZ⟩:=NS;dsimp only at d3 t3 X aE ⊢;have r3:=(t3.bC hall h.CP).bw;by_cases h3:c3=0
    ·rw[Ad (nn h3)];obtain⟨x1,x2,x3,x4,_⟩:=aE h3;obtain⟨y1,y2⟩:=X h3;(have aH:aO=A.A9+fresh.length:=by rw[x2,w2]);(have aI:aS=O.map (·.1):=by rw[x3,w3,aN]);rw[aH,aI];have aW:∀x∈O,isNum x.1=true:=λx E=>by
      rw[<-aG]at E;rcases AU.1 E with E|E
      ·exact h.AV.cZ (aF x E)
      ·have:=Gw E;unfold isNum;simp;omega
     have aJ:(O.map (·.1)).Pairwise (· < ·):=by
      rw[aN];refine Ek.2 ⟨aB,Of,λa ha b hb=>?_⟩;obtain⟨x,E,rfl⟩:=Ct.1 ha;obtain⟨y,hy,rfl⟩:=Ct.1 hb;have k1:=h.AV.dd (aF x E);have k2:=Gw hy;omega
     have aU:Hu bd ⟨A.j.A9+1,O.map (·.1)⟩ O:=⟨⟨hn,λn hm=>by obtain⟨x,E,rfl⟩:=Ct.1 hm;exact aW x E,IP.2 aJ⟩,by have:=h.Ef.2.1;dsimp only;omega,aM⟩;have aQ:∀x∈O,((∀p∈x.2,Bi p)/\Cx Cn x.2=true)/\∃c,aZ.fl (AF x.1)=some c/\C2 c/\c.1=AR (AE (AF x.1)) (Cd x.2):=λx E=>by
      rw[<-aG]at E;rcases AU.1 E with E|E
      ·exact t3.bu.Cw x (aF x E)
      ·refine⟨hf _ (Gw E).2.2,?_⟩;(have hb:aZ.bs (AF x.1)=some (AR (AE (AF x.1)) (Cd x.2)):=by rw[x4.bs];exact w5 x E);obtain⟨c,k1,k2⟩:=Ik hb;exact⟨c,k1,y1 x E c k1,k2⟩
     have aT:∀n,isNum n=true->A.j.A9+1<=n->aZ.fl (Ae n)=none:=λn k1 k2=>by
      rw[y2 _ λx _=>FR n x.1];rcases Y (Ae n) with e|e
      ·exact e
      ·rw[e];refine Ip.1 ?_;rw[aD];cases E:P.bs (Ae n) with
       | none=>rfl
       | some c=>have:=h.AV.EB.2.2 n k1 (by rw[E];simp);omega
     have aR:∃aY,∃c4,∃aK:Ar,(({A with AP:=[],A9:=A.A9+fresh.length}:Ar).ag aZ (O.map (·.1)))=(c4,aK,aY)/\DI bd aY puts Ac o/\Reads bd aY puts o/\(c4=0->aK.j.Am=[]/\∃L,CX bd aY.fl aK.ix L [] none puts Ac o/\L.map (·.1)=aK.ix.segs/\aK.ix.segs=O.map (·.1)/\C9 o (Aw L) puts):=by
      unfold Ar.ag;dsimp only
      by_cases I:A.ix.B7=A.j.A9+1/\A.ix.segs=O.map (·.1)
      ·rw[Ah I];have aX:cl=[]:=by
        cases aX:cl with
        | nil=>rfl
        | cons x r=>
         (have E:x∈cl:=by rw[aX];exact BF ..);have k1:=h.AV.ED.1 x E;have k2:=(h.AV.CT x E).1.2;have:=I.1;omega
       have a4:ol=none:=by
        cases ol with
        | none=>rfl
        | some l=>have:=h.AV.ED.2 (by simp);have:=I.1;omega
       subst aX a4;refine⟨aZ,0,_,rfl,d3,r3,λ_=>⟨?_,sg,t3,h.AV.segs,I.2,?_⟩⟩
       ·have:=h.AV.AA.2;simpa using this
       ·simpa[Aw,EA] using hall
      ·rw[Ad I];obtain⟨u1,u2,u3⟩:=d3.cY t3 hall h.CP aU aQ aT hs h.dI;by_cases h4:(aZ.ag (A.j.A9+1) (O.map (·.1))).1=0
       ·rw[Ad (nn h4)];exact⟨_,_,_,rfl,u1,u2,λ_=>⟨rfl,O,u3 h4,rfl,rfl,hs⟩⟩
       ·rw[Ah h4];exact⟨_,_,_,rfl,u1,u2,λz=>absurd z h4⟩
     obtain⟨aY,c4,aK,e4,d4,r4,k4⟩:=aR;rw[e4];dsimp only
     by_cases h4:c4=0
     ·rw[Ad (nn h4)];obtain⟨j1,L,j2,j3,j4,j5⟩:=k4 h4;obtain⟨d5,t5⟩:=d4.aq (A:=aK) j2 (by rw[j1];rfl) j3;unfold Ar.aY;generalize hP5:aK.aq aY=S5 at d5 t5 ⊢;obtain⟨c5,a5⟩:=S5;dsimp only at d5 t5 ⊢;have r5:=(t5.bC (by simpa[Aw,EA] using j5) (by simp[Aw])).bw;by_cases h5:c5=0
      ·rw[Ad (nn h5)];refine⟨_,rfl,⟨d5.en,r5.aH (Ml (IJ a5))⟩,λz=>?_⟩;obtain⟨s1,s2,s3,s4⟩:=Qz z;refine⟨s4,by dsimp only;rw[s1,s2],aK.ix,L,?_,by rw[j3,j4],j5⟩;dsimp only
       rw[IJ];exact t5
      ·rw[Ah h5];exact⟨_,rfl,⟨d5,r5⟩,λz=>absurd z h5⟩
     ·rw[Ah h4];exact⟨_,rfl,⟨d4,r4⟩,λz=>absurd z h4⟩
    ·rw[Ah h3];exact⟨_,rfl,⟨d3,r3⟩,λz=>absurd z h3⟩
   ·rw[Ah h2];exact⟨_,rfl,⟨d2,r2⟩,λz=>absurd z h2⟩
  ·rw[Ah h1];exact⟨_,rfl,h.dL,λz=>absurd z h1⟩
 obtain⟨t,ht,k1,k2⟩:=key;rw[ht]at W ⊢;refine⟨k1,λz=>?_⟩;obtain⟨g1,g2,g3⟩:=W z;obtain⟨m1,m2,a1,L,m3,m4,m5⟩:=k2 z;refine⟨⟨k1.1.G7 m2 (Holds.bC m3.bu (by simpa[Aw] using m5) (As _)),g2,⟨puts.length,As _,by rw[C6];simpa[Aw] using hs,by simp,λ_=>As _⟩,λm hm c hc=>.inr ?_,λl e=>(by cases e),by simp[Aw],⟨g2.DC,by rw[g1];have:=h.Ef.2.1;dsimp only;omega,aM⟩,by rw[g1];exact h.Ef.2.1,by rw[g1];exact aL⟩,g1,g3,m1⟩;rcases hm with rfl|⟨x,E,rfl⟩|⟨x,E,_⟩
 ·rcases m3.bu.Ii with⟨q1,_⟩|⟨d,q1,q2,_⟩
  ·rw[q1]at hc;cases hc
  ·rw[q1]at hc;cases hc;exact q2
 ·have:x.1∈L.map (·.1):=by rw[m4];exact DT E
  obtain⟨y,hy,e⟩:=Ct.1 this;obtain⟨_,d,q1,q2,_⟩:=m3.bu.Cw y hy;rw[e]at q1;rw[q1]at hc;cases hc;exact q2
 ·cases E
end
section
variable {bd:Int×Int} {P P':PD} {A:Ar} {ix:Ix} {sg cl:List (Int×List Pu)} {lo:Option (Int×List Pu)} {ol:Option (List Pu)} {puts:List Pu} {Ac:Nat} {o:Int} {Ai:Int}
def SI.aR(h:SI bd A P puts Ac o sg cl ol)(hw:BT (Az Ai))(hn:isNum (A.j.A9+1)=true){n:Nat}(hcount:(B6 sg cl ol).length<=n)(hn2:n<=1073741824)(hln:A.A9+n<=4611686018427387904)(hlb:A.A9+n<=bd.2)(hbig:A.AP.length+P.Ax.length+A.j.Am.length+2*sg.length<=1073741824):
 (DI bd (A.aR P Ai).2.2 puts Ac o/\Reads bd (A.aR P Ai).2.2 puts o)/\
  ((A.aR P Ai).1=0->∃z,SI bd (A.aR P Ai).2.1 (A.aR P Ai).2.2 puts puts.length o z [] none/\(A.aR P Ai).2.1=⟨⟨A.j.A9+1,z.map (·.1)⟩,⟨[],A.j.A9,0,none⟩,(A.aR P Ai).2.1.A9,[]⟩/\(A.aR P Ai).2.1.A9<=A.A9+n/\(Aw z).length<=n/\z.length<=sg.length+n/\
    (∀m,(A.aR P Ai).2.2.bs m≠none->m∈AI::z.map λx=>AF x.1)/\(A.aR P Ai).2.2.D.Av=[]):=by
 have O:(B6 sg cl ol).length=(Aw sg).length+(Aw cl++ol.getD []).length:=by unfold B6;rw[AY]
 have E:=h.AV.puts h.CP;have d:=Hj hw (Aw cl++ol.getD []);generalize L:Bz Ai (Aw cl++ol.getD [])=fresh at d;have hfl:=H6 d.ne;have hfl2:=d.B5;have hcost:=JC fresh;have e:A.aR P Ai=A.ay P (sg.map (·.1)) fresh:=by
  unfold Ar.aR;rw[E,Ad (by simp),L,h.AV.segs]
 have H:Aw (sg++BW A.A9 fresh)=Aw sg++fresh.flatten:=by
  have:=@KJ fresh A.A9;unfold Aw at this ⊢;rw[Vl,this]
 have I:C9 o (Aw (sg++BW A.A9 fresh)) puts:=by
  rw[H];refine C9.Ap (C9.eG (λk t _=>?_) (λp E=>?_) ?_) h.Co
  ·unfold B6;rw[Gx,Gx,d.A9]
  ·rcases AU.1 E with E|E
   ·exact FE _ E
   ·exact Ha _ (d.DB p E)
  ·rw[O,AY];omega
 obtain⟨r1,r2⟩:=h.ay sg fresh (λ_ h=>h) (IP.1 (by rw[h.AV.segs];exact h.AV.DC.EJ)) (λl X=>⟨λp E=>h.AV.b0 p (d.DB p (N0.2 ⟨l,X,E⟩)),d.EJ X⟩) hn (by omega) d.ne (by omega) I (by omega);rw[e];refine⟨r1,λW=>?_⟩;obtain⟨q1,Y,q3,q4⟩:=r2 W;refine⟨_,q1,by rw[Y],by rw[Y];dsimp only;omega,by rw[H,AY];omega,by rw[AY,M9];omega,q3,q4⟩
def SI.aQ(h:SI bd A P puts Ac o sg cl ol)(hw:BT (Az Ai))(hn:isNum (A.j.A9+1)=true){n:Nat}(hcount:(B6 sg cl ol).length<=n)(hn2:n<=1073741824)(hln:A.A9+n<=4611686018427387904)(hlb:A.A9+n<=bd.2)(hbig:A.AP.length+P.Ax.length+A.j.Am.length+2*sg.length<=1073741824):
 (DI bd (A.aQ P Ai o).2.2 puts Ac o/\Reads bd (A.aQ P Ai o).2.2 puts o)/\
  ((A.aQ P Ai o).1=0->∃aB,SI bd (A.aQ P Ai o).2.1 (A.aQ P Ai o).2.2 puts puts.length o aB [] none/\(A.aQ P Ai o).2.1=⟨⟨A.j.A9+1,aB.map (·.1)⟩,⟨[],A.j.A9,0,none⟩,(A.aQ P Ai o).2.1.A9,[]⟩/\(A.aQ P Ai o).2.1.A9<=A.A9+n/\
    (aB.map (·.2)).Perm (DQ o (Bz Ai (B6 sg cl ol)))/\(∀m,(A.aQ P Ai o).2.2.bs m≠none->m∈AI::aB.map λx=>AF x.1)/\(A.aQ P Ai o).2.2.D.Av=[]):=by
 have hl0:(B6 sg cl ol).length=(Aw sg).length+(Aw cl++ol.getD []).length:=by unfold B6;rw[AY]
 have I:=h.AV.puts h.CP;have d:=Hj hw (B6 sg cl ol);obtain⟨ws,aH⟩:∃ws,Bz Ai (B6 sg cl ol)=ws:=⟨_,rfl⟩;rw[aH]at d;obtain⟨k0,aG⟩:∃k0,G9 sg o ws=k0:=⟨_,rfl⟩;obtain⟨fresh,aI⟩:∃fresh,(BK sg o ws).2=fresh:=⟨_,rfl⟩;have z:=JR sg o ws;rw[aG,aI]at z;obtain⟨E,aJ⟩:∃E,k0.mergeSort (λx y=>decide (x.1<=y.1))=E:=⟨_,rfl⟩;have aA:E.Perm k0:=by rw[<-aJ];exact A3y _ _
 have aS:E.map (·.1)=((BK sg o ws).1).mergeSort λx y=>decide (x<=y):=by
  rw[JS,aG,<-aJ,A3D (s:=λx y:Int=>decide (x<=y))];intro a _ b _;rfl
 have L:∀x∈E,x∈sg/\x.2∈ws:=λx hx=>KV (by rw[aG];exact aA.mem_iff.1 hx);have aP:(DQ o ws).Nodup:=by
  have Y:(DQ o ws).Pairwise λw w'=>∀p∈w,∀q∈w',BB p.2.1 Ai<BB q.2.1 Ai:=d.Lf.sublist GS;have O:∀w∈DQ o ws,w≠[]:=λw hw=>d.ne w (UG hw);clear z;generalize DQ o ws=v at Y O
  induction v with
  | nil=>simp
  | cons w r ih=>
   have aO:=Db.1 Y;refine Kh.2 ⟨λhm=>?_,ih aO.2 λx hx=>O x (Bx _ hx)⟩;obtain⟨p,I⟩:=A3L w (O w (BF ..));have:=aO.1 w hm p I p I;omega
 have aN:(E.map (·.2)).Nodup:=by
  have Y:(k0.map (·.2)++fresh).Nodup:=z.nodup_iff.2 aP;have O:=(GC.1 Y).1;exact(aA.map (·.2)).nodup_iff.2 O
 have aL:(sg.map (·.1)).Pairwise (· < ·):=IP.1 (by rw[h.AV.segs];exact h.AV.DC.EJ);have aE:∀x∈sg,∀y∈sg,x.1=y.1->x=y:=λx hx y hy e=>by
  obtain⟨i,hi,rfl⟩:=DU hx;obtain⟨j,hj,rfl⟩:=DU hy;have I:=Kg.1 aL;rcases PF i j with W|W|W
  ·have:=I i j (by simpa using hi) (by simpa using hj) W;simp at this;omega
  ·subst W;rfl
  ·have:=I j i (by simpa using hj) (by simpa using hi) W;simp at this;omega
 have X:(E.map (·.1)).Pairwise (· < ·):=by
  have Y:E.Pairwise λx y=>x.1<=y.1:=by
   have:=Vd (le:=λx y:Int×List Pu=>decide (x.1<=y.1)) (λa b c Y O=>by simp at *;omega) (λa b=>by simp;omega) k0;rw[aJ]at this;(exact this.imp λh=>by simpa using h)
  have O:E.Pairwise λx y=>x.2≠y.2:=Ls.1 aN;rw[Ls];have h3:=Y.and O;refine A3P (λ{a b} ha hb aM=>?_) h3;rcases A3T aM.1 with h|h
  ·exact h
  ·exact absurd (Ei Prod.snd (aE a (L a ha).1 b (L b hb).1 h)) aM.2
 have aD:∀l∈fresh,l∈ws:=λl hl=>J5 (by rw[aI];exact hl);have H:(Aw E++fresh.flatten).Perm (DQ o ws).flatten:=by
  have Y:(E.map (·.2)++fresh).Perm (DQ o ws):=((aA.map (·.2)).append_right _).trans z;have O:=Y.flatten;rw[Vj]at O;have e:(E.map (·.2)).flatten=Aw E:=by unfold Aw;rw[Vk]
  rwa [e]at O
 have hfl:fresh.length<=fresh.flatten.length:=H6 λw hw=>d.ne w (aD w hw);have hcnt:fresh.flatten.length<=n:=by
  have Y:=H.length_eq;have O:(DQ o ws).flatten.length<=ws.flatten.length:=(JY _ ws).length_le;have h3:=d.B5;rw[AY]at Y;omega
 have hkl:E.length<=sg.length:=by
  have:(E.map (·.1)).length<=(sg.map (·.1)).length:=IX (X.imp λh=>Vw h) λx hx=>by
   obtain⟨y,hy,rfl⟩:=Ct.1 hx;exact DT (L y hy).1
  simpa using this
 have hcost:=JC fresh;have aF:∀p∈B6 sg cl ol,Bi p:=λp I=>by
  rcases AU.1 I with I|I
  ·exact h.AV.cX p I
  ·exact h.AV.b0 p I
 have e:A.aQ P Ai o=A.ay P (E.map (·.1)) fresh:=by
  unfold Ar.aQ;rw[h.AV.b8];dsimp only
  have e2:sg.flatMap (·.2)++(P.puts A.j.Am).1=B6 sg cl ol:=by rw[I];rfl
  rw[e2,aH,<-aS,aI,I,Ad (by simp)]
 have aQ:Aw (E++BW A.A9 fresh)=Aw E++fresh.flatten:=by
  have:=@KJ fresh A.A9;unfold Aw at this ⊢;rw[Vl,this]
 have aR:C9 o (Aw (E++BW A.A9 fresh)) puts:=by
  rw[aQ];refine C9.Ap (C9.eG (λk t ht=>?_) (λp I=>?_) ?_) h.Co
  ·rw[<- (d.dR o).ee H.symm k t,Te d o k t ht]
  ·exact d.DB p ((JY _ ws).subset (H.mem_iff.1 I))
  ·rw[H.length_eq];exact AM (JY _ ws).length_le d.B5
 obtain⟨r1,r2⟩:=h.ay E fresh (λx hx=>(L x hx).1) X (λl hl=>⟨λp I=>aF p (d.DB p (N0.2 ⟨l,aD l hl,I⟩)),d.EJ (aD l hl)⟩) hn (by omega) (λl hl=>d.ne l (aD l hl)) (by omega) aR (by omega);have aK:(BW A.A9 fresh).map (·.2)=fresh:=by
  have aT:∀(l:List (List Pu)) (a:Int),(BW a l).map (·.2)=l:=by
   intro l
   induction l with
   | nil=>intro a;rfl
   | cons x r ih=>intro a;simp[BW,ih]
  exact aT _ _
 rw[e,aH];refine⟨r1,λaF=>?_⟩;obtain⟨q1,q2,q3,q4⟩:=r2 aF;refine⟨_,q1,by rw[q2],by rw[q2];dsimp only;omega,?_,q3,q4⟩;rw[El,aK];exact((aA.map (·.2)).append_right _).trans z
def YM{l:List Pu}(h:Ar.aT P=.ok (A,l)):A.j.A9=(BQ A.ix.B7 P.Ax).getLastD (A.ix.B7-1)/\A.A9=(P.Ax.filterMap λnm=>if (Bf nm).1=2 then some (Bf nm).2 else none).getLastD 0/\A.j.AA=none:=by
 unfold Ar.aT at h;split at h
 ·cases h
 ·split at h
  ·cases h
  ·split at h
   ·cases h
   ·split at h
    ·cases h
    ·cases h;exact⟨rfl,rfl,rfl⟩
def TI{l:List Int}{d b:Int}(h:∀x∈l,x<=b)(z:d<=b):l.getLastD d<=b:=by
 rcases LA l with rfl|⟨r,x,rfl⟩
 ·exact z
 ·have e:(r.concat x).getLastD d=x:=by rw[Ki];simp
  rw[e];exact h x (by simp)
def DI.eY(h:DI bd P puts Ac o)(O:0<=bd.2){l:List Pu}(H:Ar.aT P=.ok (A,l))(hx:A.ix.B7<=bd.1+1):A.j.A9<=bd.1/\A.A9<=bd.2:=by
 obtain⟨L,I,_⟩:=YM H;have E:∀nm∈P.Ax,F6 bd nm:=λnm z=>h.Ax nm λe=>H0.1 z (Ip.2 e);rw[L,I];refine⟨TI (λx z=>?_) (by omega),TI (λx z=>?_) O⟩
 ·unfold BQ at z;obtain⟨nm,d,e⟩:=Lw.1 z;split at e
  ·rename_i q;cases e;exact(E nm d).2.1 q.1
  ·cases e
 ·obtain⟨nm,d,e⟩:=Lw.1 z;split at e
  ·rename_i q;cases e;exact(E nm d).2.2 q
  ·cases e
def AG.aT{P Q:PD}(h:AG P Q):Ar.aT P=Ar.aT Q:=by
 unfold Ar.aT PD.a8 PD.bQ Ar.aX;simp only[h.aZ,h.Ax,h.segs,h.puts]
def SI.aT(L:DI bd P puts Ac o)(h0:0<=bd.2)(hr:Reads bd P puts o)(E:Ac<=puts.length)(hpl:puts.length<=1099511627776):
 ∃A' sg cl,Ar.aT P=.ok (A',B6 sg cl none)/\SI bd A' P puts Ac o sg cl none/\C9 o (B6 sg cl none) puts/\A'.AP=A'.aX P:=by
 obtain⟨A,sg,cl,ol,hL,hs,H⟩:=hr;have h:=hs.2.2;unfold B6 at h;rw[AY,AY]at h;have W:(Aw cl).length+(ol.getD []).length<=1099511627776:=by omega
 have Y:=hL.aH λm=>((AG.aN P).bs m).symm
 obtain⟨A',h1,h2,h3,h4,h5,h6⟩:=Y.aT L.bj.aN (by omega);have d:=(AG.aN P).aT;have hc:A'.aX P.aN=A'.aX P:=rfl;have z:=h2.aH λm=>(AG.aN P).bs m
 have hall:B6 sg (shut cl A.j.A9 ol) none=B6 sg cl ol:=by unfold B6;rw[NF];simp
 have I:C9 o (B6 sg (shut cl A.j.A9 ol) none) puts:=by rw[hall];exact hs
 refine⟨A',sg,_,by rw[d,hall];exact h1,⟨L,z,⟨puts.length,As _,by rw[C6];simpa[B6] using I,by simp,λ_=>E⟩,λm hm c O=>.inl ?_,λl e=>(by cases e),by rw[NF,AY];exact W,by rw[h3];exact H,L.eY h0 (by rw[d];exact h1) (by rw[h3];exact H.2.1)⟩,I,by rw[h6,hc]⟩;rw[h6,hc];unfold Ar.aX;refine GQ.2 ⟨H0.2 (by rw[Pk O];simp),?_⟩;simp only[DG];unfold Ar.Ax;rcases hm with rfl|⟨x,X,rfl⟩|⟨x,X,rfl⟩
 ·simp
 ·refine Ha _ (DT ?_);rw[<-z.segs];exact DT X
 ·refine FE _ (Bx _ (DT ?_));rw[z.AA.2];exact DT X
end
def Dw(a b:Int):Prop:=a=5\/a=6\/a=b
section
variable {P Q:PD} {N R:Nat} {A:Ar} {J:Jn}
def Sg{nm:ByteArray}(h:AG P Q)(z:Cm Q (N+1) R):Dw (P.ai nm).1 (Q.ai nm).1:=by
 have:=Gh P.D.n;unfold PD.ai CM;rw[h.A4];by_cases d:nm=ByteArray.empty\/B2 Q.D.A4 nm≥0
 ·rw[Ah d,Ah d];exact .inr (.inr rfl)
 ·rw[Ad d,Ad d];dsimp only
  rw[z.bg];rcases this with e|e
  ·exact .inr (.inr e)
  ·exact .inl e
def O9{nm:ByteArray}(h:AG P Q)(d:Cm Q (N+1) R):Dw (P.ae nm).1 (Q.ae nm).1:=by
 have:=Gh P.D.n;unfold PD.ae CA;rw[h.A4];cases lookup Q.D.A4 nm with
 | none=>exact .inr (.inr rfl)
 | some f=>
  dsimp only
  rw[d.bg];rcases this with e|e
  ·exact .inr (.inr e)
  ·exact .inl e
def S9(d:Cm Q (N+1) R):Dw P.aJ.1 Q.aJ.1:=by
 have:=Gh P.D.n;unfold PD.aJ DH;dsimp only
 rw[d.bg];rcases this with e|e
 ·exact .inr (.inr e)
 ·exact .inl e
def Yy{nm:ByteArray}(h:AG P Q)(z:Cm Q (N+1) R):Dw (P.az nm).1 (Q.az nm).1:=by
 have:=Gh P.D.n;unfold PD.az Dg;rw[h.A4];by_cases d:B2 Q.D.A4 nm<0
 ·rw[Ah d,Ah d];exact .inr (.inr rfl)
 ·rw[Ad d,Ad d];dsimp only
  rw[z.bg];rcases this with e|e
  ·exact .inr (.inr e)
  ·exact .inl e
def Yx{old nm:ByteArray}(h:AG P Q)(z:Cm Q (N+1) R):Dw (P.aO old nm).1 (Q.aO old nm).1:=by
 have:=Gh P.D.n;unfold PD.aO CQ;rw[h.A4];cases lookup Q.D.A4 old with
 | none=>exact .inr (.inr rfl)
 | some f=>
  dsimp only
  by_cases d:nm=ByteArray.empty
  ·rw[Ah d,Ah d];exact .inr (.inr rfl)
  ·rw[Ad d,Ad d];dsimp only
   rw[z.bg];rcases this with e|e
   ·exact .inr (.inr e)
   ·exact .inl e
def or_append{nm:ByteArray}{l:Bs}(h:AG P Q)(X:Cm Q (N+1) R)(O:l.length<=R):Dw (P.an nm l).1 (Q.an nm l).1:=by
 by_cases d:(P.an nm l).1=0
 ·exact .inr (.inr (by rw[d,(h.an X O d).1]))
 ·have L:=Gh P.D.n;have z:∀D F f x E,∀e:Int,e=0\/e=5->(BA D F f x E e).1=5\/(BA D F f x E e).1=6\/(BA D F f x E e).1=0:=λD F f x E e W=>by
   unfold BA;rcases W with rfl|rfl
   ·split
    ·exact .inr (.inl rfl)
    ·exact .inr (.inr rfl)
   ·split
    ·exact .inl rfl
    ·exact .inl rfl
  unfold PD.an Bp at d ⊢;rw[h.A4]at d ⊢;cases hx:lookup Q.D.A4 nm with
  | none=>exact .inr (.inr rfl)
  | some f=>
   rw[hx]at d;dsimp only at d ⊢;split at d
   ·rename_i I;rw[Ah I];rcases z {A4:=Q.D.A4,AO:=P.D.AO,Av:=P.D.Av,n:=(bg P.D.n).2.2} P.F f (A8 l) (A8 l).size _ L with e|e|e
    ·exact .inl e
    ·exact .inr (.inl e)
    ·exact absurd e d
   ·rename_i I;rw[Ad I];split at d
    ·rename_i H;rw[Ah H];rcases z {A4:=Q.D.A4,AO:=P.D.AO,Av:=P.D.Av,n:=(bg P.D.n).2.2} P.F f (A8 l) ((bg P.D.n).2.2.BJ % (A8 l).size) _ L with e|e|e
     ·exact .inl e
     ·exact .inr (.inl e)
     ·exact absurd e d
    ·rename_i H;rw[Ad H];rcases L with e|e
     ·exact absurd e d
     ·exact .inl e
def Ob{nm:Bs}{s:Nat}{l:Bs}(h:AG P Q)(z:Cm Q (N+1) R)(d:l.length+4<=R):Dw (P.ad (A8 nm) s l).2.1 (Q.ad (A8 nm) s l).2.1:=or_append (l:=AR s l) h z (by rw[Ez];exact d)
def Dw.bp{a b:Int}(h:Dw a b)(ha:¬a=0){c:Int}(d:b≠0->c=b):Dw a c:=by
 rcases h with e|e|e
 ·exact .inl e
 ·exact .inr (.inl e)
 ·exact .inr (.inr (by rw[d (by omega)];exact e))
def S8{nm:Bs}{s:Nat}{l:Bs}(h:AG P Q)(O:Cm Q (N+3) R)(H:l.length+4<=R):Dw (P.aI nm s l).1 (Q.aI nm s l).1:=by
 unfold PD.aI;by_cases z:(P.ai (A8 nm)).1=0
 ·obtain⟨X,I,L⟩:=h.ai (N:=N+2) O z;rw[Ad (nn z),Ad (nn X)];by_cases d:((P.ai (A8 nm)).2.ad (A8 nm) s l).2.1=0
  ·obtain⟨-,W,Y,b3⟩:=I.bW (N:=N+1) (nm:=nm) (s:=s) (l:=l) L H d;rw[Ad (nn d),Ad (nn W)];exact O9 Y b3
  ·rw[Ah d];refine(Ob (N:=N+1) I L H).bp d λE=>?_;rw[Ah E]
 ·rw[Ah z];refine(Sg (N:=N+2) h O).bp z λE=>?_;rw[Ah E]
def Sa:∀(l:List Bs) {P Q:PD},AG P Q->Cm Q (N+l.length) R->Dw (PD.ax l P).1 (PD.ax l Q).1
 | [],_,_,_,_=>.inr (.inr rfl)
 | nm::r,P,Q,h,hc=>by
  have d:Cm Q (N+r.length+1) R:=hc.aa (by simp;omega) (As _);unfold PD.ax;by_cases z:(P.ae (A8 nm)).1=0
  ·obtain⟨H,I,L⟩:=h.ae d z;rw[Ad (nn z),Ad (nn H)];exact Sa r I L
  ·rw[Ah z];refine(O9 h d).bp z λE=>?_;rw[Ah E]
def Sd:∀(l:List Bs) {P Q:PD},AG P Q->Cm Q (N+l.length) R->Dw (PD.aL l P).1 (PD.aL l Q).1
 | [],_,_,_,_=>.inr (.inr rfl)
 | nm::r,P,Q,h,hc=>by
  have d:Cm Q (N+r.length+1) R:=hc.aa (by simp;omega) (As _);unfold PD.aL;by_cases z:(P.az (A8 nm)).1=0
  ·obtain⟨H,I,L⟩:=h.az d z;rw[Ad (nn z),Ad (nn H)];exact Sd r I L
  ·rw[Ah z];refine(Yy h d).bp z λE=>?_;rw[Ah E]
def Oa(h:AG P Q)(z:Cm Q (N+A.AP.length) R):Dw (A.C P).1 (A.C Q).1:=by
 unfold Ar.C;by_cases d:(PD.ax A.AP P).1=0
 ·obtain⟨H,_⟩:=AG.ax A.AP h z d;rw[Ad (nn d),Ad (nn H)];exact .inr (.inr rfl)
 ·rw[Ah d];refine(Sa A.AP h z).bp d λE=>?_;rw[Ah E]
def Sb(h:AG P Q)(d:Cm Q (N+(A.aU Q).length) R):Dw (A.aq P).1 (A.aq Q).1:=by
 unfold Ar.aq;rw[h.aU];exact Sd _ h d
def YD(h:AG P Q)(L:Cm Q (N+2) R)(hR:12<=R):Dw (J.au P).1 (J.au Q).1:=by
 unfold Jn.au;by_cases z:(P.ai (A8 (Ae (J.A9+1)))).1=0
 ·obtain⟨W,H,I⟩:=h.ai (N:=N+1) L z;rw[Ad (nn z),Ad (nn W)];dsimp only
  by_cases d:((P.ai (A8 (Ae (J.A9+1)))).2.ad (A8 (Ae (J.A9+1))) (AE (Ae (J.A9+1))) (AQ J.puts)).2.1=0
  ·obtain⟨-,O,_⟩:=H.bW (N:=N) (nm:=Ae (J.A9+1)) (s:=AE (Ae (J.A9+1))) (l:=AQ J.puts) I (by rw[CL];omega) d;rw[Ad (nn d),Ad (nn O)];exact .inr (.inr rfl)
  ·rw[Ah d];refine(Ob (N:=N) H I (by rw[CL];omega)).bp d λE=>?_;rw[Ah E]
 ·rw[Ah z];refine(Sg (N:=N+1) h L).bp z λE=>?_;rw[Ah E]
def Se(h:AG P Q)(d:Cm Q (N+1) R)(hR:21<=R)(p:Pu):Dw (J.av P p).2.1 (J.av Q p).2.1:=by
 unfold Jn.av;cases J.AA with
 | none=>exact .inr (.inr rfl)
 | some x=>exact Ob h d (by rw[EW];omega)
def YB(h:AG P Q)(z:Cm Q (N+3) R)(hR:33<=R)(p:Pu):Dw (J.ad P p).2.1 (J.ad Q p).2.1:=by
 unfold Jn.ad;split
 ·by_cases d:(J.au P).1=0
  ·obtain⟨I,L,O,E⟩:=h.au (N:=N+1) z (by omega) d;rw[Ad (nn d),Ad (nn I),L];exact Se O E (by omega) p
  ·rw[Ah d];refine(YD (N:=N+1) h z (by omega)).bp d λH=>?_;rw[Ah H]
 ·exact Se (N:=N+2) h z (by omega) p
def YG(h:AG P Q)(X:Cm Q (N+A.AP.length+3) R)(L:33<=R)(p:Pu):Dw (A.ad P p).2.1 (A.ad Q p).2.1:=by
 have d:Cm Q (N+3+A.AP.length) R:=X.aa (by omega) (As _);unfold Ar.ad;by_cases z:(A.C P).1=0
 ·obtain⟨I,O,W,E⟩:=h.C d z;rw[Ad (nn z),Ad (nn I),O];exact YB W E L p
 ·rw[Ah z];refine(Oa h d).bp z λH=>?_;rw[Ah H]
def YA(h:AG P Q)(d:Cm Q (N+1) R):Dw (J.ae P).1 (J.ae Q).1:=by
 unfold Jn.ae;cases J.AA with
 | none=>exact .inr (.inr rfl)
 | some x=>exact O9 h d
def YF(h:AG P Q)(hc:Cm Q (N+A.AP.length+2) R):Dw (A.ae P).1 (A.ae Q).1:=by
 have d:Cm Q (N+2+A.AP.length) R:=hc.aa (by omega) (As _);unfold Ar.ae;by_cases E:(A.C P).1=0
 ·obtain⟨W,X,L,I⟩:=h.C d E;rw[Ad (nn E),Ad (nn W),X];by_cases z:((A.C Q).2.1.j.ae (A.C P).2.2).1=0
  ·obtain⟨O,b2,Y⟩:=L.e0 (N:=N+1) I z;rw[Ad (nn z),Ad (nn O)];exact S9 Y
  ·rw[Ah z];refine(YA (N:=N+1) L I).bp z λH=>?_;rw[Ah H]
 ·rw[Ah E];refine(Oa h d).bp E λH=>?_;rw[Ah H]
def Sf:∀(fresh:List (List Pu)) (last:Int) (kept:List Int) {P Q:PD},AG P Q->Cm Q (N+3*fresh.length) (R+Di fresh)->Dw (PD.ah fresh last kept P).1 (PD.ah fresh last kept Q).1
 | [],_,_,_,_,_,_=>.inr (.inr rfl)
 | l::r,last,kept,P,Q,h,hc=>by
  have z:Di (l::r)=(17*l.length+4)+Di r:=by simp[Di]
  have hpl:(Cd l).length=17*l.length:=I2 l;have E:Cm Q (N+3*r.length+3) (R+Di r+((Cd l).length+4)):=hc.aa (by simp;omega) (by rw[z];omega);have d:∀X:PD,PD.ah (l::r) last kept X=if (X.aK (last+1) l).1≠0 then ((X.aK (last+1) l).1,last+1,kept,(X.aK (last+1) l).2) else PD.ah r (last+1) (kept++[last+1]) (X.aK (last+1) l).2:=λ_=>rfl
  rw[d,d];by_cases H:(P.aK (last+1) l).1=0
  ·obtain⟨Y,a2,W⟩:=AG.aI (N:=N+3*r.length) h E (by omega) H;have I:(Q.aK (last+1) l).1=0:=Y;rw[Ad (nn H),Ad (nn I)];exact Sf r (last+1) _ a2 (W.aa (As _) (by omega))
  ·rw[Ah H];refine(S8 (N:=N+3*r.length) h E (by omega)).bp H λO=>?_;have L:(Q.aK (last+1) l).1≠0:=O;rw[Ah L];rfl
def Yz{d:Int}{segs:List Int}(h:AG P Q)(E:Cm Q (N+4) R)(hR:12+8*segs.length<=R):Dw (P.ag d segs).1 (Q.ag d segs).1:=by
 have hl:(Ch d segs).length=8+8*segs.length:=by unfold Ch;rw[AY,CL,J7]
 unfold PD.ag;by_cases z:(P.aI Bo (AE AI) (Ch d segs)).1=0
 ·obtain⟨I,L,O⟩:=h.aI (N:=N+1) E (by omega) z;rw[Ad (nn z),Ad (nn I)];exact Yx L O
 ·rw[Ah z];refine(S8 (N:=N+1) h E (by omega)).bp z λH=>?_;rw[Ah H]
def YE{segs:List Int}(h:AG P Q)(E:Cm Q (N+4) R)(z:12+8*segs.length<=R):Dw (A.ag P segs).1 (A.ag Q segs).1:=by
 unfold Ar.ag;split
 ·exact .inr (.inr rfl)
 ·by_cases d:(P.ag (A.j.A9+1) segs).1=0
  ·obtain⟨I,_⟩:=h.cY E z d;rw[Ad (nn d),Ad (nn I)];exact .inr (.inr rfl)
  ·rw[Ah d];refine(Yz h E z).bp d λH=>?_;rw[Ah H]
def YC(h:AG P Q)(L:Cm Q (N+(A.aU Q).length+1) R):Dw (A.aY P).1 (A.aY Q).1:=by
 have d:Cm Q (N+1+(A.aU Q).length) R:=L.aa (by omega) (As _);unfold Ar.aY;by_cases z:(A.aq P).1=0
 ·obtain⟨H,a2,I⟩:=h.aq d z;rw[Ad (nn z),Ad (nn H)];exact S9 I
 ·rw[Ah z];refine(Sb h d).bp z λE=>?_;rw[Ah E]
def Sc(h:AG P Q)(kept:List Int)(fresh:List (List Pu))(hc:Cm Q (N+A.AP.length+2*Q.dl+4*fresh.length+8) (R+Di fresh+12+8*(kept.length+fresh.length))):Dw (A.ay P kept fresh).1 (A.ay Q kept fresh).1:=by
 have L:Cm Q (N+2*Q.dl+4*fresh.length+8+A.AP.length) (R+Di fresh+12+8*(kept.length+fresh.length)):=hc.aa (by omega) (As _);unfold Ar.ay;dsimp only
 by_cases X:(A.C P).1=0
 ·obtain⟨a1,a2,a3,a4⟩:=h.C L X;rw[Ad (nn X),Ad (nn a1),a2];have d1:(A.C Q).2.2.dl=Q.dl:=by unfold Ar.C;split<;>exact OX _ _
  have o1:=M7 (A.C Q).2.1 (A.C Q).2.2;have E:Cm (A.C Q).2.2 (N+Q.dl+4*fresh.length+8+((A.C Q).2.1.aU (A.C Q).2.2).length) (R+Di fresh+12+8*(kept.length+fresh.length)):=a4.aa (by omega) (As _);by_cases W:((A.C Q).2.1.aq (A.C P).2.2).1=0
  ·obtain⟨b1,b2,b3⟩:=a3.aq E W;(have d2:((A.C Q).2.1.aq (A.C Q).2.2).2.dl<=Q.dl:=by rw[<-d1];exact Mr _ _);rw[Ad (nn W),Ad (nn b1)];have I:Cm ((A.C Q).2.1.aq (A.C Q).2.2).2 (N+Q.dl+fresh.length+8+3*fresh.length) (R+12+8*(kept.length+fresh.length)+Di fresh):=b3.aa (by omega) (by omega);by_cases h3:(PD.ah fresh (A.C Q).2.1.A9 kept ((A.C Q).2.1.aq (A.C P).2.2).2).1=0
   ·obtain⟨c1,c2,c3,c4,c5⟩:=AG.ah fresh (A.C Q).2.1.A9 kept b2 I h3;obtain⟨d3,d4⟩:=K1 fresh (A.C Q).2.1.A9 kept ((A.C Q).2.1.aq (A.C Q).2.2).2;rw[Ad (nn h3),Ad (nn c1),c2,c3];obtain⟨A2,aB⟩:∃A2:Ar,({ (A.C Q).2.1 with A9:=(PD.ah fresh (A.C Q).2.1.A9 kept ((A.C Q).2.1.aq (A.C Q).2.2).2).2.1}:Ar)=A2:=⟨_,rfl⟩;rw[aB];obtain⟨sg,aA⟩:∃sg,(PD.ah fresh (A.C Q).2.1.A9 kept ((A.C Q).2.1.aq (A.C Q).2.2).2).2.2.1=sg:=⟨_,rfl⟩;rw[aA]at d4 ⊢;obtain⟨aD,H⟩:∃aD,(PD.ah fresh (A.C Q).2.1.A9 kept ((A.C Q).2.1.aq (A.C P).2.2).2).2.2.2=aD:=⟨_,rfl⟩;obtain⟨O,d⟩:∃O,(PD.ah fresh (A.C Q).2.1.A9 kept ((A.C Q).2.1.aq (A.C Q).2.2).2).2.2.2=O:=⟨_,rfl⟩;rw[H]at c4;rw[H,d];rw[d]at c4 c5 d3;clear H d aB aA h3 c1 c2 c3 W b1 b2 b3 X a1 a2 a3 a4 L E I;have Y:Cm O (N+Q.dl+fresh.length+4+4) (R+12+8*(kept.length+fresh.length)):=c5.aa (by omega) (As _);by_cases h4:(A2.ag aD sg).1=0
    ·obtain⟨e1,e2,e3,e4⟩:=c4.cD (A:=A2) (segs:=sg) Y (by omega) h4;have d5:=OY A2 O sg;rw[Ad (nn h4),Ad (nn e1),e2];have o2:=M7 (A2.ag O sg).2.1 (A2.ag O sg).2.2;exact YC (N:=N) e3 (e4.aa (by omega) (As _))
    ·rw[Ah h4];refine(YE c4 Y (by omega)).bp h4 λz=>?_;rw[Ah z]
   ·rw[Ah h3];refine(Sf fresh (A.C Q).2.1.A9 kept b2 I).bp h3 λz=>?_;rw[Ah z]
  ·rw[Ah W];refine(Sb a3 E).bp W λz=>?_;rw[Ah z]
 ·rw[Ah X];refine(Oa h L).bp X λz=>?_;rw[Ah z]
end
section
variable {bd:Int×Int} {P P':PD} {A:Ar} {sg cl:List (Int×List Pu)} {ol:Option (List Pu)} {puts:List Pu} {Ac:Nat} {o:Int}
def Dw.cP{a b:Int}(h:Dw a b)(d:b=0):a=0\/a=5\/a=6:=by
 rcases h with e|e|e
 ·exact .inr (.inl e)
 ·exact .inr (.inr e)
 ·exact .inl (e.trans d)
def SI.eX(h:SI bd A P puts Ac o sg cl ol)(E:ol=none->isNum (A.j.A9+1)=true)(p:Pu)(z:Bi p)(hll:A.AP.length<=1099511627776):(A.ad P p).2.1=0\/(A.ad P p).2.1=5\/(A.ad P p).2.1=6:=by
 have d:Cm P.aN (0+A.AP.length+3) 33:=h.di.bj.aN.aa (by omega) (by omega);refine(YG (AG.aN P) d (As _) p).cP ?_;exact((h.AV.aH (P':=P.aN) λm=>((AG.aN P).bs m).symm).ad d E p z (As _)).2.1
def SI.fW(h:SI bd A P puts Ac o sg cl ol)(hll:A.AP.length<=1099511627776):(A.ae P).1=0\/(A.ae P).1=5:=by
 have d:Cm P.aN (0+A.AP.length+2) 0:=h.di.bj.aN.aa (by omega) (by omega);have:=(YF (AG.aN P) d).cP ((h.AV.aH (P':=P.aN) λm=>((AG.aN P).bs m).symm).ae d).1;have h6:=Uv A P;omega
def SI.fR{Ai:Int}(h:SI bd A P puts Ac o sg cl ol)(I:BT (Az Ai))(Y:isNum (A.j.A9+1)=true){n:Nat}(hcount:(B6 sg cl ol).length<=n)(hn2:n<=1073741824)(z:A.A9+n<=4611686018427387904)(hbig:A.AP.length+P.Ax.length+A.j.Am.length+2*sg.length<=1073741824):(A.aR P Ai).1=0\/(A.aR P Ai).1=5\/(A.aR P Ai).1=6:=by
 have hl0:(B6 sg cl ol).length=(Aw sg).length+(Aw cl++ol.getD []).length:=by unfold B6;rw[AY]
 have W:=h.AV.aH (P':=P.aN) λm=>((AG.aN P).bs m).symm
 have L:=h.di.bj.aN;have H:P.aN.Ax.length<=1073741824:=by
  have e:P.aN.Ax=P.Ax:=rfl;rw[e];omega
 have O:=(W.aR I (N:=0) (R:=0) (K:=1073741824) (n:=n) (by omega) (by omega) H (by omega) (by omega) (by omega) (L.aa (by omega) (by omega)) Y z).1;refine Dw.cP (b:=(A.aR P.aN Ai).1) ?_ O;have X:=h.AV.puts h.CP;have d:=Hj I (Aw cl++ol.getD []);have hfl:=H6 d.ne;have hfl2:=d.B5;have hcost:=JC (Bz Ai (Aw cl++ol.getD []));have hsg:A.ix.segs.length=sg.length:=by rw[<-h.AV.segs,F9]
 have E:P.aN.dl=P.Ax.length:=by rw[Hk];rfl
 unfold Ar.aR;rw[<- (AG.aN P).puts,X,Ad (by simp),Ad (by simp)];exact Sc (N:=0) (R:=0) (AG.aN P) _ _ (L.aa (by rw[E];dsimp only;omega) (by dsimp only;omega))
def SI.fN{Ai:Int}(h:SI bd A P puts Ac o sg cl ol)(Y:BT (Az Ai))(hn:isNum (A.j.A9+1)=true){n:Nat}(z:(B6 sg cl ol).length<=n)(hn2:n<=1073741824)(O:A.A9+n<=4611686018427387904)(hbig:A.AP.length+P.Ax.length+A.j.Am.length+2*sg.length<=1073741824):(A.aQ P Ai o).1=0\/(A.aQ P Ai o).1=5\/(A.aQ P Ai o).1=6:=by
 have hl0:(B6 sg cl ol).length=(Aw sg).length+(Aw cl++ol.getD []).length:=by unfold B6;rw[AY]
 have hL:=h.AV.aH (P':=P.aN) λm=>((AG.aN P).bs m).symm
 have hc:Cm P.aN 4611686018427387904 4611686018427387904:=h.di.bj.aN;have X:P.aN.Ax.length<=1073741824:=by
  have e:P.aN.Ax=P.Ax:=rfl;rw[e];omega
 have hq:=(hL.aQ (oldest:=o) Y (N:=0) (R:=0) (K:=1073741824) (n:=n) z (by omega) X (by omega) (by omega) (by omega) (hc.aa (by omega) (by omega)) hn O).1;refine Dw.cP (b:=(A.aQ P.aN Ai o).1) ?_ hq;have hp:=h.AV.puts h.CP;have E:=Hj Y (B6 sg cl ol);have hfl2:=E.B5;have d:=JR sg o (Bz Ai (B6 sg cl ol));have L:=d.length_eq;have I:=d.flatten.length_eq;have hal:(DQ o (Bz Ai (B6 sg cl ol))).length<=(Bz Ai (B6 sg cl ol)).length:=Jj _ _;have H:=(JY (λl=>l.any λp=>decide (o<=p.2.1)) (Bz Ai (B6 sg cl ol))).length_le;have haf2:(DQ o (Bz Ai (B6 sg cl ol))).flatten.length<=(Bz Ai (B6 sg cl ol)).flatten.length:=H;have hfl:=H6 E.ne;have hcost:=JC (BK sg o (Bz Ai (B6 sg cl ol))).2;rw[AY,F9]at L;rw[Vj,AY]at I;have hks:(BK sg o (Bz Ai (B6 sg cl ol))).1.length=(G9 sg o (Bz Ai (B6 sg cl ol))).length:=by rw[JS,F9]
 have W:P.aN.dl=P.Ax.length:=by rw[Hk];rfl
 unfold Ar.aQ;rw[<- (AG.aN P).segs,h.AV.b8];dsimp only
 have e2:sg.flatMap (·.2)++(P.puts A.j.Am).1=B6 sg cl ol:=by rw[hp];rfl
 rw[<- (AG.aN P).puts,e2,hp,Ad (by simp),Ad (by simp)];exact Sc (N:=0) (R:=0) (AG.aN P) _ _ (hc.aa (by rw[W];omega) (by rw[N2];omega))
end
end
end Go.Proofs.YtodcnkbblippnaaGreatDoor
