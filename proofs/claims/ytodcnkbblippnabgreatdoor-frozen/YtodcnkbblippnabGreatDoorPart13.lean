/- Part 13 of a proof: walks of the program. -/
import Derived.Test.YtodcnkbblippnabGreatDoorPart12
namespace Go.Proofs.YtodcnkbblippnabGreatDoor
set_option maxRecDepth 100000
set_option maxHeartbeats 32000000
set_option linter.defProp false
open Go.Proofs.Tryz
section
open Go.RowKit
structure SI (bd:Int×Int) (A:Ar) (P:PD) (puts:List Pu) (Ad:Nat) (o:Int) (sg cl:List (Int×List Pu)) (ol:Option (List Pu)):Prop where
 di:DI bd P puts Ad o
 AX:Lay P A sg cl ol
 Hu:∃nb,nb<=puts.length/\C8 o (Aw sg++Aw cl) (puts.take nb)/\ol.getD []=puts.drop nb/\(ol=none->Ad<=nb)
 Gt:∀m,(m=AI\/(∃x∈sg,m=AG x.1)\/∃x∈cl,m=Ae x.1)->∀c,P.fl m=some c->m∈A.AN\/C2 c
 AF:∀l,ol=some l->∃f,Ef bd P puts Ad o A.j.A8 f (Aw cl).length
 CQ:(Aw cl).length<=1099511627776
 Ed:Hn bd A.ix sg/\A.j.A8<=bd.1/\A.A8<=bd.2
section
variable {bd:Int×Int} {P P':PD} {A:Ar} {sg cl:List (Int×List Pu)} {ol:Option (List Pu)} {puts:List Pu} {Ad:Nat} {o:Int}
def DI.DT(h:DI bd P puts Ad o)(nm:Bs)(c:FC)(z:P.fl nm=some c):0<=c.2/\c.2<=c.1.length:=by
 obtain⟨ix,sg,cl,lo,nb,d,_⟩:=h.Ds _ h.Co;exact d.DT nm c z
def DI.Ax(h:DI bd P puts Ad o):∀nm,P.fl nm≠none->EV bd nm:=by
 obtain⟨ix,sg,cl,lo,nb,d,_⟩:=h.Ds _ h.Co;exact d.Eb
def Ef.a6{d:Int×Int}{n:Int}{f ahead:Nat}(h:Ef bd P puts Ad o n f ahead)(z:Hq bd d):Ef d P puts Ad o n f ahead:=
 ⟨h.1,λs E=>(h.2 s E).imp id λq=>⟨q.1,q.2.a6 z⟩⟩
def SI.a6{d:Int×Int}(h:SI bd A P puts Ad o sg cl ol)(z:Hq bd d):SI d A P puts Ad o sg cl ol:=
 ⟨h.di.a6 z,h.AX,h.Hu,h.Gt,λl e=>by obtain⟨f,E⟩:=h.AF l e;exact⟨f,E.a6 z⟩,h.CQ,h.Ed.1.a6 z,by have:=h.Ed.2.1;have:=z.1;omega,by have:=h.Ed.2.2;have:=z.2;omega⟩
def SI.Cl(h:SI bd A P puts Ad o sg cl ol):C8 o (B6 sg cl ol) puts:=by
 obtain⟨nb,h1,d,z,_⟩:=h.Hu;unfold B6;rw[<-Cc,z];have:puts=puts.take nb++puts.drop nb:=(DO _ _).symm
 conv=>rhs;rw[this]
 exact d.dx _
def SI.bu(h:SI bd A P puts Ad o sg cl ol):Reads bd P puts o:=⟨A,sg,cl,ol,h.AX,h.Cl,h.Ed.1⟩
def SI.dA(h:SI bd A P puts Ad o sg cl ol):Ad<=puts.length:=by
 obtain⟨nb,O,_,_,I⟩:=h.Hu;cases ol with
 | none=>exact AQ (I rfl) O
 | some l=>
  obtain⟨f,H,L⟩:=h.AF l rfl;rcases L _ h.di.Co with d|⟨_,ix,sg',cl',l',nb',c,_,hnb,_,_,_,_,E,z⟩
  ·exact absurd rfl (d _ (E1 H))
  ·(have:EH c l'<=l'.length:=by unfold EH;omega);rw[z,CP]at this;rw[z]at E;omega
def SI.db(h:SI bd A P puts Ad o sg cl ol)(I:(A.C P).1=0):SI bd {A with AN:=[]} (A.C P).2.2 puts Ad o sg cl ol/\CU bd (A.C P).2.2.fl A.ix sg cl (ol.map λl=>(A.j.A8,l)):=by
 have Y:=Nj A P;have d:=h.AX.aI Y;have O:Lay (A.C P).2.2 {A with AN:=[]} sg cl ol:=⟨d.Dz,d.ix,d.segs,d.Cq,d.CO,d.IV,d.Ey,d.Aj,d.Gc,d.AF,d.Ew,d.Ei,λm E=>(by cases E),d.GU,d.Eb,d.H5⟩;have H:=h.di.C (A:=A);have z:∀m,(m=AI\/(∃x∈sg,m=AG x.1)\/∃x∈cl,m=Ae x.1)->∀c,(A.C P).2.2.fl m=some c->C2 c:=λm E=>Ww I (h.Gt m E);exact⟨⟨H,O,h.Hu,λm E c L=>.inr (z m E c L),λl e=>by obtain⟨f,W⟩:=h.AF l e;exact⟨f,W.C⟩,h.CQ,h.Ed⟩,O.bq h.CQ H.DT (λm c E L=>z m E c L) h.Ed.1 H.Ax⟩
def SI.dC(h:SI bd A P puts Ad o sg cl ol):DI bd (A.C P).2.2 puts Ad o/\Reads bd (A.C P).2.2 puts o:=⟨h.di.C,h.bu.aI (Nj A P)⟩
def A2F{P:PD}{nm:Bs}{f:Nat}{pc:Bs}(h:lookup P.D.A4 (A7 nm)=some f)(d:(P.an (A7 nm) pc).2.D.A4=P.D.A4):GW P.D P.F (A7 nm) pc=decide (((((P.an (A7 nm) pc).2.F f).1.length:Int)-(P.F f).1.length)=pc.length):=by
 have e:GW P.D P.F (A7 nm) pc=decide ((Cx (P.an (A7 nm) pc).2.D (P.an (A7 nm) pc).2.F (A7 nm)).1-(Cx P.D P.F (A7 nm)).1=pc.length):=rfl;rw[e];unfold Cx;rw[d,h]
def SI.aw{l:List Pu}(h:SI bd A P puts Ad o sg cl (some l))(p:Pu)(hp:Bg p):
 DI bd (A.j.aw P p).2.2.2 (puts++[p]) Ad o/\((A.j.aw P p).1=true->(∃f,Ef bd (A.j.aw P p).2.2.2 (puts++[p]) Ad o A.j.A8 f (Aw cl).length)/\Reads bd (A.j.aw P p).2.2.2 (puts++[p]) o)/\
  ((A.j.aw P p).1=false->DI bd (A.j.aw P p).2.2.2 puts Ad o/\Reads bd (A.j.aw P p).2.2.2 puts o):=by
 obtain⟨f,hO⟩:=h.AF l rfl;obtain⟨h1,h2,h3,h4,h5⟩:=h.AX.AF;have hl:=hO.1;obtain⟨c,hc,W⟩:=I7 h3;have H:P.F f=c:=by unfold PD.fl at hc;rw[hl]at hc;simpa using hc
 rw[h.AX.Gc]at W h1;have L:(A.j.aw P p).2.2.2=(P.an (A7 (Ae A.j.A8)) (AR (ES (Ae A.j.A8) ((Aw cl).length:Int) l) (Bb p.1 p.2.1 p.2.2))).2:=by
  unfold Jn.aw;rw[h1];rfl
 have E:(A.j.aw P p).1=GW P.D P.F (A7 (Ae A.j.A8)) (AR (ES (Ae A.j.A8) ((Aw cl).length:Int) l) (Bb p.1 p.2.1 p.2.2)):=by
  unfold Jn.aw;rw[h1];rfl
 obtain⟨pc,aA⟩:∃pc,AR (ES (Ae A.j.A8) ((Aw cl).length:Int) l) (Bb p.1 p.2.1 p.2.2)=pc:=⟨_,rfl⟩;have Y:pc.length=21:=by rw[<-aA,Eu,EP]
 rw[aA]at L E;obtain⟨a1,a2,a3,a4⟩:=Ie pc hl;have aF:=A2F (pc:=pc) hl a1;have hj:∃j,(P.an (A7 (Ae A.j.A8)) pc).2.F=upd P.F f (c.1++pc.take j,c.2)/\((A.j.aw P p).1=true↔21<=j):=by
  rcases a4 with a4|⟨j,a4⟩
  ·refine⟨0,by rw[a4];funext g;by_cases e:g=f<;>simp[upd,e,H],?_⟩;rw[E,aF,a4,Y];simp
  ·refine⟨j,by rw[a4,H],?_⟩;rw[E,aF,a4,Y,H];simp only[upd,Cg,AZ,BU,Y,DG];omega
 obtain⟨j,hF,I⟩:=hj;rw[<-L]at hF a1 a2 a3;rw[<-aA]at hF;obtain⟨b1,b2,b3⟩:=hO.an h.di H W p hp j a1 a2 a3 hF;refine⟨b1,λht=>?_,λht=>?_⟩
 ·have aB:=b2 (I.1 ht);refine⟨⟨f,aB⟩,?_⟩;rcases aB.2 _ b1.Co with z|⟨_,hw⟩
  ·exact absurd rfl (z _ (E1 aB.1))
  ·exact Whole.bu (hw.bB h.CQ)
 ·have hj:j<21:=by
   by_cases d:21<=j
   ·rw[I.2 d]at ht;cases ht
   ·omega
  refine⟨b3 hj,?_⟩;have z:∀m,m≠Ae A.j.A8->(A.j.aw P p).2.2.2.bs m=P.bs m:=λm hm=>by
   unfold PD.bs PD.fl;rw[a1,hF];cases hk:lookup P.D.A4 (A7 m) with
   | none=>rfl
   | some g=>
    have:g≠f:=λe=>hm (by
     have:=Jo (h.di.Aq _ h.di.Co) (E1 hk) (E1 hl) e
     exact FH.1 (P9 this).1)
    simp[upd,this]
  have aE:(A.j.aw P p).2.2.2.bs (Ae A.j.A8)=some (DV (Ae A.j.A8) ((Aw cl).length:Int) l++(AR (ES (Ae A.j.A8) ((Aw cl).length:Int) l) (Bb p.1 p.2.1 p.2.2)).take j):=by
   unfold PD.bs PD.fl;rw[a1,hl,hF];simp[upd,W]
  have aG:∀x∈cl,Ae x.1≠Ae A.j.A8:=λx d e=>h.AX.IV x d (by simp) (FG (h.AX.CO x d).1.1 h5 e);have aD:EK (A.j.aw P p).2.2.2 0 (cl++[(A.j.A8,l)]):=by
   refine(h.AX.Aj.bC λx d=>z _ (aG x d)).bV ?_;rw[MQ];exact O8 (by constructor<;>have:=h.CQ<;>omega) h4 (by rw[BU];omega) aE
  refine⟨⟨A.ix,⟨A.j.Aj,A.j.A8,((Aw (cl++[(A.j.A8,l)])).length:Int),none⟩,A.A8,[]⟩,sg,cl++[(A.j.A8,l)],none,?_,?_⟩
  ·refine⟨h.AX.Dz,by rw[z _ (H6 _).symm];exact h.AX.ix,h.AX.segs,λx d=>by rw[z _ (FK _ x.1).symm];exact h.AX.Cq x d,λx d=>?_,λx _ d=>absurd rfl d,⟨λx d=>?_,λd=>absurd rfl d⟩,aD,rfl,⟨rfl,by dsimp only;rw[h2];simp⟩,
    ⟨h.AX.Ew.1,h.AX.Ew.2.1,λn O k2=>?_⟩,⟨h.AX.Ei.1,λn O k2=>h.AX.Ei.2 n O (by rwa [z _ (FK _ n).symm]at k2)⟩,λm hm=>(by cases hm),h.AX.GU,λm hm=>?_,λn O k2 k3=>?_⟩
   ·rcases AV.1 d with d|d
    ·exact h.AX.CO x d
    ·simp at d;subst d;exact⟨⟨h5,Hp _⟩,h4⟩
   ·rcases AV.1 d with d|d
    ·exact h.AX.Ey.1 x d
    ·simp at d;subst d;exact h.AX.Ey.2 (by simp)
   ·by_cases e:Ae n=Ae A.j.A8
    ·have:=FG O h5 e;rw[this];exact Hp _
    ·rw[z _ e]at k2;exact h.AX.Ew.2.2 n O k2
   ·by_cases e:m=Ae A.j.A8
    ·subst e;rw[Kq h5];simp
    ·rw[z _ e]at hm;exact h.AX.Eb m hm
   ·by_cases e:Ae n=Ae A.j.A8
    ·have:=FG O h5 e;subst this;show A.j.A8∈A.j.Aj;rw[h2];simp
    ·rw[z _ e]at k3;exact h.AX.H5 n O k2 k3
  ·refine⟨?_,h.Ed.1⟩;have:=h.Cl;unfold B6 at this ⊢;simpa[Aw] using this
end
section
variable {bd:Int×Int} {P P':PD} {A:Ar} {sg cl:List (Int×List Pu)} {ol:Option (List Pu)} {puts:List Pu} {Ad:Nat} {o:Int}
def SI.bq(h:SI bd A P puts Ad o sg cl ol)(d:A.AN=[]):CU bd P.fl A.ix sg cl (ol.map λl=>(A.j.A8,l)):=
 h.AX.bq h.CQ h.di.DT (λm c z E=>(h.Gt m z c E).resolve_left (by rw[d];simp)) h.Ed.1 h.di.Ax
def SI.du(h:SI bd A P puts Ad o sg cl none):C8 o (Aw sg++Aw cl) puts:=by
 have:=h.Cl;unfold B6 at this;simpa using this
def SI.av(h:SI bd A P puts Ad o sg cl none)(aB:A.AN=[])(Y:isNum (A.j.A8+1)=true)(H:A.j.A8+1<=bd.1):
 (DI bd (A.j.av P).2.2 puts Ad o/\Reads bd (A.j.av P).2.2 puts o)/\((A.j.av P).1=0->SI bd {A with j:=(A.j.av P).2.1} (A.j.av P).2.2 puts Ad o sg cl (some [])/\(A.j.av P).2.1.A8=A.j.A8+1):=by
 have hL:=h.bq aB;have E:∀x∈cl,x.1<A.j.A8+1:=λx W=>by have:=(h.AX.CO x W).1.2;omega
 have hf:=h.AX.Ew.2.1;obtain⟨d1,d2⟩:=h.di.av (J:=A.j) hL h.du h.dA Y H hf E h.AX.Gc;obtain⟨b1,⟨j,b2⟩,b3⟩:=Mi P A.j;have L:=Extra.fl h.di b1;refine⟨⟨d1,?_⟩,λd=>?_⟩
 ·rcases L with e|⟨h0,e⟩
  ·exact h.bu.aI λm=>by unfold PD.bs;rw[e]
  ·rw[b2,h.AX.Gc]at e;have hw:=(hL.dd h.du h.dA Y H hf E j (V':=(A.j.av P).2.2.fl) e).1;exact Whole.bu ⟨A.ix,sg,cl,some (A.j.A8+1,[]),hw.bq,h.CQ,by simpa[Ev] using h.du⟩
 ·have I:=(AH.aR P).av (J:=A.j) (N:=4611686018427387900) (R:=4611686018427387904) (h.di.bh.aR.ad (by omega) (Au _)) (by omega) d;obtain⟨s1,s2,s3,s4⟩:=I;have hq:=(h.AX.aI (P':=P.aR) λm=>((AH.aR P).bs m).symm).av (N:=4611686018427387900) (R:=4611686018427387904) (h.di.bh.aR.ad (by omega) (Au _)) Y (by omega);have O:Lay (A.j.av P).2.2 {A with j:=(A.j.av P).2.1} sg cl (some []):=by
   rw[s2];exact hq.2.2.1.aI λm=>s3.bs m
  have z:(A.j.av P).2.1.A8=A.j.A8+1:=by
   unfold Jn.av at d ⊢;split at d
   ·rename_i h1;exact absurd d h1
   ·rename_i h1;rw[Ac h1];dsimp only at d ⊢;split at d
    ·rename_i h2;exact absurd d h2
    ·rename_i h2;rw[Ac h2]
  refine⟨⟨d1,O,?_,λm hm c hc=>?_,λl e=>?_,h.CQ,h.Ed.1,by dsimp only;rw[z];exact H,h.Ed.2.2⟩,z⟩
  ·obtain⟨nb,g1,g2,g3,g4⟩:=h.Hu;exact⟨nb,g1,g2,g3,λe=>by cases e⟩
  ·
   have aA:m≠Ae (A.j.A8+1):=by
    rcases hm with rfl|⟨x,_,rfl⟩|⟨x,W,rfl⟩
    ·exact(H6 _).symm
    ·exact(FK _ x.1).symm
    ·intro e;have:=FG (h.AX.CO x W).1.1 Y e;have:=E x W;omega
   rcases L with e|⟨h0,e⟩
   ·rw[e]at hc;exact h.Gt m hm c hc
   ·rw[e,Ac aA]at hc;exact h.Gt m hm c hc
  ·cases e;exact⟨_,by dsimp only;rw[z];exact d2 d⟩
def SI.ef{l:List Pu}(h:SI bd A P puts Ad o sg cl (some l))(p:Pu)(hp:Bg p)(Y:(A.j.aw P p).2.1=0):
 (A.j.aw P p).1=true/\SI bd {A with j:=(A.j.aw P p).2.2.1} (A.j.aw P p).2.2.2 (puts++[p]) Ad o sg cl (some (l++[p])):=by
 obtain⟨s0,s1,s2,s3,s4⟩:=(AH.aR P).aw (J:=A.j) (N:=4611686018427387900) (R:=4611686018427387904) (h.di.bh.aR.ad (by omega) (Au _)) (by omega) p Y;have hq:=(h.AX.aI (P':=P.aR) λm=>((AH.aR P).bs m).symm).aw (N:=4611686018427387900) (R:=4611686018427387904) (h.di.bh.aR.ad (by omega) (Au _)) p hp (by omega);have ht:(A.j.aw P p).1=true:=by rw[s0];exact hq.1
 obtain⟨g1,g2,_⟩:=h.aw p hp;have I:Lay (A.j.aw P p).2.2.2 {A with j:=(A.j.aw P p).2.2.1} sg cl (some (l++[p])):=by
  rw[s2];exact hq.2.2.2.aI λm=>s3.bs m
 have d:(A.j.aw P p).2.2.1.A8=A.j.A8:=by unfold Jn.aw;cases A.j.AF<;>rfl
 obtain⟨f,hO⟩:=(g2 ht).1;refine⟨ht,⟨g1,I,?_,λm hm c hc=>?_,λl' e=>⟨f,by dsimp only;rw[d];exact hO⟩,h.CQ,h.Ed.1,by dsimp only;rw[d];exact h.Ed.2.1,h.Ed.2.2⟩⟩
 ·obtain⟨nb,k1,k2,k3,_⟩:=h.Hu;refine⟨nb,by simp;omega,by rw[GI k1];exact k2,?_,λe=>by cases e⟩;rw[Lh k1,<-k3];rfl
 ·
  obtain⟨h1,h2,h3,h4,h5⟩:=h.AX.AF;have L:m≠Ae A.j.A8:=by
   rcases hm with rfl|⟨x,_,rfl⟩|⟨x,hx,rfl⟩
   ·exact(H6 _).symm
   ·exact(FK _ x.1).symm
   ·intro e;exact h.AX.IV x hx (by simp) (FG (h.AX.CO x hx).1.1 h5 e)
  obtain⟨f0,E⟩:=h.AF l rfl;have H:(A.j.aw P p).2.2.2=(P.an (A7 (Ae A.j.A8)) (AR (ES (Ae A.j.A8) A.j.puts l) (Bb p.1 p.2.1 p.2.2))).2:=by
   unfold Jn.aw;rw[h1];rfl
  obtain⟨a1,_,_,z⟩:=Ie (AR (ES (Ae A.j.A8) A.j.puts l) (Bb p.1 p.2.1 p.2.2)) E.1;have W:(A.j.aw P p).2.2.2.fl m=P.fl m:=by
   rw[H];unfold PD.fl;rw[a1];cases hk:lookup P.D.A4 (A7 m) with
   | none=>rfl
   | some g=>
    have O:g≠f0:=λe=>L (by
     have:=Jo (h.di.Aq _ h.di.Co) (E1 hk) (E1 E.1) e
     exact FH.1 (P9 this).1)
    rcases z with z|⟨j,z⟩
    ·rw[z]
    ·rw[z];simp[upd,O]
  rw[W]at hc;exact h.Gt m hm c hc
def SI.aa(h:SI bd A P puts Ad o sg cl ol)(hn:ol=none->isNum (A.j.A8+1)=true/\A.j.A8+1<=bd.1)(p:Pu)(L:Bg p):
 DI bd (A.aa P p).2.2.2 (puts++[p]) Ad o/\((A.aa P p).1=true->Reads bd (A.aa P p).2.2.2 (puts++[p]) o)/\((A.aa P p).1=false->DI bd (A.aa P p).2.2.2 puts Ad o/\Reads bd (A.aa P p).2.2.2 puts o)/\
  ((A.aa P p).2.1=0->(A.aa P p).1=true/\SI bd (A.aa P p).2.2.1 (A.aa P p).2.2.2 (puts++[p]) Ad o sg cl (some (ol.getD []++[p]))/\(A.aa P p).2.2.1.AN=[]):=by
 unfold Ar.aa;by_cases I:(A.C P).1=0
 ·rw[Ac (nn I)];dsimp only
  obtain⟨O,_⟩:=h.db I;have hA:(A.C P).2.1 = {A with AN:=[]}:=by
   unfold Ar.C at I ⊢;split at I
   ·rename_i E;exact absurd I E
   ·rename_i E;rw[Ac E]
  rw[hA];dsimp only
  generalize (A.C P).2.2=P1 at O;cases ol with
  | none=>
   have z:=h.AX.AF.1;obtain⟨⟨W,b2⟩,b3⟩:=O.av rfl (hn rfl).1 (hn rfl).2;dsimp only at W b2 b3;by_cases E:(A.j.av P1).1=0
   ·obtain⟨c1,c2⟩:=b3 E;have e:A.j.aa P1 p=(A.j.av P1).2.1.aw (A.j.av P1).2.2 p:=by
     unfold Jn.aa;rw[Af z,Ac (nn E)]
    rw[e];obtain⟨d1,d2,d3⟩:=c1.aw p L;refine⟨d1,λH=>(d2 H).2,d3,λd=>?_⟩;obtain⟨e1,Y⟩:=c1.ef p L d;exact⟨e1,Y,rfl⟩
   ·have e:A.j.aa P1 p=(false,(A.j.av P1).1,(A.j.av P1).2.1,(A.j.av P1).2.2):=by
     unfold Jn.aa;rw[Af z,Af E]
    rw[e];exact⟨W.ca [p],λH=>(by cases H),λ_=>⟨W,b2⟩,λd=>absurd d E⟩
  | some l=>
   (have z:¬A.j.AF=none:=by rw[h.AX.AF.1];simp);(have e:A.j.aa P1 p=A.j.aw P1 p:=by unfold Jn.aa;rw[Ac z]);rw[e];obtain⟨d1,d2,d3⟩:=O.aw p L;refine⟨d1,λH=>(d2 H).2,d3,λd=>?_⟩;obtain⟨e1,Y⟩:=O.ef p L d;exact⟨e1,Y,rfl⟩
 ·rw[Af I];obtain⟨u1,u2⟩:=h.dC;exact⟨u1.ca [p],λH=>(by cases H),λ_=>⟨u1,u2⟩,λd=>absurd d I⟩
end
section
variable {bd:Int×Int} {P P':PD} {V V':View} {A:Ar} {ix:Ix} {sg cl:List (Int×List Pu)} {lo:Option (Int×List Pu)} {ol:Option (List Pu)} {puts:List Pu} {Ad:Nat} {o:Int}
def A0N{c:FC}{nm:Bs}{a:Int}{l:List Pu}(d:C2 c)(h:c.1=DV nm a l):EH c l=l.length:=by
 unfold EH;unfold C2 at d;rw[d,h,IK];have:((12+21*l.length:Nat):Int).toNat=12+21*l.length:=by omega
 rw[this];have:(12+21*l.length-12)/21=l.length:=by omega
 omega
def Qa(d:P.aK.1=0):Bp P.aK.2=[P.D.A4]/\P.aK.2.D.A4=P.D.A4/\P.aK.2.F=P.F/\P.aK.2.D.As=[]:=by
 unfold PD.aK DC at d ⊢;dsimp only at d ⊢;rw[Af d];exact⟨rfl,rfl,rfl,rfl⟩
def Ir(P:PD):P.aK.2.fl=P.fl:=by
 unfold PD.aK DC PD.fl;dsimp only
 split<;>rfl
def LX(h:P'.fl=P.fl)(m:Bs):P'.bs m=P.bs m:=by unfold PD.bs;rw[h]
def DI.G2(h:DI bd P puts Ad o)(H:Bp P=[P.D.A4]){d:Nat}(E:Holds bd P.fl puts d o):DI bd P puts d o:=
 ⟨λs z=>by rw[H]at z;simp at z;subst z;exact E,h.Aq,h.Cb,h.Co⟩
def SI.ae(h:SI bd A P puts Ad o sg cl ol):
 (DI bd (A.ae P).2.2 puts Ad o/\Reads bd (A.ae P).2.2 puts o)/\((A.ae P).1=0->SI bd (A.ae P).2.1 (A.ae P).2.2 puts puts.length o sg cl ol/\(A.ae P).2.1 = {A with AN:=[]}/\(A.ae P).2.2.D.As=[]):=by
 unfold Ar.ae;by_cases W:(A.C P).1=0
 ·rw[Ac (nn W)];obtain⟨Y,hL⟩:=h.db W;have hA:(A.C P).2.1 = {A with AN:=[]}:=by
   unfold Ar.C at W ⊢;split at W
   ·rename_i L;exact absurd W L
   ·rename_i L;rw[Ac L]
  rw[hA];dsimp only
  generalize (A.C P).2.2=P1 at Y hL;have hj:∃P2,A.j.ae P1=((A.j.ae P1).1,P2)/\DI bd P2 puts Ad o/\(∀m,P2.bs m=P1.bs m)/\(∀m,(∀c,P1.fl m=some c->C2 c)->∀c,P2.fl m=some c->C2 c)/\(∀l f,ol=some l->Ef bd P1 puts Ad o A.j.A8 f (Aw cl).length->Ef bd P2 puts Ad o A.j.A8 f (Aw cl).length)/\
   ((A.j.ae P1).1=0->∀l,ol=some l->∀c,P2.fl (Ae A.j.A8)=some c->C2 c):=by
   cases ol with
   | none=>
    (have e:A.j.ae P1=(0,P1):=by unfold Jn.ae;rw[h.AX.AF.1]);rw[e];exact⟨P1,rfl,Y.di,λ_=>rfl,λm H=>H,λl f e=>(by cases e),λ_ l e=>(by cases e)⟩
   | some l=>
    (have e:A.j.ae P1=P1.ae (A7 (Ae A.j.A8)):=by unfold Jn.ae;rw[h.AX.AF.1]);rw[e];exact⟨_,rfl,Y.di.cy _,λm=>Na P1 _ m,λm H c z=>N9 H z,λl f _ hO=>hO.cy _,λd l e c z=>Q7 d c z⟩
  obtain⟨P2,e2,d2,b2,k2,o2,m2⟩:=hj;have r2:=Y.bu.aI b2;rw[e2];dsimp only
  by_cases L:(A.j.ae P1).1=0
  ·rw[Ac (nn L)];dsimp only
   have d3:=d2.ee;have r3:=r2.aI (LX (Ir P2));refine⟨⟨d3,r3⟩,λd=>?_⟩;obtain⟨s1,s2,s3,s4⟩:=Qa d;have hb:∀m,P2.aK.2.bs m=P1.bs m:=λm=>(LX (Ir P2) m).trans (b2 m)
   have E:=Y.AX.aI hb;have O:∀m,(m=AI\/(∃x∈sg,m=AG x.1)\/∃x∈cl,m=Ae x.1)->∀c,P2.aK.2.fl m=some c->C2 c:=λm H c z=>by
    rw[Ir]at z;exact k2 m (λc z=>(Y.Gt m H c z).resolve_left (by simp)) c z
   have aB:=E.bq h.CQ d3.DT (λm c H z=>O m H c z) h.Ed.1 d3.Ax;(have aA:Bp P2.aK.2=[P2.aK.2.D.A4]:=by rw[s1,s2]);obtain⟨nb,n1,n2,n3,n4⟩:=h.Hu;have I:∀l,ol=some l->∃f,Ef bd P2.aK.2 puts puts.length o A.j.A8 f (Aw cl).length:=λl e=>by
    obtain⟨f,hO⟩:=Y.AF l e;have aD:=o2 l f e hO;refine⟨f,by rw[s2];exact aD.1,λs hs=>?_⟩;rw[s1]at hs;simp at hs;subst hs;refine .inr ⟨aD.1,?_⟩;subst e;obtain⟨c,c1,c2⟩:=I7 E.AF.2.2.1;(have aE:C2 c:=by rw[Ir]at c1;exact m2 L l rfl c c1);(have hl:l=puts.drop nb:=by simpa using n3);(have ha:c.1=DV (Ae A.j.A8) ((Aw cl).length:Int) l:=by rw[c2];dsimp only;rw[h.AX.Gc]);(have hv:vw P2.aK.2.F P2.D.A4=P2.aK.2.fl:=by rw[s3,Ir];rfl);rw[hv];refine⟨A.ix,sg,cl,l,nb,c,aB,n1,n2,c1,ha,rfl,?_,hl⟩;rw[A0N aE ha,hl,CP];omega
   have hH:Holds bd P2.aK.2.fl puts puts.length o:=by
    cases ol with
    | none=>
     have aF:nb=puts.length:=by
      (have:(puts.drop nb).length=0:=by rw[<-n3];rfl);rw[CP]at this;omega
     exact Holds.bB aB (by rw[aF,C9]at n2;exact n2) (Au _)
    | some l=>
     obtain⟨f,hO⟩:=I l rfl;rcases hO.2 P2.aK.2.D.A4 (by rw[aA];simp) with hno|⟨_,hw⟩
     ·exact absurd rfl (hno _ (E1 hO.1))
     ·exact hw.cb
   refine⟨⟨d3.G2 aA hH,E,⟨nb,n1,n2,n3,λe=>?_⟩,λm H c z=>.inr (O m H c z),I,h.CQ,h.Ed⟩,rfl,s4⟩;subst e;(have:(puts.drop nb).length=0:=by rw[<-n3];rfl);rw[CP]at this;omega
  ·rw[Af L];exact⟨⟨d2,r2⟩,λd=>absurd d L⟩
 ·rw[Af W];exact⟨h.dC,λd=>absurd d W⟩
end
section
variable {bd:Int×Int} {P P':PD} {V V':View} {A:Ar} {ix:Ix} {sg cl:List (Int×List Pu)} {lo:Option (Int×List Pu)} {ol:Option (List Pu)} {puts:List Pu} {Ad:Nat} {o:Int}
def SI.by(h:SI bd A P puts Ad o sg cl ol)(hL:CU bd P.fl A.ix sg cl (ol.map λl=>(A.j.A8,l))):CV bd P.fl A.ix sg cl (ol.map λl=>(A.j.A8,l)) puts Ad o:=by
 obtain⟨nb,n1,n2,n3,n4⟩:=h.Hu;refine⟨nb,hL,n1,n2,λn l e=>?_,λe=>?_⟩
 ·cases ol with
  | none=>cases e
  | some l0=>
   cases e;obtain⟨f,O⟩:=h.AF l rfl;rcases O.2 _ h.di.Co with E|⟨_,ix',sg',cl',l',I,c,_,hnb,_,g1,g2,_,g4,g5⟩
   ·exact absurd rfl (E _ (E1 O.1))
   ·(have W:l=puts.drop nb:=by simpa using n3);obtain⟨c2,Y,e2⟩:=I7 h.AX.AF.2.2.1;have H:c2=c:=by
     have z:P.fl (Ae A.j.A8)=some c:=g1;rw[Y]at z;simpa using z
    subst H;have d:l.length=l'.length:=by
     have:=EB List.length (e2.symm.trans g2);rw[IK,IK]at this;omega
    have L:nb=I:=by
     rw[W,g5,CP,CP]at d;omega
    refine⟨c2,Y,?_,by rw[W,C9]⟩;(have:EH c2 l=EH c2 l':=by unfold EH;rw[d]);rw[this,L];exact g4
 ·cases ol with
  | none=>exact n4 rfl
  | some l=>cases e
def SI.eL(h:SI bd A P puts Ad o sg cl ol):C8 o (Aw sg++Aw cl++Ev (ol.map λl=>(A.j.A8,l))) puts:=by
 have:=h.Cl;unfold B6 at this;cases ol<;>simpa[Ev,List.append_assoc] using this
def CV.bB(h:CV bd V ix sg cl lo puts Ad o)(d:C8 o (Aw sg++Aw cl++Ev lo) puts)(z:(Aw cl).length<=1099511627776):Whole bd V puts o:=⟨ix,sg,cl,lo,h.bq,z,d⟩
def CV.segs{h:List (Int×List Pu)}(E:CU bd V ix h [] none)(z:C8 o (Aw h) puts)(d:Ad<=puts.length):CV bd V ix h [] none puts Ad o:=
 ⟨puts.length,E,Au _,by rw[C9];simpa[Aw] using z,λn l e=>(by cases e),λ_=>d⟩
def Sa:∀(fresh:List (List Pu)) (last:Int) (kept:List Int) {P:PD},DI bd P puts Ad o->0<=last->last+fresh.length<=4611686018427387904->last+fresh.length<=bd.2->(PD.ah fresh last kept P).1=0->
 (∀x∈BW last fresh,∀c,(PD.ah fresh last kept P).2.2.2.fl (AG x.1)=some c->C2 c)/\∀m,(∀x∈BW last fresh,m≠AG x.1)->(PD.ah fresh last kept P).2.2.2.fl m=P.fl m
 | [],last,kept,P,_,_,_,_,_=>⟨λx z=>(by cases z),λm _=>rfl⟩
 | l::r,last,kept,P,h,h0,h1,hb,hok=>by
  simp only[CG]at h1 hb;have E:PD.ah (l::r) last kept P=if (P.aL (last+1) l).1≠0 then ((P.aL (last+1) l).1,last+1,kept,(P.aL (last+1) l).2) else PD.ah r (last+1) (kept++[last+1]) (P.aL (last+1) l).2:=rfl
  rw[E]at hok ⊢;by_cases I:(P.aL (last+1) l).1=0
  ·rw[Ac (nn I)]at hok ⊢;(have d:isNum (last+1)=true:=by unfold isNum;simp;omega);have hw:DI bd (P.aL (last+1) l).2 puts Ad o:=h.aH (.inr ⟨last+1,⟨d,by omega⟩,rfl⟩) _ _;obtain⟨i1,i2⟩:=Sa r (last+1) (kept++[last+1]) hw (by omega) (by omega) (by omega) hok;obtain⟨e1,e2⟩:=JA P (AG (last+1)) (AE (AG (last+1))) (Cd l);obtain⟨e3,e4⟩:=e2 I;have O:∀x∈BW (last+1) r,AG (last+1)≠AG x.1:=λx z e=>by
    have z:=Gr z;have:=Kn d (by unfold isNum;simp;omega) e;omega
   have Y:=Extra.fl h e1;refine⟨λx z c L=>?_,λm hm=>?_⟩
   ·rcases BP.1 z with rfl|z
    ·rw[i2 _ O]at L;have:(P.aL (last+1) l).2.fl (AG (last+1))=some ((P.aL (last+1) l).2.F P.D.AT):=by
      unfold PD.fl;have aA:lookup (P.aL (last+1) l).2.D.A4 (A7 (AG (last+1)))=some P.D.AT:=e3;rw[aA];rfl
     rw[this]at L;cases L;exact e4
    ·exact i1 x z c L
   ·rw[i2 m λx z=>hm x (Br _ z)];have W:=hm _ (BD ..);have H:(P.aL (last+1) l).2.fl=P.fl\/(P.fl (AG (last+1))=none/\∀m,(P.aL (last+1) l).2.fl m=if m=AG (last+1) then some ((P.aL (last+1) l).2.F P.D.AT) else P.fl m):=Y;rcases H with e|⟨_,e⟩
    ·rw[e]
    ·rw[e,Ac W]
  ·rw[Af I]at hok;exact absurd hok I
def Vh{nm:Bs}{s:Nat}{l:Bs}(d:(P.aH nm s l).1=0):((P.aH nm s l).2.F P.D.AT).1=AR s l:=by
 unfold PD.aH at d ⊢;obtain⟨c1,c2⟩:=JB P nm;by_cases H:(P.ai (A7 nm)).1=0
 ·rw[Ac (nn H)]at d ⊢;have L:=c2 H;by_cases E:((P.ai (A7 nm)).2.aa (A7 nm) s l).2.1=0
  ·rw[Ac (nn E)];(have O:(P.ai (A7 nm)).2.F P.D.AT=([],0):=by unfold PD.ai;simp[upd]);have W:=Uf (AR s l) L E;(have I:lookup ((P.ai (A7 nm)).2.an (A7 nm) (AR s l)).2.D.A4 (A7 nm)=some P.D.AT:=by rw[(Ie (AR s l) L).1];exact L);have z:((P.ai (A7 nm)).2.aa (A7 nm) s l).2.2=((P.ai (A7 nm)).2.an (A7 nm) (AR s l)).2:=rfl;rw[z];obtain⟨_,_,_,h⟩:=Iq I;rcases h with h|h
   ·rw[h,W];simp[upd,O]
   ·rw[h,W];simp[upd,O]
  ·rw[Af E]at d;exact absurd d E
 ·rw[Af H]at d;exact absurd d H
def DI.cQ(h:DI bd P puts Ad o)(hT:CV bd P.fl ix sg cl lo puts Ad o)(hW:C8 o (Aw sg++Aw cl++Ev lo) puts)(aD:(Aw cl).length<=1099511627776){d:Int}{z:List (Int×List Pu)}(W:Hn bd ⟨d,z.map (·.1)⟩ z)(aE:∀x∈z,((∀p∈x.2,Bg p)/\Cr Ck x.2=true)/\∃c,P.fl (AG x.1)=some c/\C2 c/\c.1=AR (AE (AG x.1)) (Cd x.2))(aA:∀n,isNum n=true->d<=n->P.fl (Ae n)=none)(hs:C8 o (Aw z) puts)(O:Ad<=puts.length):
 DI bd (P.ag d (z.map (·.1))).2 puts Ad o/\Reads bd (P.ag d (z.map (·.1))).2 puts o/\((P.ag d (z.map (·.1))).1=0->CV bd (P.ag d (z.map (·.1))).2.fl ⟨d,z.map (·.1)⟩ z [] none puts Ad o):=by
 obtain⟨e1,e2⟩:=JA P Bk (AE AI) (Ch d (z.map (·.1)));have d1:DI bd (P.aH Bk (AE AI) (Ch d (z.map (·.1)))).2 puts Ad o:=h.aH (.inl rfl) _ _;have t1:=hT.dY h e1 (.inl rfl);have aB:=Extra.fl h e1;unfold PD.ag;by_cases h1:(P.aH Bk (AE AI) (Ch d (z.map (·.1)))).1=0
 ·rw[Ac (nn h1)];obtain⟨e3,e4⟩:=e2 h1;have I:=Vh h1;obtain⟨E,Y⟩:∃E,(P.aH Bk (AE AI) (Ch d (z.map (·.1)))).2=E:=⟨_,rfl⟩;rw[Y]at I;rw[Y]at d1 t1 e3 e4 aB ⊢;have hV:CU bd (λm=>if m=AI then some (E.F P.D.AT) else if m=Bk then none else E.fl m) ⟨d,z.map (·.1)⟩ z [] none:=by
   have H:∀m,m≠Bk->E.fl m=P.fl m:=λm hm=>by
    rcases aB with e|⟨_,e⟩
    ·rw[e]
    ·rw[e,Ac hm]
   refine CU.fj (V:=E.fl) W ⟨e4,I⟩ (λx hx=>?_) (λn k1 k2=>?_) t1.bq.Eb t1.bq.DT λ_=>rfl
   ·rw[H _ (Ly _)];exact aE x hx
   ·rw[H _ (Ku _)];exact aA n k1 k2
  have hB:=CV.segs (Ad:=Ad) hV hs O;have d2:=d1.eP e3 hB.cb;obtain⟨a1,a2,a3⟩:=QV (nw:=AI) d1.bh e3;have aF:=(t1.bB hW aD).bu;rcases a3 with⟨b1,b2,b3⟩|⟨b1,b2⟩
  ·refine⟨d2,aF.aI (LX (by unfold PD.fl;rw[b1,a1])),λL=>absurd L b3⟩
  ·have hf:(E.aO (A7 Bk) (A7 AI)).2.fl=λm=>if m=AI then some (E.F P.D.AT) else if m=Bk then none else E.fl m:=by
    funext m
    (have:(E.aO (A7 Bk) (A7 AI)).2.fl m=vw E.F ((E.D.A4.filter λe=>decide (e.1≠A7 Bk/\e.1≠A7 AI))++[(A7 AI,P.D.AT)]) m:=by unfold PD.fl vw;rw[b1,a1]);rw[this,PV IN.symm];rfl
   rw[<-hf]at hB;exact⟨d2,(hB.bB (by simpa[Aw,Ev] using hs) (by simp[Aw])).bu,λ_=>hB⟩
 ·rw[Af h1];exact⟨d1,(t1.bB hW aD).bu,λL=>absurd L h1⟩
end
section
variable {bd:Int×Int} {P P':PD} {A:Ar} {ix:Ix} {sg cl:List (Int×List Pu)} {lo:Option (Int×List Pu)} {ol:Option (List Pu)} {puts:List Pu} {Ad:Nat} {o:Int}
def Xj(h:FP P)(x m:Bs):(P.az (A7 x)).2.fl m=none\/(P.az (A7 x)).2.fl m=P.fl m:=by
 obtain⟨d,_,z⟩:=R5 h (A7 x);rcases z with⟨d1,_,_⟩|⟨d1,_⟩
 ·exact .inr (by unfold PD.fl;rw[d1,d])
 ·have:(P.az (A7 x)).2.fl m=vw P.F (P.D.A4.filter λe=>decide (e.1≠A7 x)) m:=by unfold PD.fl vw;rw[d1,d]
  rw[this,PW];by_cases e:m=x
  ·exact .inl (by rw[Af e])
  ·exact .inr (by rw[Ac e];rfl)
def R6:∀(l:List Bs) {P:PD},DI bd P puts Ad o->CV bd P.fl ix sg cl lo puts Ad o->(∀m∈l,¬JZ ix sg m)->∀m,(PD.aM l P).2.fl m=none\/(PD.aM l P).2.fl m=P.fl m
 | [],P,_,_,_,m=>.inr rfl
 | x::r,P,h,hT,hm,m=>by
  obtain⟨H,E⟩:=h.dZ hT (hm x (BD ..));have d:=Xj h.bh x m;unfold PD.aM;split
  ·exact d
  ·rcases R6 r H E (λy z=>hm y (Br _ z)) m with e|e
   ·exact .inl e
   ·rw[e];exact d
def Y4(L:CV bd P.fl A.ix sg cl lo puts Ad o)(E:A.j.Aj=cl.map (·.1)++(lo.map (·.1)).toList)(d:sg.map (·.1)=A.ix.segs):∀m∈A.aV P,¬JZ A.ix sg m:=λm h W=>by
 obtain⟨O,I⟩:=IA.1 h;refine I ?_;unfold Ar.Ax;rcases W with rfl|⟨x,Y,rfl⟩|⟨n,hn,z,rfl⟩
 ·simp
 ·refine GX _ (DP ?_);rw[<-d];exact DP Y
 ·refine Fx _ (Br _ (DP ?_));rw[E];refine L.bq.Cl n hn z λH=>O ?_;unfold PD.bs;rw[H];rfl
def SI.ay(h:SI bd A P puts Ad o sg cl ol)(H:List (Int×List Pu))(fresh:List (List Pu))(aG:∀x∈H,x∈sg)(aD:(H.map (·.1)).Pairwise (· < ·))(hf:∀l∈fresh,(∀p∈l,Bg p)/\Cr Ck l=true)(hn:isNum (A.j.A8+1)=true)(aB:A.A8+fresh.length<=4611686018427387904)(a3:∀l∈fresh,l≠[])(aM:A.A8+fresh.length<=bd.2)(hs:C8 o (Aw (H++BW A.A8 fresh)) puts)(hbig:A.AN.length+P.Ax.length+Dg fresh+fresh.length+A.j.Aj.length+sg.length+H.length<=1099511627776):
 (DI bd (A.ay P (H.map (·.1)) fresh).2.2 puts Ad o/\Reads bd (A.ay P (H.map (·.1)) fresh).2.2 puts o)/\
  ((A.ay P (H.map (·.1)) fresh).1=0->SI bd (A.ay P (H.map (·.1)) fresh).2.1 (A.ay P (H.map (·.1)) fresh).2.2 puts puts.length o (H++BW A.A8 fresh) [] none/\
    (A.ay P (H.map (·.1)) fresh).2.1=⟨⟨A.j.A8+1,(H++BW A.A8 fresh).map (·.1)⟩,⟨[],A.j.A8,0,none⟩,A.A8+fresh.length,[]⟩/\
    (∀m,(A.ay P (H.map (·.1)) fresh).2.2.bs m≠none->m∈AI::(H++BW A.A8 fresh).map λx=>AG x.1)/\(A.ay P (H.map (·.1)) fresh).2.2.D.As=[]):=by
 have a1:P.aR.dl=P.Ax.length:=by rw[Ha];rfl
 have W:(A.ay P (H.map (·.1)) fresh).1=0->(A.ay P (H.map (·.1)) fresh).2.1=⟨⟨A.j.A8+1,(H++BW A.A8 fresh).map (·.1)⟩,⟨[],A.j.A8,0,none⟩,A.A8+fresh.length,[]⟩/\
  Lay (A.ay P (H.map (·.1)) fresh).2.2 (A.ay P (H.map (·.1)) fresh).2.1 (H++BW A.A8 fresh) [] none/\∀m,(A.ay P (H.map (·.1)) fresh).2.2.bs m≠none->m∈AI::(H++BW A.A8 fresh).map λx=>AG x.1:=λz=>by
  obtain⟨r1,r2,r3,r4⟩:=(AH.aR P).ay (A:=A) (N:=0) (R:=0) (H.map (·.1)) fresh (h.di.bh.aR.ad (by rw[a1];omega) (by simp;omega)) z;obtain⟨q1,q2,q3,q4,q5⟩:=(h.AX.aI (P':=P.aR) λm=>((AH.aR P).bs m).symm).ay (N:=0) (R:=0) (K:=P.Ax.length) H fresh (h.di.bh.aR.ad (by omega) (by omega)) (by rw[Ha,a1];exact Au _) aG aD hf hn aB;refine⟨by rw[r2,q2],by rw[r2];exact q4.aI λm=>r3.bs m,λm hm=>q5 m (by rw[<-r3.bs];exact hm)⟩
 obtain⟨O,aH⟩:∃O,H++BW A.A8 fresh=O:=⟨_,rfl⟩;have aO:O.map (·.1)=H.map (·.1)++(BW A.A8 fresh).map (·.1):=by rw[<-aH,E6]
 have aN:∀x∈O,x.2≠[]:=λx E=>by
  rw[<-aH]at E;rcases AV.1 E with E|E
  ·exact h.Ed.1.2.2 x (aG x E)
  ·exact a3 _ (Gr E).2.2
 rw[aH]at hs W ⊢;have key:∃t:Int×Ar×PD,A.ay P (H.map (·.1)) fresh=t/\(DI bd t.2.2 puts Ad o/\Reads bd t.2.2 puts o)/\(t.1=0->t.2.2.D.As=[]/\Bp t.2.2=[t.2.2.D.A4]/\∃a2 L,CV bd t.2.2.fl a2 L [] none puts Ad o/\L.map (·.1)=O.map (·.1)/\C8 o (Aw L) puts):=by
  unfold Ar.ay;dsimp only
  by_cases h1:(A.C P).1=0
  ·rw[Ac (nn h1)];obtain⟨hS,hL⟩:=h.db h1;have hA:(A.C P).2.1 = {A with AN:=[]}:=by
    unfold Ar.C at h1 ⊢;split at h1
    ·rename_i h2;exact absurd h1 h2
    ·rename_i h2;rw[Ac h2]
   have aE:=Nj A P;rw[hA];generalize (A.C P).2.2=P1 at hS hL aE;(have aW:=hS.by hL);have hall:=h.eL;have hj:({A with AN:=[]}:Ar).j.Aj=cl.map (·.1)++(Option.map (·.1) (ol.map λl=>(A.j.A8,l))).toList:=by
    dsimp only
    rw[h.AX.bU];cases ol<;>simp[shut]
   have a4:=Y4 (A:={A with AN:=[]}) aW hj h.AX.segs;obtain⟨d2,t2⟩:=hS.di.au (A:={A with AN:=[]}) aW hj h.AX.segs;have aA:∀m,(({A with AN:=[]}:Ar).au P1).2.fl m=none\/(({A with AN:=[]}:Ar).au P1).2.fl m=P1.fl m:=R6 _ hS.di aW a4;generalize hP2:({A with AN:=[]}:Ar).au P1=SW at d2 t2 aA ⊢;obtain⟨c2,P2⟩:=SW;dsimp only at d2 t2 aA ⊢;have r2:Reads bd P2 puts o:=(t2.bB hall h.CQ).bu;by_cases h2:c2=0
   ·rw[Ac (nn h2)];have h0:=h.AX.Ei.1;have d3:=DI.ah fresh A.A8 (H.map (·.1)) d2 h0 aB aM;have t3:=CV.ah fresh A.A8 (H.map (·.1)) d2 t2 h0 aB aM;have Y:=Sa fresh A.A8 (H.map (·.1)) d2 h0 aB aM;have aQ:∀n,isNum n=true->A.A8<n->P2.bs (AG n)=none:=λn k1 k2=>by
     rcases aA (AG n) with e|e
     ·unfold PD.bs;rw[e];rfl
     ·(have:P2.bs (AG n)=P.bs (AG n):=by unfold PD.bs;rw[e];have:=aE (AG n);unfold PD.bs at this;exact this);rw[this];cases E:P.bs (AG n) with
      | none=>rfl
      | some c=>have:=h.AX.Ei.2 n k1 (by rw[E];simp);omega
    have aF:=λz=>AH.ah (N:=0) (R:=0) fresh A.A8 (H.map (·.1)) (AH.aR P2) (d2.bh.aR.ad (by omega) (by omega)) z;obtain⟨w1,w2,w3,w4,w5,w6⟩:=Cm.ah (N:=0) (R:=0) fresh A.A8 (H.map (·.1)) (d2.bh.aR.ad (by omega) (by omega)) h0 aB (λn k1 k2=>by rw[<- (AH.aR P2).bs];exact aQ n k1 k2);generalize hP3:PD.ah fresh A.A8 (H.map (·.1)) P2=NS at d3 t3 Y aF ⊢;obtain⟨c3,aP,aT,a0⟩:=NS;dsimp only at d3 t3 Y aF ⊢;have r3:=(t3.bB hall h.CQ).bu;by_cases h3:c3=0
    ·rw[Ac (nn h3)];obtain⟨x1,x2,x3,x4,_⟩:=aF h3;obtain⟨y1,y2⟩:=Y h3;(have aI:aP=A.A8+fresh.length:=by rw[x2,w2]);(have aJ:aT=O.map (·.1):=by rw[x3,w3,aO]);rw[aI,aJ];have aX:∀x∈O,isNum x.1=true:=λx E=>by
      rw[<-aH]at E;rcases AV.1 E with E|E
      ·exact h.AX.cS (aG x E)
      ·have:=Gr E;unfold isNum;simp;omega
     have aK:(O.map (·.1)).Pairwise (· < ·):=by
      rw[aO];refine Eg.2 ⟨aD,NX,λa ha b hb=>?_⟩;obtain⟨x,E,rfl⟩:=CA.1 ha;obtain⟨y,hy,rfl⟩:=CA.1 hb;have k1:=h.AX.cY (aG x E);have k2:=Gr hy;omega
     have aV:Hn bd ⟨A.j.A8+1,O.map (·.1)⟩ O:=⟨⟨hn,λn hm=>by obtain⟨x,E,rfl⟩:=CA.1 hm;exact aX x E,Iw.2 aK⟩,by have:=h.Ed.2.1;dsimp only;omega,aN⟩;have aR:∀x∈O,((∀p∈x.2,Bg p)/\Cr Ck x.2=true)/\∃c,a0.fl (AG x.1)=some c/\C2 c/\c.1=AR (AE (AG x.1)) (Cd x.2):=λx E=>by
      rw[<-aH]at E;rcases AV.1 E with E|E
      ·exact t3.bq.Cq x (aG x E)
      ·refine⟨hf _ (Gr E).2.2,?_⟩;(have hb:a0.bs (AG x.1)=some (AR (AE (AG x.1)) (Cd x.2)):=by rw[x4.bs];exact w5 x E);obtain⟨c,k1,k2⟩:=I7 hb;exact⟨c,k1,y1 x E c k1,k2⟩
     have aU:∀n,isNum n=true->A.j.A8+1<=n->a0.fl (Ae n)=none:=λn k1 k2=>by
      rw[y2 _ λx _=>FK n x.1];rcases aA (Ae n) with e|e
      ·exact e
      ·rw[e];refine Ia.1 ?_;rw[aE];cases E:P.bs (Ae n) with
       | none=>rfl
       | some c=>have:=h.AX.Ew.2.2 n k1 (by rw[E];simp);omega
     have aS:∃aZ,∃c4,∃aL:Ar,(({A with AN:=[],A8:=A.A8+fresh.length}:Ar).ag a0 (O.map (·.1)))=(c4,aL,aZ)/\DI bd aZ puts Ad o/\Reads bd aZ puts o/\(c4=0->aL.j.Aj=[]/\∃L,CV bd aZ.fl aL.ix L [] none puts Ad o/\L.map (·.1)=aL.ix.segs/\aL.ix.segs=O.map (·.1)/\C8 o (Aw L) puts):=by
      unfold Ar.ag;dsimp only
      by_cases I:A.ix.B7=A.j.A8+1/\A.ix.segs=O.map (·.1)
      ·rw[Af I];have aY:cl=[]:=by
        cases aY:cl with
        | nil=>rfl
        | cons x r=>
         (have E:x∈cl:=by rw[aY];exact BD ..);have k1:=h.AX.Ey.1 x E;have k2:=(h.AX.CO x E).1.2;have:=I.1;omega
       have a5:ol=none:=by
        cases ol with
        | none=>rfl
        | some l=>have:=h.AX.Ey.2 (by simp);have:=I.1;omega
       subst aY a5;refine⟨a0,0,_,rfl,d3,r3,λ_=>⟨?_,sg,t3,h.AX.segs,I.2,?_⟩⟩
       ·have:=h.AX.AF.2;simpa using this
       ·simpa[Aw,Ev] using hall
      ·rw[Ac I];obtain⟨u1,u2,u3⟩:=d3.cQ t3 hall h.CQ aV aR aU hs h.dA;by_cases h4:(a0.ag (A.j.A8+1) (O.map (·.1))).1=0
       ·rw[Ac (nn h4)];exact⟨_,_,_,rfl,u1,u2,λ_=>⟨rfl,O,u3 h4,rfl,rfl,hs⟩⟩
       ·rw[Af h4];exact⟨_,_,_,rfl,u1,u2,λz=>absurd z h4⟩
     obtain⟨aZ,c4,aL,e4,d4,r4,k4⟩:=aS;rw[e4];dsimp only
     by_cases h4:c4=0
     ·rw[Ac (nn h4)];obtain⟨j1,L,j2,j3,j4,j5⟩:=k4 h4;obtain⟨d5,t5⟩:=d4.au (A:=aL) j2 (by rw[j1];rfl) j3;unfold Ar.aZ;generalize hP5:aL.au aZ=S5 at d5 t5 ⊢;obtain⟨c5,a6⟩:=S5;dsimp only at d5 t5 ⊢;have r5:=(t5.bB (by simpa[Aw,Ev] using j5) (by simp[Aw])).bu;by_cases h5:c5=0
      ·rw[Ac (nn h5)];refine⟨_,rfl,⟨d5.ee,r5.aI (LX (Ir a6))⟩,λz=>?_⟩;obtain⟨s1,s2,s3,s4⟩:=Qa z;refine⟨s4,by dsimp only;rw[s1,s2],aL.ix,L,?_,by rw[j3,j4],j5⟩;dsimp only
       rw[Ir];exact t5
      ·rw[Af h5];exact⟨_,rfl,⟨d5,r5⟩,λz=>absurd z h5⟩
     ·rw[Af h4];exact⟨_,rfl,⟨d4,r4⟩,λz=>absurd z h4⟩
    ·rw[Af h3];exact⟨_,rfl,⟨d3,r3⟩,λz=>absurd z h3⟩
   ·rw[Af h2];exact⟨_,rfl,⟨d2,r2⟩,λz=>absurd z h2⟩
  ·rw[Af h1];exact⟨_,rfl,h.dC,λz=>absurd z h1⟩
 obtain⟨t,ht,k1,k2⟩:=key;rw[ht]at W ⊢;refine⟨k1,λz=>?_⟩;obtain⟨g1,g2,g3⟩:=W z;obtain⟨m1,m2,a2,L,m3,m4,m5⟩:=k2 z;refine⟨⟨k1.1.G2 m2 (Holds.bB m3.bq (by simpa[Aw] using m5) (Au _)),g2,⟨puts.length,Au _,by rw[C9];simpa[Aw] using hs,by simp,λ_=>Au _⟩,λm hm c hc=>.inr ?_,λl e=>(by cases e),by simp[Aw],⟨g2.Dz,by rw[g1];have:=h.Ed.2.1;dsimp only;omega,aN⟩,by rw[g1];exact h.Ed.2.1,by rw[g1];exact aM⟩,g1,g3,m1⟩;rcases hm with rfl|⟨x,E,rfl⟩|⟨x,E,_⟩
 ·rcases m3.bq.I5 with⟨q1,_⟩|⟨d,q1,q2,_⟩
  ·rw[q1]at hc;cases hc
  ·rw[q1]at hc;cases hc;exact q2
 ·have:x.1∈L.map (·.1):=by rw[m4];exact DP E
  obtain⟨y,hy,e⟩:=CA.1 this;obtain⟨_,d,q1,q2,_⟩:=m3.bq.Cq y hy;rw[e]at q1;rw[q1]at hc;cases hc;exact q2
 ·cases E
end
section
variable {bd:Int×Int} {P P':PD} {A:Ar} {ix:Ix} {sg cl:List (Int×List Pu)} {lo:Option (Int×List Pu)} {ol:Option (List Pu)} {puts:List Pu} {Ad:Nat} {o:Int} {Ai:Int}
def SI.aT(h:SI bd A P puts Ad o sg cl ol)(hw:BS (AA Ai))(hn:isNum (A.j.A8+1)=true){n:Nat}(hcount:(B6 sg cl ol).length<=n)(hn2:n<=1073741824)(hln:A.A8+n<=4611686018427387904)(hlb:A.A8+n<=bd.2)(hbig:A.AN.length+P.Ax.length+A.j.Aj.length+2*sg.length<=1073741824):
 (DI bd (A.aT P Ai).2.2 puts Ad o/\Reads bd (A.aT P Ai).2.2 puts o)/\
  ((A.aT P Ai).1=0->∃z,SI bd (A.aT P Ai).2.1 (A.aT P Ai).2.2 puts puts.length o z [] none/\(A.aT P Ai).2.1=⟨⟨A.j.A8+1,z.map (·.1)⟩,⟨[],A.j.A8,0,none⟩,(A.aT P Ai).2.1.A8,[]⟩/\(A.aT P Ai).2.1.A8<=A.A8+n/\(Aw z).length<=n/\z.length<=sg.length+n/\
    (∀m,(A.aT P Ai).2.2.bs m≠none->m∈AI::z.map λx=>AG x.1)/\(A.aT P Ai).2.2.D.As=[]):=by
 have O:(B6 sg cl ol).length=(Aw sg).length+(Aw cl++ol.getD []).length:=by unfold B6;rw[AZ]
 have E:=h.AX.puts h.CQ;have d:=H9 hw (Aw cl++ol.getD []);generalize L:Bx Ai (Aw cl++ol.getD [])=fresh at d;have hfl:=GV d.ne;have hfl2:=d.B8;have hcost:=Jg fresh;have e:A.aT P Ai=A.ay P (sg.map (·.1)) fresh:=by
  unfold Ar.aT;rw[E,Ac (by simp),L,h.AX.segs]
 have H:Aw (sg++BW A.A8 fresh)=Aw sg++fresh.flatten:=by
  have:=@Km fresh A.A8;unfold Aw at this ⊢;rw[UY,this]
 have I:C8 o (Aw (sg++BW A.A8 fresh)) puts:=by
  rw[H];refine C8.Av (C8.ey (λk t _=>?_) (λp E=>?_) ?_) h.Cl
  ·unfold B6;rw[Gs,Gs,d.A8]
  ·rcases AV.1 E with E|E
   ·exact Fx _ E
   ·exact GX _ (d.Dy p E)
  ·rw[O,AZ];omega
 obtain⟨r1,r2⟩:=h.ay sg fresh (λ_ h=>h) (Iw.1 (by rw[h.AX.segs];exact h.AX.Dz.EE)) (λl Y=>⟨λp E=>h.AX.b0 p (d.Dy p (MC.2 ⟨l,Y,E⟩)),d.EE Y⟩) hn (by omega) d.ne (by omega) I (by omega);rw[e];refine⟨r1,λW=>?_⟩;obtain⟨q1,q2,q3,q4⟩:=r2 W;refine⟨_,q1,by rw[q2],by rw[q2];dsimp only;omega,by rw[H,AZ];omega,by rw[AZ,LJ];omega,q3,q4⟩
def SI.aQ(h:SI bd A P puts Ad o sg cl ol)(hw:BS (AA Ai))(hn:isNum (A.j.A8+1)=true){n:Nat}(hcount:(B6 sg cl ol).length<=n)(hn2:n<=1073741824)(hln:A.A8+n<=4611686018427387904)(hlb:A.A8+n<=bd.2)(hbig:A.AN.length+P.Ax.length+A.j.Aj.length+2*sg.length<=1073741824):
 (DI bd (A.aQ P Ai o).2.2 puts Ad o/\Reads bd (A.aQ P Ai o).2.2 puts o)/\
  ((A.aQ P Ai o).1=0->∃aB,SI bd (A.aQ P Ai o).2.1 (A.aQ P Ai o).2.2 puts puts.length o aB [] none/\(A.aQ P Ai o).2.1=⟨⟨A.j.A8+1,aB.map (·.1)⟩,⟨[],A.j.A8,0,none⟩,(A.aQ P Ai o).2.1.A8,[]⟩/\(A.aQ P Ai o).2.1.A8<=A.A8+n/\
    (aB.map (·.2)).Perm (DK o (Bx Ai (B6 sg cl ol)))/\(∀m,(A.aQ P Ai o).2.2.bs m≠none->m∈AI::aB.map λx=>AG x.1)/\(A.aQ P Ai o).2.2.D.As=[]):=by
 have hl0:(B6 sg cl ol).length=(Aw sg).length+(Aw cl++ol.getD []).length:=by unfold B6;rw[AZ]
 have I:=h.AX.puts h.CQ;have d:=H9 hw (B6 sg cl ol);obtain⟨ws,aH⟩:∃ws,Bx Ai (B6 sg cl ol)=ws:=⟨_,rfl⟩;rw[aH]at d;obtain⟨k0,aG⟩:∃k0,G4 sg o ws=k0:=⟨_,rfl⟩;obtain⟨fresh,aI⟩:∃fresh,(BG sg o ws).2=fresh:=⟨_,rfl⟩;have z:=Js sg o ws;rw[aG,aI]at z;obtain⟨E,aJ⟩:∃E,k0.mergeSort (λx y=>decide (x.1<=y.1))=E:=⟨_,rfl⟩;have aA:E.Perm k0:=by rw[<-aJ];exact A2Y _ _
 have aS:E.map (·.1)=((BG sg o ws).1).mergeSort λx y=>decide (x<=y):=by
  rw[Jt,aG,<-aJ,A23 (s:=λx y:Int=>decide (x<=y))];intro a _ b _;rfl
 have L:∀x∈E,x∈sg/\x.2∈ws:=λx hx=>Kx (by rw[aG];exact aA.mem_iff.1 hx);have aP:(DK o ws).Nodup:=by
  have h1:(DK o ws).Pairwise λw w'=>∀p∈w,∀q∈w',BA p.2.1 Ai<BA q.2.1 Ai:=d.KR.sublist GL;have O:∀w∈DK o ws,w≠[]:=λw hw=>d.ne w (Uq hw);clear z;generalize DK o ws=v at h1 O
  induction v with
  | nil=>simp
  | cons w r ih=>
   have aO:=D7.1 h1;refine JS.2 ⟨λhm=>?_,ih aO.2 λx hx=>O x (Br _ hx)⟩;obtain⟨p,I⟩:=A3d w (O w (BD ..));have:=aO.1 w hm p I p I;omega
 have aN:(E.map (·.2)).Nodup:=by
  have h1:(k0.map (·.2)++fresh).Nodup:=z.nodup_iff.2 aP;have O:=(Gy.1 h1).1;exact(aA.map (·.2)).nodup_iff.2 O
 have aL:(sg.map (·.1)).Pairwise (· < ·):=Iw.1 (by rw[h.AX.segs];exact h.AX.Dz.EE);have aE:∀x∈sg,∀y∈sg,x.1=y.1->x=y:=λx hx y hy e=>by
  obtain⟨i,hi,rfl⟩:=DQ hx;obtain⟨j,hj,rfl⟩:=DQ hy;have I:=JR.1 aL;rcases Ph i j with W|W|W
  ·have:=I i j (by simpa using hi) (by simpa using hj) W;simp at this;omega
  ·subst W;rfl
  ·have:=I j i (by simpa using hj) (by simpa using hi) W;simp at this;omega
 have Y:(E.map (·.1)).Pairwise (· < ·):=by
  have h1:E.Pairwise λx y=>x.1<=y.1:=by
   have:=UR (le:=λx y:Int×List Pu=>decide (x.1<=y.1)) (λa b c h1 O=>by simp at *;omega) (λa b=>by simp;omega) k0;rw[aJ]at this;(exact this.imp λh=>by simpa using h)
  have O:E.Pairwise λx y=>x.2≠y.2:=La.1 aN;rw[La];have h3:=h1.and O;refine A3g (λ{a b} ha hb aM=>?_) h3;rcases A3k aM.1 with h|h
  ·exact h
  ·exact absurd (EB Prod.snd (aE a (L a ha).1 b (L b hb).1 h)) aM.2
 have aD:∀l∈fresh,l∈ws:=λl hl=>IM (by rw[aI];exact hl);have H:(Aw E++fresh.flatten).Perm (DK o ws).flatten:=by
  have h1:(E.map (·.2)++fresh).Perm (DK o ws):=((aA.map (·.2)).append_right _).trans z;have O:=h1.flatten;rw[UW]at O;have e:(E.map (·.2)).flatten=Aw E:=by unfold Aw;rw[UX]
  rwa [e]at O
 have hfl:fresh.length<=fresh.flatten.length:=GV λw hw=>d.ne w (aD w hw);have hcnt:fresh.flatten.length<=n:=by
  have h1:=H.length_eq;have O:(DK o ws).flatten.length<=ws.flatten.length:=(Jz _ ws).length_le;have h3:=d.B8;rw[AZ]at h1;omega
 have hkl:E.length<=sg.length:=by
  have:(E.map (·.1)).length<=(sg.map (·.1)).length:=ID (Y.imp λh=>Va h) λx hx=>by
   obtain⟨y,hy,rfl⟩:=CA.1 hx;exact DP (L y hy).1
  simpa using this
 have hcost:=Jg fresh;have aF:∀p∈B6 sg cl ol,Bg p:=λp I=>by
  rcases AV.1 I with I|I
  ·exact h.AX.cP p I
  ·exact h.AX.b0 p I
 have e:A.aQ P Ai o=A.ay P (E.map (·.1)) fresh:=by
  unfold Ar.aQ;rw[h.AX.b7];dsimp only
  have e2:sg.flatMap (·.2)++(P.puts A.j.Aj).1=B6 sg cl ol:=by rw[I];rfl
  rw[e2,aH,<-aS,aI,I,Ac (by simp)]
 have aQ:Aw (E++BW A.A8 fresh)=Aw E++fresh.flatten:=by
  have:=@Km fresh A.A8;unfold Aw at this ⊢;rw[UY,this]
 have aR:C8 o (Aw (E++BW A.A8 fresh)) puts:=by
  rw[aQ];refine C8.Av (C8.ey (λk t ht=>?_) (λp I=>?_) ?_) h.Cl
  ·rw[<- (d.dI o).dX H.symm k t,SQ d o k t ht]
  ·exact d.Dy p ((Jz _ ws).subset (H.mem_iff.1 I))
  ·rw[H.length_eq];exact AQ (Jz _ ws).length_le d.B8
 obtain⟨r1,r2⟩:=h.ay E fresh (λx hx=>(L x hx).1) Y (λl hl=>⟨λp I=>aF p (d.Dy p (MC.2 ⟨l,aD l hl,I⟩)),d.EE (aD l hl)⟩) hn (by omega) (λl hl=>d.ne l (aD l hl)) (by omega) aR (by omega);have aK:(BW A.A8 fresh).map (·.2)=fresh:=by
  have aT:∀(l:List (List Pu)) (a:Int),(BW a l).map (·.2)=l:=by
   intro l
   induction l with
   | nil=>intro a;rfl
   | cons x r ih=>intro a;simp[BW,ih]
  exact aT _ _
 rw[e,aH];refine⟨r1,λaF=>?_⟩;obtain⟨q1,q2,q3,q4⟩:=r2 aF;refine⟨_,q1,by rw[q2],by rw[q2];dsimp only;omega,?_,q3,q4⟩;rw[E6,aK];exact((aA.map (·.2)).append_right _).trans z
def Ym{l:List Pu}(h:Ar.aU P=.ok (A,l)):A.j.A8=(BM A.ix.B7 P.Ax).getLastD (A.ix.B7-1)/\A.A8=(P.Ax.filterMap λnm=>if (Be nm).1=2 then some (Be nm).2 else none).getLastD 0/\A.j.AF=none:=by
 unfold Ar.aU at h;split at h
 ·cases h
 ·split at h
  ·cases h
  ·split at h
   ·cases h
   ·split at h
    ·cases h
    ·cases h;exact⟨rfl,rfl,rfl⟩
def Tq{l:List Int}{d b:Int}(h:∀x∈l,x<=b)(z:d<=b):l.getLastD d<=b:=by
 rcases Lg l with rfl|⟨r,x,rfl⟩
 ·exact z
 ·have e:(r.concat x).getLastD d=x:=by rw[JT];simp
  rw[e];exact h x (by simp)
def DI.eR(h:DI bd P puts Ad o)(O:0<=bd.2){l:List Pu}(H:Ar.aU P=.ok (A,l))(hx:A.ix.B7<=bd.1+1):A.j.A8<=bd.1/\A.A8<=bd.2:=by
 obtain⟨L,I,_⟩:=Ym H;have E:∀nm∈P.Ax,EV bd nm:=λnm z=>h.Ax nm λe=>GQ.1 z (Ia.2 e);rw[L,I];refine⟨Tq (λx z=>?_) (by omega),Tq (λx z=>?_) O⟩
 ·unfold BM at z;obtain⟨nm,d,e⟩:=Ld.1 z;split at e
  ·rename_i q;cases e;exact(E nm d).2.1 q.1
  ·cases e
 ·obtain⟨nm,d,e⟩:=Ld.1 z;split at e
  ·rename_i q;cases e;exact(E nm d).2.2 q
  ·cases e
def AH.aU{P Q:PD}(h:AH P Q):Ar.aU P=Ar.aU Q:=by
 unfold Ar.aU PD.ba PD.bS Ar.aY;simp only[h.a1,h.Ax,h.segs,h.puts]
def SI.aU(L:DI bd P puts Ad o)(h0:0<=bd.2)(hr:Reads bd P puts o)(E:Ad<=puts.length)(hpl:puts.length<=1099511627776):
 ∃A' sg cl,Ar.aU P=.ok (A',B6 sg cl none)/\SI bd A' P puts Ad o sg cl none/\C8 o (B6 sg cl none) puts/\A'.AN=A'.aY P:=by
 obtain⟨A,sg,cl,ol,hL,hs,H⟩:=hr;have h:=hs.2.2;unfold B6 at h;rw[AZ,AZ]at h;have W:(Aw cl).length+(ol.getD []).length<=1099511627776:=by omega
 have aA:=hL.aI λm=>((AH.aR P).bs m).symm
 obtain⟨A',h1,h2,h3,h4,h5,h6⟩:=aA.aU L.bh.aR (by omega);have d:=(AH.aR P).aU;have hc:A'.aY P.aR=A'.aY P:=rfl;have z:=h2.aI λm=>(AH.aR P).bs m
 have hall:B6 sg (shut cl A.j.A8 ol) none=B6 sg cl ol:=by unfold B6;rw[Nf];simp
 have I:C8 o (B6 sg (shut cl A.j.A8 ol) none) puts:=by rw[hall];exact hs
 refine⟨A',sg,_,by rw[d,hall];exact h1,⟨L,z,⟨puts.length,Au _,by rw[C9];simpa[B6] using I,by simp,λ_=>E⟩,λm hm c O=>.inl ?_,λl e=>(by cases e),by rw[Nf,AZ];exact W,by rw[h3];exact H,L.eR h0 (by rw[d];exact h1) (by rw[h3];exact H.2.1)⟩,I,by rw[h6,hc]⟩;rw[h6,hc];unfold Ar.aY;refine GJ.2 ⟨GQ.2 (by rw[P3 O];simp),?_⟩;simp only[DG];unfold Ar.Ax;rcases hm with rfl|⟨x,Y,rfl⟩|⟨x,Y,rfl⟩
 ·simp
 ·refine GX _ (DP ?_);rw[<-z.segs];exact DP Y
 ·refine Fx _ (Br _ (DP ?_));rw[z.AF.2];exact DP Y
end
def Du(a b:Int):Prop:=a=5\/a=6\/a=b
section
variable {P Q:PD} {N R:Nat} {A:Ar} {J:Jn}
def RV{nm:ByteArray}(h:AH P Q)(z:Cm Q (N+1) R):Du (P.ai nm).1 (Q.ai nm).1:=by
 have:=Gb P.D.n;unfold PD.ai CK;rw[h.A4];by_cases d:nm=ByteArray.empty\/B2 Q.D.A4 nm≥0
 ·rw[Af d,Af d];exact .inr (.inr rfl)
 ·rw[Ac d,Ac d];dsimp only
  rw[z.bg];rcases this with e|e
  ·exact .inr (.inr e)
  ·exact .inl e
def NP{nm:ByteArray}(h:AH P Q)(d:Cm Q (N+1) R):Du (P.ae nm).1 (Q.ae nm).1:=by
 have:=Gb P.D.n;unfold PD.ae Cw;rw[h.A4];cases lookup Q.D.A4 nm with
 | none=>exact .inr (.inr rfl)
 | some f=>
  dsimp only
  rw[d.bg];rcases this with e|e
  ·exact .inr (.inr e)
  ·exact .inl e
def RN(d:Cm Q (N+1) R):Du P.aK.1 Q.aK.1:=by
 have:=Gb P.D.n;unfold PD.aK DC;dsimp only
 rw[d.bg];rcases this with e|e
 ·exact .inr (.inr e)
 ·exact .inl e
def Y8{nm:ByteArray}(h:AH P Q)(z:Cm Q (N+1) R):Du (P.az nm).1 (Q.az nm).1:=by
 have:=Gb P.D.n;unfold PD.az Dd;rw[h.A4];by_cases d:B2 Q.D.A4 nm<0
 ·rw[Af d,Af d];exact .inr (.inr rfl)
 ·rw[Ac d,Ac d];dsimp only
  rw[z.bg];rcases this with e|e
  ·exact .inr (.inr e)
  ·exact .inl e
def Y7{old nm:ByteArray}(h:AH P Q)(z:Cm Q (N+1) R):Du (P.aO old nm).1 (Q.aO old nm).1:=by
 have:=Gb P.D.n;unfold PD.aO CN;rw[h.A4];cases lookup Q.D.A4 old with
 | none=>exact .inr (.inr rfl)
 | some f=>
  dsimp only
  by_cases d:nm=ByteArray.empty
  ·rw[Af d,Af d];exact .inr (.inr rfl)
  ·rw[Ac d,Ac d];dsimp only
   rw[z.bg];rcases this with e|e
   ·exact .inr (.inr e)
   ·exact .inl e
def or_append{nm:ByteArray}{l:Bs}(h:AH P Q)(Y:Cm Q (N+1) R)(O:l.length<=R):Du (P.an nm l).1 (Q.an nm l).1:=by
 by_cases d:(P.an nm l).1=0
 ·exact .inr (.inr (by rw[d,(h.an Y O d).1]))
 ·have L:=Gb P.D.n;have z:∀D F f x E,∀e:Int,e=0\/e=5->(By D F f x E e).1=5\/(By D F f x E e).1=6\/(By D F f x E e).1=0:=λD F f x E e W=>by
   unfold By;rcases W with rfl|rfl
   ·split
    ·exact .inr (.inl rfl)
    ·exact .inr (.inr rfl)
   ·split
    ·exact .inl rfl
    ·exact .inl rfl
  unfold PD.an Bl at d ⊢;rw[h.A4]at d ⊢;cases hx:lookup Q.D.A4 nm with
  | none=>exact .inr (.inr rfl)
  | some f=>
   rw[hx]at d;dsimp only at d ⊢;split at d
   ·rename_i I;rw[Af I];rcases z {A4:=Q.D.A4,AM:=P.D.AM,As:=P.D.As,n:=(bg P.D.n).2.2} P.F f (A7 l) (A7 l).size _ L with e|e|e
    ·exact .inl e
    ·exact .inr (.inl e)
    ·exact absurd e d
   ·rename_i I;rw[Ac I];split at d
    ·rename_i H;rw[Af H];rcases z {A4:=Q.D.A4,AM:=P.D.AM,As:=P.D.As,n:=(bg P.D.n).2.2} P.F f (A7 l) ((bg P.D.n).2.2.Bq % (A7 l).size) _ L with e|e|e
     ·exact .inl e
     ·exact .inr (.inl e)
     ·exact absurd e d
    ·rename_i H;rw[Ac H];rcases L with e|e
     ·exact absurd e d
     ·exact .inl e
def NR{nm:Bs}{s:Nat}{l:Bs}(h:AH P Q)(z:Cm Q (N+1) R)(d:l.length+4<=R):Du (P.aa (A7 nm) s l).2.1 (Q.aa (A7 nm) s l).2.1:=or_append (l:=AR s l) h z (by rw[Eu];exact d)
def Du.bk{a b:Int}(h:Du a b)(ha:¬a=0){c:Int}(d:b≠0->c=b):Du a c:=by
 rcases h with e|e|e
 ·exact .inl e
 ·exact .inr (.inl e)
 ·exact .inr (.inr (by rw[d (by omega)];exact e))
def RM{nm:Bs}{s:Nat}{l:Bs}(h:AH P Q)(O:Cm Q (N+3) R)(H:l.length+4<=R):Du (P.aH nm s l).1 (Q.aH nm s l).1:=by
 unfold PD.aH;by_cases z:(P.ai (A7 nm)).1=0
 ·obtain⟨Y,I,L⟩:=h.ai (N:=N+2) O z;rw[Ac (nn z),Ac (nn Y)];by_cases d:((P.ai (A7 nm)).2.aa (A7 nm) s l).2.1=0
  ·obtain⟨-,W,b2,b3⟩:=I.bY (N:=N+1) (nm:=nm) (s:=s) (l:=l) L H d;rw[Ac (nn d),Ac (nn W)];exact NP b2 b3
  ·rw[Af d];refine(NR (N:=N+1) I L H).bk d λE=>?_;rw[Af E]
 ·rw[Af z];refine(RV (N:=N+2) h O).bk z λE=>?_;rw[Af E]
def RO:∀(l:List Bs) {P Q:PD},AH P Q->Cm Q (N+l.length) R->Du (PD.ax l P).1 (PD.ax l Q).1
 | [],_,_,_,_=>.inr (.inr rfl)
 | nm::r,P,Q,h,hc=>by
  have d:Cm Q (N+r.length+1) R:=hc.ad (by simp;omega) (Au _);unfold PD.ax;by_cases z:(P.ae (A7 nm)).1=0
  ·obtain⟨H,I,L⟩:=h.ae d z;rw[Ac (nn z),Ac (nn H)];exact RO r I L
  ·rw[Af z];refine(NP h d).bk z λE=>?_;rw[Af E]
def RS:∀(l:List Bs) {P Q:PD},AH P Q->Cm Q (N+l.length) R->Du (PD.aM l P).1 (PD.aM l Q).1
 | [],_,_,_,_=>.inr (.inr rfl)
 | nm::r,P,Q,h,hc=>by
  have d:Cm Q (N+r.length+1) R:=hc.ad (by simp;omega) (Au _);unfold PD.aM;by_cases z:(P.az (A7 nm)).1=0
  ·obtain⟨H,I,L⟩:=h.az d z;rw[Ac (nn z),Ac (nn H)];exact RS r I L
  ·rw[Af z];refine(Y8 h d).bk z λE=>?_;rw[Af E]
def NQ(h:AH P Q)(z:Cm Q (N+A.AN.length) R):Du (A.C P).1 (A.C Q).1:=by
 unfold Ar.C;by_cases d:(PD.ax A.AN P).1=0
 ·obtain⟨H,_⟩:=AH.ax A.AN h z d;rw[Ac (nn d),Ac (nn H)];exact .inr (.inr rfl)
 ·rw[Af d];refine(RO A.AN h z).bk d λE=>?_;rw[Af E]
def RQ(h:AH P Q)(d:Cm Q (N+(A.aV Q).length) R):Du (A.au P).1 (A.au Q).1:=by
 unfold Ar.au;rw[h.aV];exact RS _ h d
def Yd(h:AH P Q)(L:Cm Q (N+2) R)(hR:12<=R):Du (J.av P).1 (J.av Q).1:=by
 unfold Jn.av;by_cases z:(P.ai (A7 (Ae (J.A8+1)))).1=0
 ·obtain⟨W,H,I⟩:=h.ai (N:=N+1) L z;rw[Ac (nn z),Ac (nn W)];dsimp only
  by_cases d:((P.ai (A7 (Ae (J.A8+1)))).2.aa (A7 (Ae (J.A8+1))) (AE (Ae (J.A8+1))) (AO J.puts)).2.1=0
  ·obtain⟨-,O,_⟩:=H.bY (N:=N) (nm:=Ae (J.A8+1)) (s:=AE (Ae (J.A8+1))) (l:=AO J.puts) I (by rw[CJ];omega) d;rw[Ac (nn d),Ac (nn O)];exact .inr (.inr rfl)
  ·rw[Af d];refine(NR (N:=N) H I (by rw[CJ];omega)).bk d λE=>?_;rw[Af E]
 ·rw[Af z];refine(RV (N:=N+1) h L).bk z λE=>?_;rw[Af E]
def RT(h:AH P Q)(d:Cm Q (N+1) R)(hR:21<=R)(p:Pu):Du (J.aw P p).2.1 (J.aw Q p).2.1:=by
 unfold Jn.aw;cases J.AF with
 | none=>exact .inr (.inr rfl)
 | some x=>exact NR h d (by rw[EP];omega)
def Yb(h:AH P Q)(z:Cm Q (N+3) R)(hR:33<=R)(p:Pu):Du (J.aa P p).2.1 (J.aa Q p).2.1:=by
 unfold Jn.aa;split
 ·by_cases d:(J.av P).1=0
  ·obtain⟨I,L,O,E⟩:=h.av (N:=N+1) z (by omega) d;rw[Ac (nn d),Ac (nn I),L];exact RT O E (by omega) p
  ·rw[Af d];refine(Yd (N:=N+1) h z (by omega)).bk d λH=>?_;rw[Af H]
 ·exact RT (N:=N+2) h z (by omega) p
def Yg(h:AH P Q)(Y:Cm Q (N+A.AN.length+3) R)(L:33<=R)(p:Pu):Du (A.aa P p).2.1 (A.aa Q p).2.1:=by
 have d:Cm Q (N+3+A.AN.length) R:=Y.ad (by omega) (Au _);unfold Ar.aa;by_cases z:(A.C P).1=0
 ·obtain⟨I,O,W,E⟩:=h.C d z;rw[Ac (nn z),Ac (nn I),O];exact Yb W E L p
 ·rw[Af z];refine(NQ h d).bk z λH=>?_;rw[Af H]
def Ya(h:AH P Q)(d:Cm Q (N+1) R):Du (J.ae P).1 (J.ae Q).1:=by
 unfold Jn.ae;cases J.AF with
 | none=>exact .inr (.inr rfl)
 | some x=>exact NP h d
def Yf(h:AH P Q)(hc:Cm Q (N+A.AN.length+2) R):Du (A.ae P).1 (A.ae Q).1:=by
 have d:Cm Q (N+2+A.AN.length) R:=hc.ad (by omega) (Au _);unfold Ar.ae;by_cases E:(A.C P).1=0
 ·obtain⟨W,Y,L,I⟩:=h.C d E;rw[Ac (nn E),Ac (nn W),Y];by_cases z:((A.C Q).2.1.j.ae (A.C P).2.2).1=0
  ·obtain⟨O,b2,b3⟩:=L.eT (N:=N+1) I z;rw[Ac (nn z),Ac (nn O)];exact RN b3
  ·rw[Af z];refine(Ya (N:=N+1) L I).bk z λH=>?_;rw[Af H]
 ·rw[Af E];refine(NQ h d).bk E λH=>?_;rw[Af H]
def RU:∀(fresh:List (List Pu)) (last:Int) (kept:List Int) {P Q:PD},AH P Q->Cm Q (N+3*fresh.length) (R+Dg fresh)->Du (PD.ah fresh last kept P).1 (PD.ah fresh last kept Q).1
 | [],_,_,_,_,_,_=>.inr (.inr rfl)
 | l::r,last,kept,P,Q,h,hc=>by
  have z:Dg (l::r)=(17*l.length+4)+Dg r:=by simp[Dg]
  have hpl:(Cd l).length=17*l.length:=HR l;have E:Cm Q (N+3*r.length+3) (R+Dg r+((Cd l).length+4)):=hc.ad (by simp;omega) (by rw[z];omega);have d:∀X:PD,PD.ah (l::r) last kept X=if (X.aL (last+1) l).1≠0 then ((X.aL (last+1) l).1,last+1,kept,(X.aL (last+1) l).2) else PD.ah r (last+1) (kept++[last+1]) (X.aL (last+1) l).2:=λ_=>rfl
  rw[d,d];by_cases H:(P.aL (last+1) l).1=0
  ·obtain⟨Y,a2,W⟩:=AH.aH (N:=N+3*r.length) h E (by omega) H;have I:(Q.aL (last+1) l).1=0:=Y;rw[Ac (nn H),Ac (nn I)];exact RU r (last+1) _ a2 (W.ad (Au _) (by omega))
  ·rw[Af H];refine(RM (N:=N+3*r.length) h E (by omega)).bk H λO=>?_;have L:(Q.aL (last+1) l).1≠0:=O;rw[Af L];rfl
def Y9{d:Int}{segs:List Int}(h:AH P Q)(E:Cm Q (N+4) R)(hR:12+8*segs.length<=R):Du (P.ag d segs).1 (Q.ag d segs).1:=by
 have hl:(Ch d segs).length=8+8*segs.length:=by unfold Ch;rw[AZ,CJ,IP]
 unfold PD.ag;by_cases z:(P.aH Bk (AE AI) (Ch d segs)).1=0
 ·obtain⟨I,L,O⟩:=h.aH (N:=N+1) E (by omega) z;rw[Ac (nn z),Ac (nn I)];exact Y7 L O
 ·rw[Af z];refine(RM (N:=N+1) h E (by omega)).bk z λH=>?_;rw[Af H]
def Ye{segs:List Int}(h:AH P Q)(E:Cm Q (N+4) R)(z:12+8*segs.length<=R):Du (A.ag P segs).1 (A.ag Q segs).1:=by
 unfold Ar.ag;split
 ·exact .inr (.inr rfl)
 ·by_cases d:(P.ag (A.j.A8+1) segs).1=0
  ·obtain⟨I,_⟩:=h.cQ E z d;rw[Ac (nn d),Ac (nn I)];exact .inr (.inr rfl)
  ·rw[Af d];refine(Y9 h E z).bk d λH=>?_;rw[Af H]
def Yc(h:AH P Q)(L:Cm Q (N+(A.aV Q).length+1) R):Du (A.aZ P).1 (A.aZ Q).1:=by
 have d:Cm Q (N+1+(A.aV Q).length) R:=L.ad (by omega) (Au _);unfold Ar.aZ;by_cases z:(A.au P).1=0
 ·obtain⟨H,a2,I⟩:=h.au d z;rw[Ac (nn z),Ac (nn H)];exact RN I
 ·rw[Af z];refine(RQ h d).bk z λE=>?_;rw[Af E]
def RR(h:AH P Q)(kept:List Int)(fresh:List (List Pu))(hc:Cm Q (N+A.AN.length+2*Q.dl+4*fresh.length+8) (R+Dg fresh+12+8*(kept.length+fresh.length))):Du (A.ay P kept fresh).1 (A.ay Q kept fresh).1:=by
 have L:Cm Q (N+2*Q.dl+4*fresh.length+8+A.AN.length) (R+Dg fresh+12+8*(kept.length+fresh.length)):=hc.ad (by omega) (Au _);unfold Ar.ay;dsimp only
 by_cases Y:(A.C P).1=0
 ·obtain⟨a1,a2,a3,a4⟩:=h.C L Y;rw[Ac (nn Y),Ac (nn a1),a2];have d1:(A.C Q).2.2.dl=Q.dl:=by unfold Ar.C;split<;>exact OG _ _
  have o1:=LI (A.C Q).2.1 (A.C Q).2.2;have E:Cm (A.C Q).2.2 (N+Q.dl+4*fresh.length+8+((A.C Q).2.1.aV (A.C Q).2.2).length) (R+Dg fresh+12+8*(kept.length+fresh.length)):=a4.ad (by omega) (Au _);by_cases W:((A.C Q).2.1.au (A.C P).2.2).1=0
  ·obtain⟨b1,b2,b3⟩:=a3.au E W;(have d2:((A.C Q).2.1.au (A.C Q).2.2).2.dl<=Q.dl:=by rw[<-d1];exact M3 _ _);rw[Ac (nn W),Ac (nn b1)];have I:Cm ((A.C Q).2.1.au (A.C Q).2.2).2 (N+Q.dl+fresh.length+8+3*fresh.length) (R+12+8*(kept.length+fresh.length)+Dg fresh):=b3.ad (by omega) (by omega);by_cases h3:(PD.ah fresh (A.C Q).2.1.A8 kept ((A.C Q).2.1.au (A.C P).2.2).2).1=0
   ·obtain⟨c1,c2,c3,c4,c5⟩:=AH.ah fresh (A.C Q).2.1.A8 kept b2 I h3;obtain⟨d3,d4⟩:=JC fresh (A.C Q).2.1.A8 kept ((A.C Q).2.1.au (A.C Q).2.2).2;rw[Ac (nn h3),Ac (nn c1),c2,c3];obtain⟨A2,aD⟩:∃A2:Ar,({ (A.C Q).2.1 with A8:=(PD.ah fresh (A.C Q).2.1.A8 kept ((A.C Q).2.1.au (A.C Q).2.2).2).2.1}:Ar)=A2:=⟨_,rfl⟩;rw[aD];obtain⟨sg,aB⟩:∃sg,(PD.ah fresh (A.C Q).2.1.A8 kept ((A.C Q).2.1.au (A.C Q).2.2).2).2.2.1=sg:=⟨_,rfl⟩;rw[aB]at d4 ⊢;obtain⟨aE,H⟩:∃aE,(PD.ah fresh (A.C Q).2.1.A8 kept ((A.C Q).2.1.au (A.C P).2.2).2).2.2.2=aE:=⟨_,rfl⟩;obtain⟨O,d⟩:∃O,(PD.ah fresh (A.C Q).2.1.A8 kept ((A.C Q).2.1.au (A.C Q).2.2).2).2.2.2=O:=⟨_,rfl⟩;rw[H]at c4;rw[H,d];rw[d]at c4 c5 d3;clear H d aD aB h3 c1 c2 c3 W b1 b2 b3 Y a1 a2 a3 a4 L E I;have aA:Cm O (N+Q.dl+fresh.length+4+4) (R+12+8*(kept.length+fresh.length)):=c5.ad (by omega) (Au _);by_cases h4:(A2.ag aE sg).1=0
    ·obtain⟨e1,e2,e3,e4⟩:=c4.cw (A:=A2) (segs:=sg) aA (by omega) h4;have d5:=OH A2 O sg;rw[Ac (nn h4),Ac (nn e1),e2];have o2:=LI (A2.ag O sg).2.1 (A2.ag O sg).2.2;exact Yc (N:=N) e3 (e4.ad (by omega) (Au _))
    ·rw[Af h4];refine(Ye c4 aA (by omega)).bk h4 λz=>?_;rw[Af z]
   ·rw[Af h3];refine(RU fresh (A.C Q).2.1.A8 kept b2 I).bk h3 λz=>?_;rw[Af z]
  ·rw[Af W];refine(RQ a3 E).bk W λz=>?_;rw[Af z]
 ·rw[Af Y];refine(NQ h L).bk Y λz=>?_;rw[Af z]
end
section
variable {bd:Int×Int} {P P':PD} {A:Ar} {sg cl:List (Int×List Pu)} {ol:Option (List Pu)} {puts:List Pu} {Ad:Nat} {o:Int}
def Du.cG{a b:Int}(h:Du a b)(d:b=0):a=0\/a=5\/a=6:=by
 rcases h with e|e|e
 ·exact .inr (.inl e)
 ·exact .inr (.inr e)
 ·exact .inl (e.trans d)
def SI.eQ(h:SI bd A P puts Ad o sg cl ol)(E:ol=none->isNum (A.j.A8+1)=true)(p:Pu)(z:Bg p)(hll:A.AN.length<=1099511627776):(A.aa P p).2.1=0\/(A.aa P p).2.1=5\/(A.aa P p).2.1=6:=by
 have d:Cm P.aR (0+A.AN.length+3) 33:=h.di.bh.aR.ad (by omega) (by omega);refine(Yg (AH.aR P) d (Au _) p).cG ?_;exact((h.AX.aI (P':=P.aR) λm=>((AH.aR P).bs m).symm).aa d E p z (Au _)).2.1
def SI.fP(h:SI bd A P puts Ad o sg cl ol)(hll:A.AN.length<=1099511627776):(A.ae P).1=0\/(A.ae P).1=5:=by
 have d:Cm P.aR (0+A.AN.length+2) 0:=h.di.bh.aR.ad (by omega) (by omega);have:=(Yf (AH.aR P) d).cG ((h.AX.aI (P':=P.aR) λm=>((AH.aR P).bs m).symm).ae d).1;have h6:=Ue A P;omega
def SI.fI{Ai:Int}(h:SI bd A P puts Ad o sg cl ol)(I:BS (AA Ai))(hn:isNum (A.j.A8+1)=true){n:Nat}(hcount:(B6 sg cl ol).length<=n)(hn2:n<=1073741824)(z:A.A8+n<=4611686018427387904)(hbig:A.AN.length+P.Ax.length+A.j.Aj.length+2*sg.length<=1073741824):(A.aT P Ai).1=0\/(A.aT P Ai).1=5\/(A.aT P Ai).1=6:=by
 have hl0:(B6 sg cl ol).length=(Aw sg).length+(Aw cl++ol.getD []).length:=by unfold B6;rw[AZ]
 have W:=h.AX.aI (P':=P.aR) λm=>((AH.aR P).bs m).symm
 have L:=h.di.bh.aR;have H:P.aR.Ax.length<=1073741824:=by
  have e:P.aR.Ax=P.Ax:=rfl;rw[e];omega
 have O:=(W.aT I (N:=0) (R:=0) (K:=1073741824) (n:=n) (by omega) (by omega) H (by omega) (by omega) (by omega) (L.ad (by omega) (by omega)) hn z).1;refine Du.cG (b:=(A.aT P.aR Ai).1) ?_ O;have Y:=h.AX.puts h.CQ;have d:=H9 I (Aw cl++ol.getD []);have hfl:=GV d.ne;have hfl2:=d.B8;have hcost:=Jg (Bx Ai (Aw cl++ol.getD []));have hsg:A.ix.segs.length=sg.length:=by rw[<-h.AX.segs,FR]
 have E:P.aR.dl=P.Ax.length:=by rw[Ha];rfl
 unfold Ar.aT;rw[<- (AH.aR P).puts,Y,Ac (by simp),Ac (by simp)];exact RR (N:=0) (R:=0) (AH.aR P) _ _ (L.ad (by rw[E];dsimp only;omega) (by dsimp only;omega))
def SI.fD{Ai:Int}(h:SI bd A P puts Ad o sg cl ol)(hw:BS (AA Ai))(hn:isNum (A.j.A8+1)=true){n:Nat}(z:(B6 sg cl ol).length<=n)(hn2:n<=1073741824)(O:A.A8+n<=4611686018427387904)(hbig:A.AN.length+P.Ax.length+A.j.Aj.length+2*sg.length<=1073741824):(A.aQ P Ai o).1=0\/(A.aQ P Ai o).1=5\/(A.aQ P Ai o).1=6:=by
 have hl0:(B6 sg cl ol).length=(Aw sg).length+(Aw cl++ol.getD []).length:=by unfold B6;rw[AZ]
 have hL:=h.AX.aI (P':=P.aR) λm=>((AH.aR P).bs m).symm
 have hc:Cm P.aR 4611686018427387904 4611686018427387904:=h.di.bh.aR;have Y:P.aR.Ax.length<=1073741824:=by
  have e:P.aR.Ax=P.Ax:=rfl;rw[e];omega
 have hq:=(hL.aQ (oldest:=o) hw (N:=0) (R:=0) (K:=1073741824) (n:=n) z (by omega) Y (by omega) (by omega) (by omega) (hc.ad (by omega) (by omega)) hn O).1;refine Du.cG (b:=(A.aQ P.aR Ai o).1) ?_ hq;have hp:=h.AX.puts h.CQ;have E:=H9 hw (B6 sg cl ol);have hfl2:=E.B8;have d:=Js sg o (Bx Ai (B6 sg cl ol));have L:=d.length_eq;have I:=d.flatten.length_eq;have hal:(DK o (Bx Ai (B6 sg cl ol))).length<=(Bx Ai (B6 sg cl ol)).length:=J1 _ _;have H:=(Jz (λl=>l.any λp=>decide (o<=p.2.1)) (Bx Ai (B6 sg cl ol))).length_le;have haf2:(DK o (Bx Ai (B6 sg cl ol))).flatten.length<=(Bx Ai (B6 sg cl ol)).flatten.length:=H;have hfl:=GV E.ne;have hcost:=Jg (BG sg o (Bx Ai (B6 sg cl ol))).2;rw[AZ,FR]at L;rw[UW,AZ]at I;have hks:(BG sg o (Bx Ai (B6 sg cl ol))).1.length=(G4 sg o (Bx Ai (B6 sg cl ol))).length:=by rw[Jt,FR]
 have W:P.aR.dl=P.Ax.length:=by rw[Ha];rfl
 unfold Ar.aQ;rw[<- (AH.aR P).segs,h.AX.b7];dsimp only
 have e2:sg.flatMap (·.2)++(P.puts A.j.Aj).1=B6 sg cl ol:=by rw[hp];rfl
 rw[<- (AH.aR P).puts,e2,hp,Ac (by simp),Ac (by simp)];exact RR (N:=0) (R:=0) (AH.aR P) _ _ (hc.ad (by rw[W];omega) (by rw[ME];omega))
end
end
end Go.Proofs.YtodcnkbblippnabGreatDoor
