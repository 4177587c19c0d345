/- Part 28 of a proof: walks of the program. -/
import Derived.Test.YtodcnkbblippnaaGreatDoorPart27
namespace Go.Proofs.YtodcnkbblippnaaGreatDoor
set_option maxRecDepth 100000
set_option maxHeartbeats 32000000
set_option linter.defProp false
open Go.Proofs.Tryz
section
open Go.RowKit
def Reads(bd:Int×Int)(P:PD)(q:gh Pu)(o:Int):Prop:=∃A sg cl ol,Lay P A sg cl ol/\C4 o (B7 sg cl ol) q/\HX bd A.ix sg
def Whole(bd:Int×Int)(V:View)(q:gh Pu)(o:Int):Prop:=∃ix sg cl lo,CW bd V ix sg cl lo/\(Au cl).length<=1099511627776/\C4 o (Au sg++Au cl++EM lo) q
section
variable{bd:Int×Int}{P P':PD}{V V':View}{A:Ar}{ix:Ix}{sg cl:gh (Int×gh Pu)}{lo:Option (Int×gh Pu)}{ol:Option (gh Pu)}{pd q:gh Pu}{Ad:Nat}{o:Int}{nm:Bs}
def CW.AV(h:CW bd P.fl ix sg cl lo)(hl:(Au cl).length<=1099511627776)(K L:Int)(hK:0<=K/\ix.AZ<=K+1)(aA:∀n,isNum n=true->P.fl (Af n)≠none->n<=K)(hL:0<=L)(aB:∀n,isNum n=true->P.fl (Aw n)≠none->n<=L):
 Lay P ⟨ix,⟨cl.map (·.1)++(lo.map (·.1)).toList,K,((Au cl++EM lo).length:Int),none⟩,L,[]⟩ sg (cl++lo.toList) none:=by
 have O:∀m,P.bs m≠none->P.fl m≠none:=λm hm e=>hm (Gv.2 e);have z:∀x∈cl++lo.toList,(isNum x.1=true/\ix.AZ<=x.1)/\(∀p∈x.2,B8 p)/\P.fl (Af x.1)≠none:=λx d=>by
  rcases AU.1 d with d|d
  ·have⟨H,E,c,I,_⟩:=h.CV x d;exact⟨H,E,by rw[I];simp⟩
  ·cases lo with
   | none=>simp at d
   | some y=>
    simp at d;subst d;obtain⟨n,l⟩:=x;have⟨H,E,c,I,_⟩:=h.A8 n l rfl;exact⟨H,E,by rw[I];simp⟩
 have Y:Au (cl++lo.toList)=Au cl++EM lo:=by
  cases lo with
  | none=>simp[Au,EM]
  | some y=>simp[Au,EM]
 have W:FA P.fl 0 (cl++lo.toList):=by
  cases lo with
  | none=>simpa using h.Ak
  | some y=>
   obtain⟨n,l⟩:=y;have⟨_,E,c,I,h4⟩:=h.A8 n l rfl;refine h.Ak.bS ?_;unfold Jv;rw[I];dsimp only
   rw[O1];exact h4.aS (by constructor<;>omega) E
 refine⟨h.DH.1,?_,h.sd,λx d=>?_,λx d=>⟨⟨(z x d).1.1,aA _ (z x d).1.1 (z x d).2.2⟩,(z x d).2.1⟩,λx _ d=>absurd rfl d,⟨λx d=>(z x d).1.2,λd=>absurd rfl d⟩,FA.at.1 W,?_,⟨rfl,?_⟩,⟨hK.1,hK.2,λn H E=>aA n H (O _ E)⟩,⟨hL,λn H E=>aB n H (O _ E)⟩,λm hm=>(by cases hm),h.EV,λm hm=>(h.Ef m (O m hm)).1,λn H E I=>h.Ck n H E (O _ I)⟩
 ·rcases h.IP with⟨H,E⟩|⟨c,H,_,I⟩
  ·exact .inl ⟨Gv.2 H,E⟩
  ·exact .inr (by rw[Qv H,I])
 ·have⟨H,c,E,_,h4⟩:=h.BN x d;exact⟨H,by rw[Qv E,h4]⟩
 ·dsimp only;rw[Y]
 ·dsimp only
  rw[Ei];cases lo<;>simp
def Whole.bu(h:Whole bd P.fl q o):Reads bd P q o:=by
 obtain⟨ix,sg,cl,lo,H,L,O⟩:=h;have I:=H.DH.1.AZ;unfold isNum at I;simp at I;have E:=H.AV L 4611686018427387904 4611686018427387904 ⟨by decide,by omega⟩ (λn d _=>by unfold isNum at d;simp at d;exact d.2) (by decide) (λn d _=>by unfold isNum at d;simp at d;exact d.2);refine⟨_,sg,_,none,E,?_,H.DH⟩;unfold B7;have z:Au (cl++lo.toList)=Au cl++EM lo:=by
  cases lo<;>simp[Au,EM]
 rw[z];simpa[List.append_assoc] using O
def FU.bt{n:Int}{d:Nat}(h:FU bd V pd Ad o n d)(ha:d<=1099511627776):Whole bd V pd o:=by
 obtain⟨ix,sg,cl,l,nb,c,H,hnb,z,h1,h2,h3,h4,E⟩:=h;refine⟨ix,sg,cl,some (n,l),H,by omega,?_⟩;have:pd=pd.take nb++l:=by rw[E,DU]
 conv=>rhs;rw[this]
 exact z.dz l
def Reads.aZ{d:Int×Int}(h:Reads bd P q o)(z:I3 bd d):Reads d P q o:=by
 obtain⟨A,sg,cl,ol,H,E,I⟩:=h;exact⟨A,sg,cl,ol,H,E,I.aZ z⟩
def Reads.bP{d:Int}(h:Reads bd P q o)(z:o<=d):Reads bd P q d:=by
 obtain⟨A,sg,cl,ol,H,E,I⟩:=h;exact⟨A,sg,cl,ol,H,E.bP z,I⟩
def Reads.ay(h:Reads bd P q o)(d:∀m,P'.bs m=P.bs m):Reads bd P' q o:=by
 obtain⟨A,sg,cl,ol,E,z,H⟩:=h;exact⟨A,sg,cl,ol,E.ay d,z,H⟩
def Rx(P:PD)(nm:gg)(m:Bs):(P.fl m=none/\(P.ad nm).2.fl m=none)\/∃c d,P.fl m=some c/\(P.ad nm).2.fl m=some d/\d.1=c.1/\(d.2=c.2\/BV d):=by
 cases hx:lookup P.D.A4 nm with
 | none=>
  have e:(P.ad nm).2=P:=by unfold PD.ad Cq;rw[hx]
  rw[e];cases hf:P.fl m with
  | none=>exact .inl ⟨rfl,rfl⟩
  | some c=>exact .inr ⟨c,c,rfl,rfl,rfl,.inl rfl⟩
 | some f=>
  have⟨a1,a2,a3,h⟩:=Je hx;unfold PD.fl;rw[a1];cases hk:lookup P.D.A4 (A6 m) with
  | none=>exact .inl ⟨rfl,rfl⟩
  | some g=>
   refine .inr ⟨P.F g,(P.ad nm).2.F g,rfl,rfl,?_⟩;rcases h with h|h
   ·rw[h];exact⟨rfl,.inl rfl⟩
   ·rw[h];by_cases e:g=f
    ·subst e;simp[upd,BV]
    ·simp[upd,e]
def Om(P:PD)(nm:gg)(m:Bs):(P.ad nm).2.bs m=P.bs m:=by
 unfold PD.bs;rcases Rx P nm m with⟨z,h⟩|⟨c,d,z,h,E,_⟩
 ·rw[z,h]
 ·rw[z,h];simp[E]
def RF:∀(l:gh Bs) (P:PD) (m:Bs),(PD.az l P).2.bs m=P.bs m
 | [],P,m=>rfl
 | x::r,P,m=>by
  unfold PD.az;split
  ·exact Om P (A6 x) m
  ·rw[RF r,Om]
def OE(A:Ar)(P:PD)(m:Bs):(A.C P).2.2.bs m=P.bs m:=by
 unfold Ar.C;split<;>exact RF _ _ m
def Ol{c:FC}{P:PD}{nm:gg}{m:Bs}(h:∀c,P.fl m=some c->BV c)(E:(P.ad nm).2.fl m=some c):BV c:=by
 rcases Rx P nm m with⟨_,H⟩|⟨a,d,I,H,L,z⟩
 ·rw[H]at E;cases E
 ·rw[H]at E;cases E;rcases z with z|z
  ·have:=h a I;unfold BV at this ⊢;rw[z,L];exact this
  ·exact z
def Oo:∀(l:gh Bs) {P:PD} {m:Bs},(∀c,P.fl m=some c->BV c)->∀c,(PD.az l P).2.fl m=some c->BV c
 | [],P,m,h,c,d=>h c d
 | x::r,P,m,h,c,d=>by
  unfold PD.az at d;split at d
  ·exact Ol h d
  ·exact Oo r (λc d=>Ol h d) c d
def Rw{P:PD}{x:Bs}(d:(P.ad (A6 x)).1=0):∀c,(P.ad (A6 x)).2.fl x=some c->BV c:=by
 intro c h;unfold PD.fl PD.ad Cq at h;unfold PD.ad Cq at d;cases hx:lookup P.D.A4 (A6 x) with
 | none=>rw[hx]at d;cases d
 | some f=>
  rw[hx]at d h;dsimp only at d h;rw[Ae d,hx]at h;simp[upd]at h;subst h;rfl
def RD:∀(l:gh Bs) {P:PD},(PD.az l P).1=0->∀m∈l,∀c,(PD.az l P).2.fl m=some c->BV c
 | x::r,P,hok,m,h,c,hc=>by
  unfold PD.az at hok hc;by_cases d:(P.ad (A6 x)).1=0
  ·rw[Aa (nn d)]at hok hc;rcases BB.1 h with rfl|h
   ·exact Oo r (Rw d) c hc
   ·exact RD r hok m h c hc
  ·rw[Ae d]at hok;exact absurd hok d
def YO(d:(A.C P).1=0){m:Bs}(h:∀c,P.fl m=some c->m∈A.AN\/BV c):∀c,(A.C P).2.2.fl m=some c->BV c:=by
 intro c z;unfold Ar.C at d z;by_cases E:(P.az A.AN).1=0
 ·rw[Aa (nn E)]at z;by_cases H:m∈A.AN
  ·exact RD A.AN E m H c z
  ·exact Oo A.AN (λc z=>(h c z).resolve_left H) c z
 ·rw[Ae E]at d;exact absurd d E
def FU.bL{n:Int}{Y:Nat}(h:FU bd V pd Ad o n Y)(H:∀nm,(∀c,V nm=some c->∃d,V' nm=some d/\d.1=c.1/\(d.2=c.2\/BV d))/\(V nm=none->V' nm=none)):FU bd V' pd Ad o n Y:=by
 obtain⟨ix,sg,cl,l,nb,c,L,O,hs,W,g2,g3,g4,g5⟩:=h;have I:∀nm,V' nm≠none->V nm≠none:=λnm z E=>z ((H nm).2 E);have⟨d,e1,e2,e3⟩:=(H _).1 c W;refine⟨ix,sg,cl,l,nb,d,L.bL (λnm _=>?_) (λnm z=>L.Ef nm (I nm z)) (λnm c z=>?_),O,hs,e1,by rw[e2];exact g2,g3,AJ g4 (Mg (Vk e2 e3 (L.E7 _ _ W).2) _),g5⟩
 ·cases E:V nm with
  | none=>exact .inl ⟨rfl,(H nm).2 E⟩
  | some c=>have⟨d,d1,d2,d3⟩:=(H nm).1 c E;exact .inr ⟨c,d,rfl,d1,d2,d3⟩
 ·cases E:V nm with
  | none=>rw[(H nm).2 E]at z;cases z
  | some x=>
   have⟨d,d1,d2,d3⟩:=(H nm).1 x E;rw[d1]at z;cases z;have:=L.E7 nm x E;rcases d3 with d3|d3
   ·rw[d2,d3];exact this
   ·unfold BV at d3;omega
def Ey.bR{n:Int}{f L:Nat}(h:Ey bd P pd Ad o n f L)(nm:gg):Ey bd (P.ad nm).2 pd Ad o n f L:=by
 cases hx:lookup P.D.A4 nm with
 | none=>
  have e:(P.ad nm).2=P:=by unfold PD.ad Cq;rw[hx]
  rw[e];exact h
 | some g0=>
  have⟨a1,a2,a3,d⟩:=Je hx;have es:Bn (P.ad nm).2=Bn P:=by unfold Bn;rw[a2,a3]
  refine⟨by rw[a1];exact h.1,λs I=>?_⟩;rw[es]at I;rcases h.2 s I with E|⟨O,H⟩
  ·exact .inl E
  ·refine .inr ⟨O,?_⟩;rcases d with d|d
   ·rw[d];exact H
   ·refine H.bL λm=>?_;unfold vw;cases hk:lookup s (A6 m) with
    | none=>exact⟨λc z=>by simp at z,λ_=>rfl⟩
    | some g=>
     refine⟨λc z=>?_,λW=>by simp at W⟩;simp at z;subst z;rw[d];by_cases e:g=g0
     ·subst e;exact⟨_,rfl,by simp[upd],.inr (by simp[upd,BV])⟩
     ·exact⟨P.F g,by simp[upd,e],rfl,.inl rfl⟩
def Ey.az{n:Int}{f z:Nat}:∀(l:gh Bs) {P:PD},Ey bd P pd Ad o n f z->Ey bd (PD.az l P).2 pd Ad o n f z
 | [],P,h=>h
 | x::r,P,h=>by
  have d:=h.bR (A6 x);unfold PD.az;split
  ·exact d
  ·exact Ey.az r d
def Ey.C{n:Int}{f d:Nat}(h:Ey bd P pd Ad o n f d):Ey bd (A.C P).2.2 pd Ad o n f d:=by
 unfold Ar.C;split<;>exact h.az _
end
structure SI (bd:Int×Int) (A:Ar) (P:PD) (pd:gh Pu) (Ad:Nat) (o:Int) (sg cl:gh (Int×gh Pu)) (ol:Option (gh Pu)):Prop where
 di:DI bd P pd Ad o
 AV:Lay P A sg cl ol
 IY:∃nb,nb<=pd.length/\C4 o (Au sg++Au cl) (pd.take nb)/\ol.getD []=pd.drop nb/\(ol=none->Ad<=nb)
 Fu:∀m,(m=Ay\/(∃x∈sg,m=Aw x.1)\/∃x∈cl,m=Af x.1)->∀c,P.fl m=some c->m∈A.AN\/BV c
 AE:∀l,ol=some l->∃f,Ey bd P pd Ad o A.j.A8 f (Au cl).length
 CZ:(Au cl).length<=1099511627776
 Ew:HX bd A.ix sg/\A.j.A8<=bd.1/\A.A8<=bd.2
section
variable{bd:Int×Int}{P P':PD}{A:Ar}{sg cl:gh (Int×gh Pu)}{ol:Option (gh Pu)}{pd:gh Pu}{Ad:Nat}{o:Int}
def DI.E7(h:DI bd P pd Ad o)(nm:Bs)(c:FC)(d:P.fl nm=some c):0<=c.2/\c.2<=c.1.length:=by
 have⟨ix,sg,cl,lo,nb,hL,_⟩:=h.DP _ h.CG;exact hL.E7 nm c d
def DI.Ai(h:DI bd P pd Ad o):∀nm,P.fl nm≠none->EF bd nm:=by
 have⟨ix,sg,cl,lo,nb,hL,_⟩:=h.DP _ h.CG;exact hL.Ef
def Ey.aZ{d:Int×Int}{n:Int}{f z:Nat}(h:Ey bd P pd Ad o n f z)(E:I3 bd d):Ey d P pd Ad o n f z:=
 ⟨h.1,λs H=>(h.2 s H).imp id λq=>⟨q.1,q.2.aZ E⟩⟩
def SI.aZ{d:Int×Int}(h:SI bd A P pd Ad o sg cl ol)(z:I3 bd d):SI d A P pd Ad o sg cl ol:=
 ⟨h.di.aZ z,h.AV,h.IY,h.Fu,λl e=>by have⟨f,hf⟩:=h.AE l e;exact⟨f,hf.aZ z⟩,h.CZ,h.Ew.1.aZ z,by have:=h.Ew.2.1;have:=z.1;omega,by have:=h.Ew.2.2;have:=z.2;omega⟩
def SI.Ck(h:SI bd A P pd Ad o sg cl ol):C4 o (B7 sg cl ol) pd:=by
 have⟨nb,h1,h2,h3,_⟩:=h.IY;unfold B7;rw[<-Ch,h3];have:pd=pd.take nb++pd.drop nb:=(DU _ _).symm
 conv=>rhs;rw[this]
 exact h2.dz _
def SI.bu(h:SI bd A P pd Ad o sg cl ol):Reads bd P pd o:=⟨A,sg,cl,ol,h.AV,h.Ck,h.Ew.1⟩
def SI.dB(h:SI bd A P pd Ad o sg cl ol):Ad<=pd.length:=by
 have⟨nb,h1,_,_,h4⟩:=h.IY;cases ol with
 | none=>exact AJ (h4 rfl) h1
 | some l=>
  have⟨f,hl,hO⟩:=h.AE l rfl;rcases hO _ h.di.CG with d|⟨_,ix,sg',cl',l',nb',c,_,hnb,_,_,_,_,E,z⟩
  ·exact absurd rfl (d _ (DY hl))
  ·(have:EX c l'<=l'.length:=by unfold EX;omega);rw[z,CO]at this;rw[z]at E;omega
def SI.dd(h:SI bd A P pd Ad o sg cl ol)(I:(A.C P).1=0):SI bd {A with AN:=[]} (A.C P).2.2 pd Ad o sg cl ol/\CW bd (A.C P).2.2.fl A.ix sg cl (ol.map λl=>(A.j.A8,l)):=by
 have W:=OE A P;have d:=h.AV.ay W;have O:Lay (A.C P).2.2 {A with AN:=[]} sg cl ol:=⟨d.DH,d.ix,d.sd,d.BN,d.CV,d.JH,d.EO,d.Ak,d.Gx,d.AE,d.EB,d.Ep,λm E=>(by cases E),d.Hl,d.Ef,d.HC⟩;have H:=h.di.C (A:=A);have z:∀m,(m=Ay\/(∃x∈sg,m=Aw x.1)\/∃x∈cl,m=Af x.1)->∀c,(A.C P).2.2.fl m=some c->BV c:=λm E=>YO I (h.Fu m E);exact⟨⟨H,O,h.IY,λm E c L=>.inr (z m E c L),λl e=>by have⟨f,hf⟩:=h.AE l e;exact⟨f,hf.C⟩,h.CZ,h.Ew⟩,O.bp h.CZ H.E7 (λm c E L=>z m E c L) h.Ew.1 H.Ai⟩
def SI.dD(h:SI bd A P pd Ad o sg cl ol):DI bd (A.C P).2.2 pd Ad o/\Reads bd (A.C P).2.2 pd o:=⟨h.di.C,h.bu.ay (OE A P)⟩
def A4H{P:PD}{nm:Bs}{f:Nat}{pc:Bs}(h:lookup P.D.A4 (A6 nm)=some f)(d:(P.ak (A6 nm) pc).2.D.A4=P.D.A4):Hn P.D P.F (A6 nm) pc=decide (((((P.ak (A6 nm) pc).2.F f).1.length:Int)-(P.F f).1.length)=pc.length):=by
 have e:Hn P.D P.F (A6 nm) pc=decide ((Cz (P.ak (A6 nm) pc).2.D (P.ak (A6 nm) pc).2.F (A6 nm)).1-(Cz P.D P.F (A6 nm)).1=pc.length):=rfl;rw[e];unfold Cz;rw[d,h]
def SI.ax{l:gh Pu}(h:SI bd A P pd Ad o sg cl (some l))(p:Pu)(hp:B8 p):
 DI bd (A.j.ax P p).2.2.2 (pd++[p]) Ad o/\((A.j.ax P p).1=true->(∃f,Ey bd (A.j.ax P p).2.2.2 (pd++[p]) Ad o A.j.A8 f (Au cl).length)/\Reads bd (A.j.ax P p).2.2.2 (pd++[p]) o)/\
  ((A.j.ax P p).1=false->DI bd (A.j.ax P p).2.2.2 pd Ad o/\Reads bd (A.j.ax P p).2.2.2 pd o):=by
 have⟨f,hO⟩:=h.AE l rfl;have⟨h1,h2,h3,h4,h5⟩:=h.AV.AE;have hl:=hO.1;have⟨c,hc,hcb⟩:=IS h3;have H:P.F f=c:=by unfold PD.fl at hc;rw[hl]at hc;simpa using hc
 rw[h.AV.Gx]at hcb h1;have L:(A.j.ax P p).2.2.2=(P.ak (A6 (Af A.j.A8)) (AS (F9 (Af A.j.A8) ((Au cl).length:Int) l) (Bc p.1 p.2.1 p.2.2))).2:=by
  unfold Jn.ax;rw[h1];rfl
 have E:(A.j.ax P p).1=Hn P.D P.F (A6 (Af A.j.A8)) (AS (F9 (Af A.j.A8) ((Au cl).length:Int) l) (Bc p.1 p.2.1 p.2.2)):=by
  unfold Jn.ax;rw[h1];rfl
 obtain⟨pc,aA⟩:∃pc,AS (F9 (Af A.j.A8) ((Au cl).length:Int) l) (Bc p.1 p.2.1 p.2.2)=pc:=⟨_,rfl⟩;have W:pc.length=21:=by rw[<-aA,EL,F7]
 rw[aA]at L E;have⟨a1,a2,a3,Y⟩:=J0 pc hl;have aF:=A4H (pc:=pc) hl a1;have hj:∃j,(P.ak (A6 (Af A.j.A8)) pc).2.F=upd P.F f (c.1++pc.take j,c.2)/\((A.j.ax P p).1=true↔21<=j):=by
  rcases Y with Y|⟨j,Y⟩
  ·refine⟨0,by rw[Y];funext g;by_cases e:g=f<;>simp[upd,e,H],?_⟩;rw[E,aF,Y,W];simp
  ·refine⟨j,by rw[Y,H],?_⟩;rw[E,aF,Y,W,H];simp only[upd,Cp,AY,BT,W,E0];omega
 obtain⟨j,hF,I⟩:=hj;rw[<-L]at hF a1 a2 a3;rw[<-aA]at hF;have⟨b1,b2,b3⟩:=hO.ak h.di H hcb p hp j a1 a2 a3 hF;refine⟨b1,λht=>?_,λht=>?_⟩
 ·have aB:=b2 (I.1 ht);refine⟨⟨f,aB⟩,?_⟩;rcases aB.2 _ b1.CG with z|⟨_,hw⟩
  ·exact absurd rfl (z _ (DY aB.1))
  ·exact Whole.bu (hw.bt h.CZ)
 ·have hj:j<21:=by
   by_cases d:21<=j
   ·rw[I.2 d]at ht;cases ht
   ·omega
  refine⟨b3 hj,?_⟩;have z:∀m,m≠Af A.j.A8->(A.j.ax P p).2.2.2.bs m=P.bs m:=λm hm=>by
   unfold PD.bs PD.fl;rw[a1,hF];cases hk:lookup P.D.A4 (A6 m) with
   | none=>rfl
   | some g=>
    have:g≠f:=λe=>hm (by
     have:=Jq (h.di.Ap _ h.di.CG) (DY hk) (DY hl) e
     exact FN.1 (Me this).1)
    simp[upd,this]
  have aE:(A.j.ax P p).2.2.2.bs (Af A.j.A8)=some (E9 (Af A.j.A8) ((Au cl).length:Int) l++(AS (F9 (Af A.j.A8) ((Au cl).length:Int) l) (Bc p.1 p.2.1 p.2.2)).take j):=by
   unfold PD.bs PD.fl;rw[a1,hl,hF];simp[upd,hcb]
  have aG:∀x∈cl,Af x.1≠Af A.j.A8:=λx d e=>h.AV.JH x d (by simp) (G6 (h.AV.CV x d).1.1 h5 e);have aD:EY (A.j.ax P p).2.2.2 0 (cl++[(A.j.A8,l)]):=by
   refine(h.AV.Ak.FM λx d=>z _ (aG x d)).bS ?_;rw[O1];exact Px (by constructor<;>have:=h.CZ<;>omega) h4 (by rw[BT];omega) aE
  refine⟨⟨A.ix,⟨A.j.Ak,A.j.A8,((Au (cl++[(A.j.A8,l)])).length:Int),none⟩,A.A8,[]⟩,sg,cl++[(A.j.A8,l)],none,?_,?_⟩
  ·refine⟨h.AV.DH,by rw[z _ (HD _).symm];exact h.AV.ix,h.AV.sd,λx d=>by rw[z _ (G8 _ x.1).symm];exact h.AV.BN x d,λx d=>?_,λx _ d=>absurd rfl d,⟨λx d=>?_,λd=>absurd rfl d⟩,aD,rfl,⟨rfl,by dsimp only;rw[h2];simp⟩,
    ⟨h.AV.EB.1,h.AV.EB.2.1,λn O k2=>?_⟩,⟨h.AV.Ep.1,λn O k2=>h.AV.Ep.2 n O (by rwa [z _ (G8 _ n).symm]at k2)⟩,λm hm=>(by cases hm),h.AV.Hl,λm hm=>?_,λn O k2 k3=>?_⟩
   ·rcases AU.1 d with d|d
    ·exact h.AV.CV x d
    ·simp at d;subst d;exact⟨⟨h5,I0 _⟩,h4⟩
   ·rcases AU.1 d with d|d
    ·exact h.AV.EO.1 x d
    ·simp at d;subst d;exact h.AV.EO.2 (by simp)
   ·by_cases e:Af n=Af A.j.A8
    ·have:=G6 O h5 e;rw[this];exact I0 _
    ·rw[z _ e]at k2;exact h.AV.EB.2.2 n O k2
   ·by_cases e:m=Af A.j.A8
    ·subst e;rw[LA h5];simp
    ·rw[z _ e]at hm;exact h.AV.Ef m hm
   ·by_cases e:Af n=Af A.j.A8
    ·have:=G6 O h5 e;subst this;show A.j.A8∈A.j.Ak;rw[h2];simp
    ·rw[z _ e]at k3;exact h.AV.HC n O k2 k3
  ·refine⟨?_,h.Ew.1⟩;have:=h.Ck;unfold B7 at this ⊢;simpa[Au] using this
end
section
variable{bd:Int×Int}{P P':PD}{A:Ar}{sg cl:gh (Int×gh Pu)}{ol:Option (gh Pu)}{pd:gh Pu}{Ad:Nat}{o:Int}
def SI.bp(h:SI bd A P pd Ad o sg cl ol)(d:A.AN=[]):CW bd P.fl A.ix sg cl (ol.map λl=>(A.j.A8,l)):=
 h.AV.bp h.CZ h.di.E7 (λm c z E=>(h.Fu m z c E).resolve_left (by rw[d];simp)) h.Ew.1 h.di.Ai
def SI.dx(h:SI bd A P pd Ad o sg cl none):C4 o (Au sg++Au cl) pd:=by
 have:=h.Ck;unfold B7 at this;simpa using this
def SI.aw(h:SI bd A P pd Ad o sg cl none)(aB:A.AN=[])(Y:isNum (A.j.A8+1)=true)(H:A.j.A8+1<=bd.1):
 (DI bd (A.j.aw P).2.2 pd Ad o/\Reads bd (A.j.aw P).2.2 pd o)/\((A.j.aw P).1=0->SI bd {A with j:=(A.j.aw P).2.1} (A.j.aw P).2.2 pd Ad o sg cl (some [])/\(A.j.aw P).2.1.A8=A.j.A8+1):=by
 have hL:=h.bp aB;have E:∀x∈cl,x.1<A.j.A8+1:=λx W=>by have:=(h.AV.CV x W).1.2;omega
 have hf:=h.AV.EB.2.1;have⟨d1,d2⟩:=h.di.aw (J:=A.j) hL h.dx h.dB Y H hf E h.AV.Gx;have⟨b1,⟨j,b2⟩,b3⟩:=Nu P A.j;have L:=Extra.fl h.di b1;refine⟨⟨d1,?_⟩,λd=>?_⟩
 ·rcases L with e|⟨h0,e⟩
  ·exact h.bu.ay λm=>by unfold PD.bs;rw[e]
  ·rw[b2,h.AV.Gx]at e;have hw:=(hL.dj h.dx h.dB Y H hf E j (V':=(A.j.aw P).2.2.fl) e).1;exact Whole.bu ⟨A.ix,sg,cl,some (A.j.A8+1,[]),hw.bp,h.CZ,by simpa[EM] using h.dx⟩
 ·have I:=(AG.aQ P).aw (J:=A.j) (N:=4611686018427387900) (R:=4611686018427387904) (h.di.bc.aQ.af (by omega) (Ao _)) (by omega) d;obtain⟨s1,s2,s3,s4⟩:=I;have hq:=(h.AV.ay (P':=P.aQ) λm=>((AG.aQ P).bs m).symm).aw (N:=4611686018427387900) (R:=4611686018427387904) (h.di.bc.aQ.af (by omega) (Ao _)) Y (by omega);have O:Lay (A.j.aw P).2.2 {A with j:=(A.j.aw P).2.1} sg cl (some []):=by
   rw[s2];exact hq.2.2.1.ay λm=>s3.bs m
  have z:(A.j.aw P).2.1.A8=A.j.A8+1:=by
   unfold Jn.aw at d ⊢;split at d
   ·rename_i h1;exact absurd d h1
   ·rename_i h1;rw[Aa h1];dsimp only at d ⊢;split at d
    ·rename_i h2;exact absurd d h2
    ·rename_i h2;rw[Aa h2]
  refine⟨⟨d1,O,?_,λm hm c hc=>?_,λl e=>?_,h.CZ,h.Ew.1,by dsimp only;rw[z];exact H,h.Ew.2.2⟩,z⟩
  ·have⟨nb,g1,g2,g3,g4⟩:=h.IY;exact⟨nb,g1,g2,g3,λe=>by cases e⟩
  ·
   have aA:m≠Af (A.j.A8+1):=by
    rcases hm with rfl|⟨x,_,rfl⟩|⟨x,W,rfl⟩
    ·exact(HD _).symm
    ·exact(G8 _ x.1).symm
    ·intro e;have:=G6 (h.AV.CV x W).1.1 Y e;have:=E x W;omega
   rcases L with e|⟨h0,e⟩
   ·rw[e]at hc;exact h.Fu m hm c hc
   ·rw[e,Aa aA]at hc;exact h.Fu m hm c hc
  ·cases e;exact⟨_,by dsimp only;rw[z];exact d2 d⟩
def SI.ef{l:gh Pu}(h:SI bd A P pd Ad o sg cl (some l))(p:Pu)(hp:B8 p)(W:(A.j.ax P p).2.1=0):
 (A.j.ax P p).1=true/\SI bd {A with j:=(A.j.ax P p).2.2.1} (A.j.ax P p).2.2.2 (pd++[p]) Ad o sg cl (some (l++[p])):=by
 have⟨s0,s1,s2,s3,s4⟩:=(AG.aQ P).ax (J:=A.j) (N:=4611686018427387900) (R:=4611686018427387904) (h.di.bc.aQ.af (by omega) (Ao _)) (by omega) p W;have hq:=(h.AV.ay (P':=P.aQ) λm=>((AG.aQ P).bs m).symm).ax (N:=4611686018427387900) (R:=4611686018427387904) (h.di.bc.aQ.af (by omega) (Ao _)) p hp (by omega);have Y:(A.j.ax P p).1=true:=by rw[s0];exact hq.1
 have⟨g1,g2,_⟩:=h.ax p hp;have H:Lay (A.j.ax P p).2.2.2 {A with j:=(A.j.ax P p).2.2.1} sg cl (some (l++[p])):=by
  rw[s2];exact hq.2.2.2.ay λm=>s3.bs m
 have d:(A.j.ax P p).2.2.1.A8=A.j.A8:=by unfold Jn.ax;cases A.j.AE<;>rfl
 have⟨f,hO⟩:=(g2 Y).1;refine⟨Y,⟨g1,H,?_,λm hm c hc=>?_,λl' e=>⟨f,by dsimp only;rw[d];exact hO⟩,h.CZ,h.Ew.1,by dsimp only;rw[d];exact h.Ew.2.1,h.Ew.2.2⟩⟩
 ·have⟨nb,k1,k2,k3,_⟩:=h.IY;refine⟨nb,by simp;omega,by rw[Hc k1];exact k2,?_,λe=>by cases e⟩;rw[Mo k1,<-k3];rfl
 ·
  have⟨h1,h2,h3,h4,h5⟩:=h.AV.AE;have I:m≠Af A.j.A8:=by
   rcases hm with rfl|⟨x,_,rfl⟩|⟨x,hx,rfl⟩
   ·exact(HD _).symm
   ·exact(G8 _ x.1).symm
   ·intro e;exact h.AV.JH x hx (by simp) (G6 (h.AV.CV x hx).1.1 h5 e)
  have⟨f0,hO0⟩:=h.AE l rfl;have E:(A.j.ax P p).2.2.2=(P.ak (A6 (Af A.j.A8)) (AS (F9 (Af A.j.A8) A.j.pd l) (Bc p.1 p.2.1 p.2.2))).2:=by
   unfold Jn.ax;rw[h1];rfl
  have⟨a1,_,_,z⟩:=J0 (AS (F9 (Af A.j.A8) A.j.pd l) (Bc p.1 p.2.1 p.2.2)) hO0.1;have O:(A.j.ax P p).2.2.2.fl m=P.fl m:=by
   rw[E];unfold PD.fl;rw[a1];cases hk:lookup P.D.A4 (A6 m) with
   | none=>rfl
   | some g=>
    have L:g≠f0:=λe=>I (by
     have:=Jq (h.di.Ap _ h.di.CG) (DY hk) (DY hO0.1) e
     exact FN.1 (Me this).1)
    rcases z with z|⟨j,z⟩
    ·rw[z]
    ·rw[z];simp[upd,L]
  rw[O]at hc;exact h.Fu m hm c hc
def SI.ae(h:SI bd A P pd Ad o sg cl ol)(O:ol=none->isNum (A.j.A8+1)=true/\A.j.A8+1<=bd.1)(p:Pu)(L:B8 p):
 DI bd (A.ae P p).2.2.2 (pd++[p]) Ad o/\((A.ae P p).1=true->Reads bd (A.ae P p).2.2.2 (pd++[p]) o)/\((A.ae P p).1=false->DI bd (A.ae P p).2.2.2 pd Ad o/\Reads bd (A.ae P p).2.2.2 pd o)/\
  ((A.ae P p).2.1=0->(A.ae P p).1=true/\SI bd (A.ae P p).2.2.1 (A.ae P p).2.2.2 (pd++[p]) Ad o sg cl (some (ol.getD []++[p]))/\(A.ae P p).2.2.1.AN=[]):=by
 unfold Ar.ae;by_cases H:(A.C P).1=0
 ·rw[Aa (nn H)];dsimp only
  have⟨hS,_⟩:=h.dd H;have W:(A.C P).2.1 = {A with AN:=[]}:=by
   unfold Ar.C at H ⊢;split at H
   ·rename_i E;exact absurd H E
   ·rename_i E;rw[Aa E]
  rw[W];dsimp only
  generalize (A.C P).2.2=P1 at hS;cases ol with
  | none=>
   have z:=h.AV.AE.1;have⟨⟨b1,b2⟩,b3⟩:=hS.aw rfl (O rfl).1 (O rfl).2;dsimp only at b1 b2 b3;by_cases E:(A.j.aw P1).1=0
   ·have⟨c1,c2⟩:=b3 E;have e:A.j.ae P1 p=(A.j.aw P1).2.1.ax (A.j.aw P1).2.2 p:=by
     unfold Jn.ae;rw[Ae z,Aa (nn E)]
    rw[e];have⟨d1,d2,d3⟩:=c1.ax p L;refine⟨d1,λI=>(d2 I).2,d3,λd=>?_⟩;have⟨e1,e2⟩:=c1.ef p L d;exact⟨e1,e2,rfl⟩
   ·have e:A.j.ae P1 p=(false,(A.j.aw P1).1,(A.j.aw P1).2.1,(A.j.aw P1).2.2):=by
     unfold Jn.ae;rw[Ae z,Ae E]
    rw[e];exact⟨b1.b9 [p],λI=>(by cases I),λ_=>⟨b1,b2⟩,λd=>absurd d E⟩
  | some l=>
   (have z:¬A.j.AE=none:=by rw[h.AV.AE.1];simp);(have e:A.j.ae P1 p=A.j.ax P1 p:=by unfold Jn.ae;rw[Aa z]);rw[e];have⟨d1,d2,d3⟩:=hS.ax p L;refine⟨d1,λI=>(d2 I).2,d3,λd=>?_⟩;have⟨e1,e2⟩:=hS.ef p L d;exact⟨e1,e2,rfl⟩
 ·rw[Ae H];have⟨u1,u2⟩:=h.dD;exact⟨u1.b9 [p],λI=>(by cases I),λ_=>⟨u1,u2⟩,λd=>absurd d H⟩
end
section
variable{bd:Int×Int}{P P':PD}{V V':View}{A:Ar}{ix:Ix}{sg cl:gh (Int×gh Pu)}{lo:Option (Int×gh Pu)}{ol:Option (gh Pu)}{pd:gh Pu}{Ad:Nat}{o:Int}
def A2I{c:FC}{nm:Bs}{a:Int}{l:gh Pu}(d:BV c)(h:c.1=E9 nm a l):EX c l=l.length:=by
 unfold EX;unfold BV at d;rw[d,h,Jx];have:((12+21*l.length:Nat):Int).toNat=12+21*l.length:=by omega
 rw[this];have:(12+21*l.length-12)/21=l.length:=by omega
 omega
def Ry(d:P.av.1=0):Bn P.av.2=[P.D.A4]/\P.av.2.D.A4=P.D.A4/\P.av.2.F=P.F/\P.av.2.D.As=[]:=by
 unfold PD.av DC at d ⊢;dsimp only at d ⊢;rw[Ae d];exact⟨rfl,rfl,rfl,rfl⟩
def Jf(P:PD):P.av.2.fl=P.fl:=by
 unfold PD.av DC PD.fl;dsimp only
 split<;>rfl
def N8(h:P'.fl=P.fl)(m:Bs):P'.bs m=P.bs m:=by unfold PD.bs;rw[h]
def DI.Gl(h:DI bd P pd Ad o)(H:Bn P=[P.D.A4]){d:Nat}(E:Holds bd P.fl pd d o):DI bd P pd d o:=
 ⟨λs z=>by rw[H]at z;simp at z;subst z;exact E,h.Ap,h.Cj,h.CG⟩
def SI.ad(h:SI bd A P pd Ad o sg cl ol):
 (DI bd (A.ad P).2.2 pd Ad o/\Reads bd (A.ad P).2.2 pd o)/\((A.ad P).1=0->SI bd (A.ad P).2.1 (A.ad P).2.2 pd pd.length o sg cl ol/\(A.ad P).2.1 = {A with AN:=[]}/\(A.ad P).2.2.D.As=[]):=by
 unfold Ar.ad;by_cases W:(A.C P).1=0
 ·rw[Aa (nn W)];have⟨hS,hL⟩:=h.dd W;have hA:(A.C P).2.1 = {A with AN:=[]}:=by
   unfold Ar.C at W ⊢;split at W
   ·rename_i L;exact absurd W L
   ·rename_i L;rw[Aa L]
  rw[hA];dsimp only
  generalize (A.C P).2.2=P1 at hS hL;have hj:∃P2,A.j.ad P1=((A.j.ad P1).1,P2)/\DI bd P2 pd Ad o/\(∀m,P2.bs m=P1.bs m)/\(∀m,(∀c,P1.fl m=some c->BV c)->∀c,P2.fl m=some c->BV c)/\(∀l f,ol=some l->Ey bd P1 pd Ad o A.j.A8 f (Au cl).length->Ey bd P2 pd Ad o A.j.A8 f (Au cl).length)/\
   ((A.j.ad P1).1=0->∀l,ol=some l->∀c,P2.fl (Af A.j.A8)=some c->BV c):=by
   cases ol with
   | none=>
    (have e:A.j.ad P1=(0,P1):=by unfold Jn.ad;rw[h.AV.AE.1]);rw[e];exact⟨P1,rfl,hS.di,λ_=>rfl,λm H=>H,λl f e=>(by cases e),λ_ l e=>(by cases e)⟩
   | some l=>
    (have e:A.j.ad P1=P1.ad (A6 (Af A.j.A8)):=by unfold Jn.ad;rw[h.AV.AE.1]);rw[e];exact⟨_,rfl,hS.di.bR _,λm=>Om P1 _ m,λm H c z=>Ol H z,λl f _ Y=>Y.bR _,λd l e c z=>Rw d c z⟩
  obtain⟨P2,e2,d2,b2,k2,o2,m2⟩:=hj;have r2:=hS.bu.ay b2;rw[e2];dsimp only
  by_cases L:(A.j.ad P1).1=0
  ·rw[Aa (nn L)];dsimp only
   have d3:=d2.ee;have r3:=r2.ay (N8 (Jf P2));refine⟨⟨d3,r3⟩,λd=>?_⟩;have⟨s1,s2,s3,s4⟩:=Ry d;have hb:∀m,P2.av.2.bs m=P1.bs m:=λm=>(N8 (Jf P2) m).trans (b2 m)
   have E:=hS.AV.ay hb;have O:∀m,(m=Ay\/(∃x∈sg,m=Aw x.1)\/∃x∈cl,m=Af x.1)->∀c,P2.av.2.fl m=some c->BV c:=λm H c z=>by
    rw[Jf]at z;exact k2 m (λc z=>(hS.Fu m H c z).resolve_left (by simp)) c z
   have aB:=E.bp h.CZ d3.E7 (λm c H z=>O m H c z) h.Ew.1 d3.Ai;(have aA:Bn P2.av.2=[P2.av.2.D.A4]:=by rw[s1,s2]);have⟨nb,n1,n2,n3,n4⟩:=h.IY;have I:∀l,ol=some l->∃f,Ey bd P2.av.2 pd pd.length o A.j.A8 f (Au cl).length:=λl e=>by
    have⟨f,Y⟩:=hS.AE l e;have aD:=o2 l f e Y;refine⟨f,by rw[s2];exact aD.1,λs hs=>?_⟩;rw[s1]at hs;simp at hs;subst hs;refine .inr ⟨aD.1,?_⟩;subst e;have⟨c,c1,c2⟩:=IS E.AE.2.2.1;(have aE:BV c:=by rw[Jf]at c1;exact m2 L l rfl c c1);(have hl:l=pd.drop nb:=by simpa using n3);(have ha:c.1=E9 (Af A.j.A8) ((Au cl).length:Int) l:=by rw[c2];dsimp only;rw[h.AV.Gx]);(have hv:vw P2.av.2.F P2.D.A4=P2.av.2.fl:=by rw[s3,Jf];rfl);rw[hv];refine⟨A.ix,sg,cl,l,nb,c,aB,n1,n2,c1,ha,rfl,?_,hl⟩;rw[A2I aE ha,hl,CO];omega
   have hH:Holds bd P2.av.2.fl pd pd.length o:=by
    cases ol with
    | none=>
     have aF:nb=pd.length:=by
      (have:(pd.drop nb).length=0:=by rw[<-n3];rfl);rw[CO]at this;omega
     exact Holds.bt aB (by rw[aF,Cf]at n2;exact n2) (Ao _)
    | some l=>
     have⟨f,Y⟩:=I l rfl;rcases Y.2 P2.av.2.D.A4 (by rw[aA];simp) with hno|⟨_,hw⟩
     ·exact absurd rfl (hno _ (DY Y.1))
     ·exact hw.ca
   refine⟨⟨d3.Gl aA hH,E,⟨nb,n1,n2,n3,λe=>?_⟩,λm H c z=>.inr (O m H c z),I,h.CZ,h.Ew⟩,rfl,s4⟩;subst e;(have:(pd.drop nb).length=0:=by rw[<-n3];rfl);rw[CO]at this;omega
  ·rw[Ae L];exact⟨⟨d2,r2⟩,λd=>absurd d L⟩
 ·rw[Ae W];exact⟨h.dD,λd=>absurd d W⟩
end
section
variable{bd:Int×Int}{P P':PD}{V V':View}{A:Ar}{ix:Ix}{sg cl:gh (Int×gh Pu)}{lo:Option (Int×gh Pu)}{ol:Option (gh Pu)}{pd:gh Pu}{Ad:Nat}{o:Int}
def SI.by(h:SI bd A P pd Ad o sg cl ol)(Y:CW bd P.fl A.ix sg cl (ol.map λl=>(A.j.A8,l))):CX bd P.fl A.ix sg cl (ol.map λl=>(A.j.A8,l)) pd Ad o:=by
 have⟨nb,n1,n2,n3,n4⟩:=h.IY;refine⟨nb,Y,n1,n2,λn l e=>?_,λe=>?_⟩
 ·cases ol with
  | none=>cases e
  | some l0=>
   cases e;have⟨f,hO⟩:=h.AE l rfl;rcases hO.2 _ h.di.CG with E|⟨_,ix',sg',cl',l',I,c,_,hnb,_,g1,W,_,g4,g5⟩
   ·exact absurd rfl (E _ (DY hO.1))
   ·(have O:l=pd.drop nb:=by simpa using n3);have⟨c2,e1,e2⟩:=IS h.AV.AE.2.2.1;have H:c2=c:=by
     have z:P.fl (Af A.j.A8)=some c:=g1;rw[e1]at z;simpa using z
    subst H;have d:l.length=l'.length:=by
     have:=ES List.length (e2.symm.trans W);rw[Jx,Jx]at this;omega
    have L:nb=I:=by
     rw[O,g5,CO,CO]at d;omega
    refine⟨c2,e1,?_,by rw[O,Cf]⟩;(have:EX c2 l=EX c2 l':=by unfold EX;rw[d]);rw[this,L];exact g4
 ·cases ol with
  | none=>exact n4 rfl
  | some l=>cases e
def SI.eQ(h:SI bd A P pd Ad o sg cl ol):C4 o (Au sg++Au cl++EM (ol.map λl=>(A.j.A8,l))) pd:=by
 have:=h.Ck;unfold B7 at this;cases ol<;>simpa[EM,List.append_assoc] using this
def CX.bt(h:CX bd V ix sg cl lo pd Ad o)(d:C4 o (Au sg++Au cl++EM lo) pd)(z:(Au cl).length<=1099511627776):Whole bd V pd o:=⟨ix,sg,cl,lo,h.bp,z,d⟩
def CX.sd{h:gh (Int×gh Pu)}(E:CW bd V ix h [] none)(z:C4 o (Au h) pd)(d:Ad<=pd.length):CX bd V ix h [] none pd Ad o:=
 ⟨pd.length,E,Ao _,by rw[Cf];simpa[Au] using z,λn l e=>(by cases e),λ_=>d⟩
def TY:∀(L:gh (gh Pu)) (d:Int) (H:gh Int) {P:PD},DI bd P pd Ad o->0<=d->d+L.length<=4611686018427387904->d+L.length<=bd.2->(PD.aj L d H P).1=0->
 (∀x∈BW d L,∀c,(PD.aj L d H P).2.2.2.fl (Aw x.1)=some c->BV c)/\∀m,(∀x∈BW d L,m≠Aw x.1)->(PD.aj L d H P).2.2.2.fl m=P.fl m
 | [],d,H,P,_,_,_,_,_=>⟨λx E=>(by cases E),λm _=>rfl⟩
 | l::r,d,H,P,h,h0,h1,hb,hok=>by
  simp only[Cg]at h1 hb;have I:PD.aj (l::r) d H P=if (P.aI (d+1) l).1≠0 then ((P.aI (d+1) l).1,d+1,H,(P.aI (d+1) l).2) else PD.aj r (d+1) (H++[d+1]) (P.aI (d+1) l).2:=rfl
  rw[I]at hok ⊢;by_cases W:(P.aI (d+1) l).1=0
  ·rw[Aa (nn W)]at hok ⊢;(have z:isNum (d+1)=true:=by unfold isNum;simp;omega);have hw:DI bd (P.aI (d+1) l).2 pd Ad o:=h.aH (.inr ⟨d+1,⟨z,by omega⟩,rfl⟩) _ _;have⟨i1,i2⟩:=TY r (d+1) (H++[d+1]) hw (by omega) (by omega) (by omega) hok;have⟨e1,e2⟩:=Kp P (Aw (d+1)) (AB (Aw (d+1))) (Ci l);have⟨e3,e4⟩:=e2 W;have aA:∀x∈BW (d+1) r,Aw (d+1)≠Aw x.1:=λx E e=>by
    have E:=GQ E;have:=Lz z (by unfold isNum;simp;omega) e;omega
   have aD:=Extra.fl h e1;refine⟨λx E c Y=>?_,λm hm=>?_⟩
   ·rcases BB.1 E with rfl|E
    ·rw[i2 _ aA]at Y;have:(P.aI (d+1) l).2.fl (Aw (d+1))=some ((P.aI (d+1) l).2.F P.D.AR):=by
      unfold PD.fl;have aE:lookup (P.aI (d+1) l).2.D.A4 (A6 (Aw (d+1)))=some P.D.AR:=e3;rw[aE];rfl
     rw[this]at Y;cases Y;exact e4
    ·exact i1 x E c Y
   ·rw[i2 m λx E=>hm x (Bp _ E)];have aB:=hm _ (Bt ..);have O:(P.aI (d+1) l).2.fl=P.fl\/(P.fl (Aw (d+1))=none/\∀m,(P.aI (d+1) l).2.fl m=if m=Aw (d+1) then some ((P.aI (d+1) l).2.F P.D.AR) else P.fl m):=aD;rcases O with e|⟨_,e⟩
    ·rw[e]
    ·rw[e,Aa aB]
  ·rw[Ae W]at hok;exact absurd hok W
def Xh{nm:Bs}{s:Nat}{l:Bs}(d:(P.aH nm s l).1=0):((P.aH nm s l).2.F P.D.AR).1=AS s l:=by
 unfold PD.aH at d ⊢;have⟨c1,c2⟩:=Kq P nm;by_cases H:(P.ai (A6 nm)).1=0
 ·rw[Aa (nn H)]at d ⊢;have L:=c2 H;by_cases E:((P.ai (A6 nm)).2.ae (A6 nm) s l).2.1=0
  ·rw[Aa (nn E)];(have O:(P.ai (A6 nm)).2.F P.D.AR=([],0):=by unfold PD.ai;simp[upd]);have W:=Wb (AS s l) L E;(have I:lookup ((P.ai (A6 nm)).2.ak (A6 nm) (AS s l)).2.D.A4 (A6 nm)=some P.D.AR:=by rw[(J0 (AS s l) L).1];exact L);have z:((P.ai (A6 nm)).2.ae (A6 nm) s l).2.2=((P.ai (A6 nm)).2.ak (A6 nm) (AS s l)).2:=rfl;rw[z];have⟨_,_,_,h⟩:=Je I;rcases h with h|h
   ·rw[h,W];simp[upd,O]
   ·rw[h,W];simp[upd,O]
  ·rw[Ae E]at d;exact absurd d E
 ·rw[Ae H]at d;exact absurd d H
def DI.cO(h:DI bd P pd Ad o)(hT:CX bd P.fl ix sg cl lo pd Ad o)(hW:C4 o (Au sg++Au cl++EM lo) pd)(aB:(Au cl).length<=1099511627776){first:Int}{d:gh (Int×gh Pu)}(O:HX bd ⟨first,d.map (·.1)⟩ d)(aD:∀x∈d,((∀p∈x.2,B8 p)/\Cw Cr x.2=true)/\∃c,P.fl (Aw x.1)=some c/\BV c/\c.1=AS (AB (Aw x.1)) (Ci x.2))(Y:∀n,isNum n=true->first<=n->P.fl (Af n)=none)(hs:C4 o (Au d) pd)(L:Ad<=pd.length):
 DI bd (P.ah first (d.map (·.1))).2 pd Ad o/\Reads bd (P.ah first (d.map (·.1))).2 pd o/\((P.ah first (d.map (·.1))).1=0->CX bd (P.ah first (d.map (·.1))).2.fl ⟨first,d.map (·.1)⟩ d [] none pd Ad o):=by
 have⟨e1,e2⟩:=Kp P Bm (AB Ay) (Cl first (d.map (·.1)));have d1:DI bd (P.aH Bm (AB Ay) (Cl first (d.map (·.1)))).2 pd Ad o:=h.aH (.inl rfl) _ _;have t1:=hT.dW h e1 (.inl rfl);have aA:=Extra.fl h e1;unfold PD.ah;by_cases h1:(P.aH Bm (AB Ay) (Cl first (d.map (·.1)))).1=0
 ·rw[Aa (nn h1)];have⟨e3,e4⟩:=e2 h1;have H:=Xh h1;obtain⟨z,W⟩:∃z,(P.aH Bm (AB Ay) (Cl first (d.map (·.1)))).2=z:=⟨_,rfl⟩;rw[W]at H;rw[W]at d1 t1 e3 e4 aA ⊢;have hV:CW bd (λm=>if m=Ay then some (z.F P.D.AR) else if m=Bm then none else z.fl m) ⟨first,d.map (·.1)⟩ d [] none:=by
   have E:∀m,m≠Bm->z.fl m=P.fl m:=λm hm=>by
    rcases aA with e|⟨_,e⟩
    ·rw[e]
    ·rw[e,Aa hm]
   refine CW.fr (V:=z.fl) O ⟨e4,H⟩ (λx hx=>?_) (λn k1 k2=>?_) t1.bp.Ef t1.bp.E7 λ_=>rfl
   ·rw[E _ (MI _)];exact aD x hx
   ·rw[E _ (LH _)];exact Y n k1 k2
  have hB:=CX.sd (Ad:=Ad) hV hs L;have d2:=d1.eT e3 hB.ca;have⟨a1,a2,a3⟩:=SA (nw:=Ay) d1.bc e3;have aE:=(t1.bt hW aB).bu;rcases a3 with⟨b1,b2,b3⟩|⟨b1,b2⟩
  ·refine⟨d2,aE.ay (N8 (by unfold PD.fl;rw[b1,a1])),λI=>absurd I b3⟩
  ·have hf:(z.aM (A6 Bm) (A6 Ay)).2.fl=λm=>if m=Ay then some (z.F P.D.AR) else if m=Bm then none else z.fl m:=by
    funext m
    (have:(z.aM (A6 Bm) (A6 Ay)).2.fl m=vw z.F ((z.D.A4.filter λe=>decide (e.1≠A6 Bm/\e.1≠A6 Ay))++[(A6 Ay,P.D.AR)]) m:=by unfold PD.fl vw;rw[b1,a1]);rw[this,Rj JA.symm];rfl
   rw[<-hf]at hB;exact⟨d2,(hB.bt (by simpa[Au,EM] using hs) (by simp[Au])).bu,λ_=>hB⟩
 ·rw[Ae h1];exact⟨d1,(t1.bt hW aB).bu,λI=>absurd I h1⟩
end
end
end Go.Proofs.YtodcnkbblippnaaGreatDoor
