/- Part 32 of a proof: walks of the program. -/
import Derived.Test.YtodcnkbblippnabGreatDoorPart31
namespace Go.Proofs.YtodcnkbblippnabGreatDoor
set_option maxRecDepth 100000
set_option maxHeartbeats 32000000
set_option linter.defProp false
open Go.Proofs.Tryz
section
open Go.RowKit
def Reads(bd:Int×Int)(P:PD)(q:List Pu)(o:Int):Prop:=∃A sg cl ol,Lay P A sg cl ol/\Ci o (Cl sg cl ol) q/\Hv bd A.ix sg
def Whole(bd:Int×Int)(V:View)(q:List Pu)(o:Int):Prop:=∃ix sg cl lo,CW bd V ix sg cl lo/\(Az cl).length<=1099511627776/\Ci o (Az sg++Az cl++EG lo) q
section
variable{bd:Int×Int}{P P':PD}{V V':View}{A:Ar}{ix:Ix}{sg cl:List (Int×List Pu)}{lo:Option (Int×List Pu)}{ol:Option (List Pu)}{puts q:List Pu}{Ag:Nat}{o:Int}{nm:Bs}
def CW.B7(h:CW bd P.fl ix sg cl lo)(hl:(Az cl).length<=1099511627776)(K L:Int)(hK:0<=K/\ix.AW<=K+1)(aB:∀n,isNum n=true->P.fl (Af n)≠none->n<=K)(hL:0<=L)(aD:∀n,isNum n=true->P.fl (Aw n)≠none->n<=L):
 Lay P ⟨ix,⟨cl.map (·.1)++(lo.map (·.1)).toList,K,((Az cl++EG lo).length:Int),none⟩,L,[]⟩ sg (cl++lo.toList) none:=by
 have X:∀m,P.bs m≠none->P.fl m≠none:=λm hm e=>hm (GQ.2 e);have H:∀x∈cl++lo.toList,(isNum x.1=true/\ix.AW<=x.1)/\(∀p∈x.2,B8 p)/\P.fl (Af x.1)≠none:=λx z=>by
  rcases AU.1 z with z|z
  ·have⟨O,I,c,W,_⟩:=h.CQ x z;exact⟨O,I,by rw[W];simp⟩
  ·cases lo with
   | none=>simp at z
   | some y=>
    simp at z;subst z;obtain⟨n,l⟩:=x;have⟨O,I,c,W,_⟩:=h.A8 n l rfl;exact⟨O,I,by rw[W];simp⟩
 have aA:Az (cl++lo.toList)=Az cl++EG lo:=by
  cases lo with
  | none=>simp[Az,EG]
  | some y=>simp[Az,EG]
 have Y:Fw P.fl 0 (cl++lo.toList):=by
  cases lo with
  | none=>simpa using h.Al
  | some y=>
   obtain⟨n,l⟩:=y;have⟨_,I,c,W,h4⟩:=h.A8 n l rfl;refine h.Al.bS ?_;unfold IV;rw[W];dsimp only
   rw[N1];exact h4.aT (by constructor<;>omega) I
 refine⟨h.E2.1,?_,h.segs,λx z=>?_,λx z=>⟨⟨(H x z).1.1,aB _ (H x z).1.1 (H x z).2.2⟩,(H x z).2.1⟩,λx _ z=>absurd rfl z,⟨λx z=>(H x z).1.2,λz=>absurd rfl z⟩,Fw.at.1 Y,?_,⟨rfl,?_⟩,⟨hK.1,hK.2,λn O I=>aB n O (X _ I)⟩,⟨hL,λn O I=>aD n O (X _ I)⟩,λm hm=>(by cases hm),h.Fj,λm hm=>(h.DZ m (X m hm)).1,λn O I W=>h.CK n O I (X _ W)⟩
 ·rcases h.Ii with⟨O,I⟩|⟨c,O,_,W⟩
  ·exact .inl ⟨GQ.2 O,I⟩
  ·exact .inr (by rw[OY O,W])
 ·have⟨O,c,I,_,h4⟩:=h.BT x z;exact⟨O,by rw[OY I,h4]⟩
 ·dsimp only;rw[aA]
 ·dsimp only
  rw[Ed];cases lo<;>simp
def Whole.bl(h:Whole bd P.fl q o):Reads bd P q o:=by
 obtain⟨ix,sg,cl,lo,O,X,Y⟩:=h;have W:=O.E2.1.AW;unfold isNum at W;simp at W;have I:=O.B7 X 4611686018427387904 4611686018427387904 ⟨by decide,by omega⟩ (λn z _=>by unfold isNum at z;simp at z;exact z.2) (by decide) (λn z _=>by unfold isNum at z;simp at z;exact z.2);refine⟨_,sg,_,none,I,?_,O.E2⟩;unfold Cl;have H:Az (cl++lo.toList)=Az cl++EG lo:=by
  cases lo<;>simp[Az,EG]
 rw[H];simpa[List.append_assoc] using Y
def FO.bz{n:Int}{ahead:Nat}(h:FO bd V puts Ag o n ahead)(ha:ahead<=1099511627776):Whole bd V puts o:=by
 obtain⟨ix,sg,cl,l,nb,c,I,hnb,z,h1,h2,h3,h4,H⟩:=h;refine⟨ix,sg,cl,some (n,l),I,by omega,?_⟩;have:puts=puts.take nb++l:=by rw[H,DK]
 conv=>rhs;rw[this]
 exact z.dh l
def Reads.az(h:Reads bd P q o)(z:∀m,P'.bs m=P.bs m):Reads bd P' q o:=by
 obtain⟨A,sg,cl,ol,I,H,O⟩:=h;exact⟨A,sg,cl,ol,I.az z,H,O⟩
def Qg(P:PD)(nm:ByteArray)(m:Bs):(P.fl m=none/\(P.aq nm).2.fl m=none)\/∃c d,P.fl m=some c/\(P.aq nm).2.fl m=some d/\d.1=c.1/\(d.2=c.2\/Cr d):=by
 cases hx:lookup P.D.A6 nm with
 | none=>
  have e:(P.aq nm).2=P:=by unfold PD.aq Cx;rw[hx]
  rw[e];cases hf:P.fl m with
  | none=>exact .inl ⟨rfl,rfl⟩
  | some c=>exact .inr ⟨c,c,rfl,rfl,rfl,.inl rfl⟩
 | some f=>
  have⟨a1,a2,a3,h⟩:=ID hx;unfold PD.fl;rw[a1];cases hk:lookup P.D.A6 (A9 m) with
  | none=>exact .inl ⟨rfl,rfl⟩
  | some g=>
   refine .inr ⟨P.F g,(P.aq nm).2.F g,rfl,rfl,?_⟩;rcases h with h|h
   ·rw[h];exact⟨rfl,.inl rfl⟩
   ·rw[h];by_cases e:g=f
    ·subst e;simp[upd,Cr]
    ·simp[upd,e]
def Qh(P:PD)(nm:ByteArray)(m:Bs):(P.aq nm).2.bs m=P.bs m:=by
 unfold PD.bs;rcases Qg P nm m with⟨z,h⟩|⟨c,d,z,h,H,_⟩
 ·rw[z,h]
 ·rw[z,h];simp[H]
def Qn:∀(l:List Bs) (P:PD) (m:Bs),(PD.av l P).2.bs m=P.bs m
 | [],P,m=>rfl
 | x::r,P,m=>by
  unfold PD.av;split
  ·exact Qh P (A9 x) m
  ·rw[Qn r,Qh]
def Nn(A:Ar)(P:PD)(m:Bs):(A.aa P).2.2.bs m=P.bs m:=by
 unfold Ar.aa;split<;>exact Qn _ _ m
def Qf{c:FC}{P:PD}{nm:ByteArray}{m:Bs}(h:∀c,P.fl m=some c->Cr c)(H:(P.aq nm).2.fl m=some c):Cr c:=by
 rcases Qg P nm m with⟨_,I⟩|⟨a,d,O,I,W,z⟩
 ·rw[I]at H;cases H
 ·rw[I]at H;cases H;rcases z with z|z
  ·have:=h a O;unfold Cr at this ⊢;rw[z,W];exact this
  ·exact z
def Nh:∀(l:List Bs) {P:PD} {m:Bs},(∀c,P.fl m=some c->Cr c)->∀c,(PD.av l P).2.fl m=some c->Cr c
 | [],P,m,h,c,z=>h c z
 | x::r,P,m,h,c,z=>by
  unfold PD.av at z;split at z
  ·exact Qf h z
  ·exact Nh r (λc z=>Qf h z) c z
def VP{P:PD}{x:Bs}(h:(P.aq (A9 x)).1=0):∀c,(P.aq (A9 x)).2.fl x=some c->Cr c:=by
 intro c z;unfold PD.fl PD.aq Cx at z;unfold PD.aq Cx at h;cases hx:lookup P.D.A6 (A9 x) with
 | none=>rw[hx]at h;cases h
 | some f=>
  rw[hx]at h z;dsimp only at h z;rw[Ah h,hx]at z;simp[upd]at z;subst z;rfl
def Ql:∀(l:List Bs) {P:PD},(PD.av l P).1=0->∀m∈l,∀c,(PD.av l P).2.fl m=some c->Cr c
 | x::r,P,hok,m,z,c,hc=>by
  unfold PD.av at hok hc;by_cases h:(P.aq (A9 x)).1=0
  ·rw[Ae (nn h)]at hok hc;rcases BF.1 z with rfl|z
   ·exact Nh r (VP h) c hc
   ·exact Ql r hok m z c hc
  ·rw[Ah h]at hok;exact absurd hok h
def X4(z:(A.aa P).1=0){m:Bs}(h:∀c,P.fl m=some c->m∈A.AM\/Cr c):∀c,(A.aa P).2.2.fl m=some c->Cr c:=by
 intro c H;unfold Ar.aa at z H;by_cases I:(P.av A.AM).1=0
 ·rw[Ae (nn I)]at H;by_cases O:m∈A.AM
  ·exact Ql A.AM I m O c H
  ·exact Nh A.AM (λc H=>(h c H).resolve_left O) c H
 ·rw[Ah I]at z;exact absurd z I
def FO.bQ{n:Int}{ahead:Nat}(h:FO bd V puts Ag o n ahead)(I:∀nm,(∀c,V nm=some c->∃d,V' nm=some d/\d.1=c.1/\(d.2=c.2\/Cr d))/\(V nm=none->V' nm=none)):FO bd V' puts Ag o n ahead:=by
 obtain⟨ix,sg,cl,l,nb,c,W,X,hs,Y,g2,g3,g4,g5⟩:=h;have O:∀nm,V' nm≠none->V nm≠none:=λnm z H=>z ((I nm).2 H);have⟨d,e1,e2,e3⟩:=(I _).1 c Y;refine⟨ix,sg,cl,l,nb,d,W.bQ (λnm _=>?_) (λnm z=>W.DZ nm (O nm z)) (λnm c z=>?_),X,hs,e1,by rw[e2];exact g2,g3,AH g4 (Lc (TL e2 e3 (W.E9 _ _ Y).2) _),g5⟩
 ·cases H:V nm with
  | none=>exact .inl ⟨rfl,(I nm).2 H⟩
  | some c=>have⟨d,d1,d2,d3⟩:=(I nm).1 c H;exact .inr ⟨c,d,rfl,d1,d2,d3⟩
 ·cases H:V nm with
  | none=>rw[(I nm).2 H]at z;cases z
  | some x=>
   have⟨d,d1,d2,d3⟩:=(I nm).1 x H;rw[d1]at z;cases z;have:=W.E9 nm x H;rcases d3 with d3|d3
   ·rw[d2,d3];exact this
   ·unfold Cr at d3;omega
def ER.dq{n:Int}{f ahead:Nat}(h:ER bd P puts Ag o n f ahead)(nm:ByteArray):ER bd (P.aq nm).2 puts Ag o n f ahead:=by
 cases hx:lookup P.D.A6 nm with
 | none=>
  have e:(P.aq nm).2=P:=by unfold PD.aq Cx;rw[hx]
  rw[e];exact h
 | some g0=>
  have⟨a1,a2,a3,z⟩:=ID hx;have es:Br (P.aq nm).2=Br P:=by unfold Br;rw[a2,a3]
  refine⟨by rw[a1];exact h.1,λs W=>?_⟩;rw[es]at W;rcases h.2 s W with I|⟨X,O⟩
  ·exact .inl I
  ·refine .inr ⟨X,?_⟩;rcases z with z|z
   ·rw[z];exact O
   ·refine O.bQ λm=>?_;unfold vw;cases hk:lookup s (A9 m) with
    | none=>exact⟨λc H=>by simp at H,λ_=>rfl⟩
    | some g=>
     refine⟨λc H=>?_,λY=>by simp at Y⟩;simp at H;subst H;rw[z];by_cases e:g=g0
     ·subst e;exact⟨_,rfl,by simp[upd],.inr (by simp[upd,Cr])⟩
     ·exact⟨P.F g,by simp[upd,e],rfl,.inl rfl⟩
def ER.av{n:Int}{f ahead:Nat}:∀(l:List Bs) {P:PD},ER bd P puts Ag o n f ahead->ER bd (PD.av l P).2 puts Ag o n f ahead
 | [],P,h=>h
 | x::r,P,h=>by
  have z:=h.dq (A9 x);unfold PD.av;split
  ·exact z
  ·exact ER.av r z
def ER.aa{n:Int}{f ahead:Nat}(h:ER bd P puts Ag o n f ahead):ER bd (A.aa P).2.2 puts Ag o n f ahead:=by
 unfold Ar.aa;split<;>exact h.av _
end
structure SI (bd:Int×Int) (A:Ar) (P:PD) (puts:List Pu) (Ag:Nat) (o:Int) (sg cl:List (Int×List Pu)) (ol:Option (List Pu)):Prop where
 di:DI bd P puts Ag o
 B7:Lay P A sg cl ol
 J5:∃nb,nb<=puts.length/\Ci o (Az sg++Az cl) (puts.take nb)/\ol.getD []=puts.drop nb/\(ol=none->Ag<=nb)
 H4:∀m,(m=AF\/(∃x∈sg,m=Aw x.1)\/∃x∈cl,m=Af x.1)->∀c,P.fl m=some c->m∈A.AM\/Cr c
 AP:∀l,ol=some l->∃f,ER bd P puts Ag o A.j.A8 f (Az cl).length
 DG:(Az cl).length<=1099511627776
 EK:Hv bd A.ix sg/\A.j.A8<=bd.1/\A.A8<=bd.2
section
variable{bd:Int×Int}{P P':PD}{A:Ar}{sg cl:List (Int×List Pu)}{ol:Option (List Pu)}{puts:List Pu}{Ag:Nat}{o:Int}
def DI.E9(h:DI bd P puts Ag o)(nm:Bs)(c:FC)(z:P.fl nm=some c):0<=c.2/\c.2<=c.1.length:=by
 have⟨ix,sg,cl,lo,nb,hL,_⟩:=h.E3 _ h.CH;exact hL.E9 nm c z
def DI.Av(h:DI bd P puts Ag o):∀nm,P.fl nm≠none->F5 bd nm:=by
 have⟨ix,sg,cl,lo,nb,hL,_⟩:=h.E3 _ h.CH;exact hL.DZ
def ER.bc{z:Int×Int}{n:Int}{f ahead:Nat}(h:ER bd P puts Ag o n f ahead)(H:HY bd z):ER z P puts Ag o n f ahead:=
 ⟨h.1,λs I=>(h.2 s I).imp id λq=>⟨q.1,q.2.bc H⟩⟩
def SI.bc{z:Int×Int}(h:SI bd A P puts Ag o sg cl ol)(H:HY bd z):SI z A P puts Ag o sg cl ol:=
 ⟨h.di.bc H,h.B7,h.J5,h.H4,λl e=>by have⟨f,hf⟩:=h.AP l e;exact⟨f,hf.bc H⟩,h.DG,h.EK.1.bc H,by have:=h.EK.2.1;have:=H.1;omega,by have:=h.EK.2.2;have:=H.2;omega⟩
def SI.CK(h:SI bd A P puts Ag o sg cl ol):Ci o (Cl sg cl ol) puts:=by
 have⟨nb,h1,h2,h3,_⟩:=h.J5;unfold Cl;rw[<-C6,h3];have:puts=puts.take nb++puts.drop nb:=(DK _ _).symm
 conv=>rhs;rw[this]
 exact h2.dh _
def SI.bl(h:SI bd A P puts Ag o sg cl ol):Reads bd P puts o:=⟨A,sg,cl,ol,h.B7,h.CK,h.EK.1⟩
def SI.dp(h:SI bd A P puts Ag o sg cl ol):Ag<=puts.length:=by
 have⟨nb,h1,_,_,h4⟩:=h.J5;cases ol with
 | none=>exact AH (h4 rfl) h1
 | some l=>
  have⟨f,hl,hO⟩:=h.AP l rfl;rcases hO _ h.di.CH with z|⟨_,ix,sg',cl',l',nb',c,_,hnb,_,_,_,_,I,H⟩
  ·exact absurd rfl (z _ (Ea hl))
  ·(have:Fp c l'<=l'.length:=by unfold Fp;omega);rw[H,CM]at this;rw[H]at I;omega
def SI.dF(h:SI bd A P puts Ag o sg cl ol)(W:(A.aa P).1=0):SI bd {A with AM:=[]} (A.aa P).2.2 puts Ag o sg cl ol/\CW bd (A.aa P).2.2.fl A.ix sg cl (ol.map λl=>(A.j.A8,l)):=by
 have hb:=Nn A P;have z:=h.B7.az hb;have Y:Lay (A.aa P).2.2 {A with AM:=[]} sg cl ol:=⟨z.E2,z.ix,z.segs,z.BT,z.CQ,z.J3,z.EI,z.Al,z.GA,z.AP,z.Eh,z.DY,λm I=>(by cases I),z.H3,z.DZ,z.Hh⟩;have O:=h.di.aa (A:=A);have H:∀m,(m=AF\/(∃x∈sg,m=Aw x.1)\/∃x∈cl,m=Af x.1)->∀c,(A.aa P).2.2.fl m=some c->Cr c:=λm I=>X4 W (h.H4 m I);exact⟨⟨O,Y,h.J5,λm I c X=>.inr (H m I c X),λl e=>by have⟨f,hf⟩:=h.AP l e;exact⟨f,hf.aa⟩,h.DG,h.EK⟩,Y.br h.DG O.E9 (λm c I X=>H m I c X) h.EK.1 O.Av⟩
def SI.ew(h:SI bd A P puts Ag o sg cl ol):DI bd (A.aa P).2.2 puts Ag o/\Reads bd (A.aa P).2.2 puts o:=⟨h.di.aa,h.bl.az (Nn A P)⟩
def A2z{P:PD}{nm:Bs}{f:Nat}{pc:Bs}(h:lookup P.D.A6 (A9 nm)=some f)(z:(P.al (A9 nm) pc).2.D.A6=P.D.A6):H6 P.D P.F (A9 nm) pc=decide (((((P.al (A9 nm) pc).2.F f).1.length:Int)-(P.F f).1.length)=pc.length):=by
 have e:H6 P.D P.F (A9 nm) pc=decide ((Ct (P.al (A9 nm) pc).2.D (P.al (A9 nm) pc).2.F (A9 nm)).1-(Ct P.D P.F (A9 nm)).1=pc.length):=rfl;rw[e];unfold Ct;rw[z,h]
def SI.ax{l:List Pu}(h:SI bd A P puts Ag o sg cl (some l))(p:Pu)(hp:B8 p):
 DI bd (A.j.ax P p).2.2.2 (puts++[p]) Ag o/\((A.j.ax P p).1=true->(∃f,ER bd (A.j.ax P p).2.2.2 (puts++[p]) Ag o A.j.A8 f (Az cl).length)/\Reads bd (A.j.ax P p).2.2.2 (puts++[p]) o)/\
  ((A.j.ax P p).1=false->DI bd (A.j.ax P p).2.2.2 puts Ag o/\Reads bd (A.j.ax P p).2.2.2 puts o):=by
 have⟨f,hO⟩:=h.AP l rfl;have⟨h1,h2,h3,h4,h5⟩:=h.B7.AP;have hl:=hO.1;have⟨c,hc,hcb⟩:=IY h3;have O:P.F f=c:=by unfold PD.fl at hc;rw[hl]at hc;simpa using hc
 rw[h.B7.GA]at hcb h1;have X:(A.j.ax P p).2.2.2=(P.al (A9 (Af A.j.A8)) (AT (Eg (Af A.j.A8) ((Az cl).length:Int) l) (B9 p.1 p.2.1 p.2.2))).2:=by
  unfold Jn.ax;rw[h1];rfl
 have I:(A.j.ax P p).1=H6 P.D P.F (A9 (Af A.j.A8)) (AT (Eg (Af A.j.A8) ((Az cl).length:Int) l) (B9 p.1 p.2.1 p.2.2)):=by
  unfold Jn.ax;rw[h1];rfl
 obtain⟨pc,aB⟩:∃pc,AT (Eg (Af A.j.A8) ((Az cl).length:Int) l) (B9 p.1 p.2.1 p.2.2)=pc:=⟨_,rfl⟩;have aA:pc.length=21:=by rw[<-aB,EN,EE]
 rw[aB]at X I;have⟨a1,a2,a3,a4⟩:=Iq pc hl;have aG:=A2z (pc:=pc) hl a1;have hj:∃j,(P.al (A9 (Af A.j.A8)) pc).2.F=upd P.F f (c.1++pc.take j,c.2)/\((A.j.ax P p).1=true↔21<=j):=by
  rcases a4 with a4|⟨j,a4⟩
  ·refine⟨0,by rw[a4];funext g;by_cases e:g=f<;>simp[upd,e,O],?_⟩;rw[I,aG,a4,aA];simp
  ·refine⟨j,by rw[a4,O],?_⟩;rw[I,aG,a4,aA,O];simp only[upd,Cn,AX,BU,aA,DT];omega
 obtain⟨j,hF,W⟩:=hj;rw[<-X]at hF a1 a2 a3;rw[<-aB]at hF;have⟨b1,b2,b3⟩:=hO.al h.di O hcb p hp j a1 a2 a3 hF;refine⟨b1,λht=>?_,λht=>?_⟩
 ·have aD:=b2 (W.1 ht);refine⟨⟨f,aD⟩,?_⟩;rcases aD.2 _ b1.CH with H|⟨_,hw⟩
  ·exact absurd rfl (H _ (Ea aD.1))
  ·exact Whole.bl (hw.bz h.DG)
 ·have hj:j<21:=by
   by_cases z:21<=j
   ·rw[W.2 z]at ht;cases ht
   ·omega
  refine⟨b3 hj,?_⟩;have H:∀m,m≠Af A.j.A8->(A.j.ax P p).2.2.2.bs m=P.bs m:=λm hm=>by
   unfold PD.bs PD.fl;rw[a1,hF];cases hk:lookup P.D.A6 (A9 m) with
   | none=>rfl
   | some g=>
    have:g≠f:=λe=>hm (by
     have:=JA (h.di.As _ h.di.CH) (Ea hk) (Ea hl) e
     exact FV.1 (P6 this).1)
    simp[upd,this]
  have aF:(A.j.ax P p).2.2.2.bs (Af A.j.A8)=some (DH (Af A.j.A8) ((Az cl).length:Int) l++(AT (Eg (Af A.j.A8) ((Az cl).length:Int) l) (B9 p.1 p.2.1 p.2.2)).take j):=by
   unfold PD.bs PD.fl;rw[a1,hl,hF];simp[upd,hcb]
  have aH:∀x∈cl,Af x.1≠Af A.j.A8:=λx z e=>h.B7.J3 x z (by simp) (FJ (h.B7.CQ x z).1.1 h5 e);have aE:ET (A.j.ax P p).2.2.2 0 (cl++[(A.j.A8,l)]):=by
   refine(h.B7.Al.bx λx z=>H _ (aH x z)).bS ?_;rw[N1];exact LY (by constructor<;>have:=h.DG<;>omega) h4 (by rw[BU];omega) aF
  refine⟨⟨A.ix,⟨A.j.Al,A.j.A8,((Az (cl++[(A.j.A8,l)])).length:Int),none⟩,A.A8,[]⟩,sg,cl++[(A.j.A8,l)],none,?_,?_⟩
  ·refine⟨h.B7.E2,by rw[H _ (H0 _).symm];exact h.B7.ix,h.B7.segs,λx z=>by rw[H _ (EY _ x.1).symm];exact h.B7.BT x z,λx z=>?_,λx _ z=>absurd rfl z,⟨λx z=>?_,λz=>absurd rfl z⟩,aE,rfl,⟨rfl,by dsimp only;rw[h2];simp⟩,
    ⟨h.B7.Eh.1,h.B7.Eh.2.1,λn Y k2=>?_⟩,⟨h.B7.DY.1,λn Y k2=>h.B7.DY.2 n Y (by rwa [H _ (EY _ n).symm]at k2)⟩,λm hm=>(by cases hm),h.B7.H3,λm hm=>?_,λn Y k2 k3=>?_⟩
   ·rcases AU.1 z with z|z
    ·exact h.B7.CQ x z
    ·simp at z;subst z;exact⟨⟨h5,Ha _⟩,h4⟩
   ·rcases AU.1 z with z|z
    ·exact h.B7.EI.1 x z
    ·simp at z;subst z;exact h.B7.EI.2 (by simp)
   ·by_cases e:Af n=Af A.j.A8
    ·have:=FJ Y h5 e;rw[this];exact Ha _
    ·rw[H _ e]at k2;exact h.B7.Eh.2.2 n Y k2
   ·by_cases e:m=Af A.j.A8
    ·subst e;rw[JE h5];simp
    ·rw[H _ e]at hm;exact h.B7.DZ m hm
   ·by_cases e:Af n=Af A.j.A8
    ·have:=FJ Y h5 e;subst this;show A.j.A8∈A.j.Al;rw[h2];simp
    ·rw[H _ e]at k3;exact h.B7.Hh n Y k2 k3
  ·refine⟨?_,h.EK.1⟩;have:=h.CK;unfold Cl at this ⊢;simpa[Az] using this
end
section
variable{bd:Int×Int}{P P':PD}{A:Ar}{sg cl:List (Int×List Pu)}{ol:Option (List Pu)}{puts:List Pu}{Ag:Nat}{o:Int}
def SI.br(h:SI bd A P puts Ag o sg cl ol)(z:A.AM=[]):CW bd P.fl A.ix sg cl (ol.map λl=>(A.j.A8,l)):=
 h.B7.br h.DG h.di.E9 (λm c H I=>(h.H4 m H c I).resolve_left (by rw[z];simp)) h.EK.1 h.di.Av
def SI.de(h:SI bd A P puts Ag o sg cl none):Ci o (Az sg++Az cl) puts:=by
 have:=h.CK;unfold Cl at this;simpa using this
def SI.au(h:SI bd A P puts Ag o sg cl none)(aB:A.AM=[])(hn:isNum (A.j.A8+1)=true)(O:A.j.A8+1<=bd.1):
 (DI bd (A.j.au P).2.2 puts Ag o/\Reads bd (A.j.au P).2.2 puts o)/\((A.j.au P).1=0->SI bd {A with j:=(A.j.au P).2.1} (A.j.au P).2.2 puts Ag o sg cl (some [])/\(A.j.au P).2.1.A8=A.j.A8+1):=by
 have hL:=h.br aB;have I:∀x∈cl,x.1<A.j.A8+1:=λx hx=>by have:=(h.B7.CQ x hx).1.2;omega
 have hf:=h.B7.Eh.2.1;have⟨d1,d2⟩:=h.di.au (J:=A.j) hL h.de h.dp hn O hf I h.B7.GA;have⟨b1,⟨j,b2⟩,b3⟩:=My P A.j;have X:=Extra.fl h.di b1;refine⟨⟨d1,?_⟩,λz=>?_⟩
 ·rcases X with e|⟨h0,e⟩
  ·exact h.bl.az λm=>by unfold PD.bs;rw[e]
  ·rw[b2,h.B7.GA]at e;have hw:=(hL.cV h.de h.dp hn O hf I j (V':=(A.j.au P).2.2.fl) e).1;exact Whole.bl ⟨A.ix,sg,cl,some (A.j.A8+1,[]),hw.br,h.DG,by simpa[EG] using h.de⟩
 ·have W:=(AQ.aS P).au (J:=A.j) (N:=4611686018427387900) (R:=4611686018427387904) (h.di.bq.aS.ae (by omega) (Aq _)) (by omega) z;obtain⟨s1,s2,s3,s4⟩:=W;have hq:=(h.B7.az (P':=P.aS) λm=>((AQ.aS P).bs m).symm).au (N:=4611686018427387900) (R:=4611686018427387904) (h.di.bq.aS.ae (by omega) (Aq _)) hn (by omega);have Y:Lay (A.j.au P).2.2 {A with j:=(A.j.au P).2.1} sg cl (some []):=by
   rw[s2];exact hq.2.2.1.az λm=>s3.bs m
  have H:(A.j.au P).2.1.A8=A.j.A8+1:=by
   unfold Jn.au at z ⊢;split at z
   ·rename_i h1;exact absurd z h1
   ·rename_i h1;rw[Ae h1];dsimp only at z ⊢;split at z
    ·rename_i h2;exact absurd z h2
    ·rename_i h2;rw[Ae h2]
  refine⟨⟨d1,Y,?_,λm hm c hc=>?_,λl e=>?_,h.DG,h.EK.1,by dsimp only;rw[H];exact O,h.EK.2.2⟩,H⟩
  ·have⟨nb,g1,g2,g3,g4⟩:=h.J5;exact⟨nb,g1,g2,g3,λe=>by cases e⟩
  ·
   have aA:m≠Af (A.j.A8+1):=by
    rcases hm with rfl|⟨x,_,rfl⟩|⟨x,hx,rfl⟩
    ·exact(H0 _).symm
    ·exact(EY _ x.1).symm
    ·intro e;have:=FJ (h.B7.CQ x hx).1.1 hn e;have:=I x hx;omega
   rcases X with e|⟨h0,e⟩
   ·rw[e]at hc;exact h.H4 m hm c hc
   ·rw[e,Ae aA]at hc;exact h.H4 m hm c hc
  ·cases e;exact⟨_,by dsimp only;rw[H];exact d2 z⟩
def SI.dZ{l:List Pu}(h:SI bd A P puts Ag o sg cl (some l))(p:Pu)(hp:B8 p)(aA:(A.j.ax P p).2.1=0):
 (A.j.ax P p).1=true/\SI bd {A with j:=(A.j.ax P p).2.2.1} (A.j.ax P p).2.2.2 (puts++[p]) Ag o sg cl (some (l++[p])):=by
 have⟨s0,s1,s2,s3,s4⟩:=(AQ.aS P).ax (J:=A.j) (N:=4611686018427387900) (R:=4611686018427387904) (h.di.bq.aS.ae (by omega) (Aq _)) (by omega) p aA;have hq:=(h.B7.az (P':=P.aS) λm=>((AQ.aS P).bs m).symm).ax (N:=4611686018427387900) (R:=4611686018427387904) (h.di.bq.aS.ae (by omega) (Aq _)) p hp (by omega);have ht:(A.j.ax P p).1=true:=by rw[s0];exact hq.1
 have⟨g1,g2,_⟩:=h.ax p hp;have O:Lay (A.j.ax P p).2.2.2 {A with j:=(A.j.ax P p).2.2.1} sg cl (some (l++[p])):=by
  rw[s2];exact hq.2.2.2.az λm=>s3.bs m
 have z:(A.j.ax P p).2.2.1.A8=A.j.A8:=by unfold Jn.ax;cases A.j.AP<;>rfl
 have⟨f,hO⟩:=(g2 ht).1;refine⟨ht,⟨g1,O,?_,λm hm c hc=>?_,λl' e=>⟨f,by dsimp only;rw[z];exact hO⟩,h.DG,h.EK.1,by dsimp only;rw[z];exact h.EK.2.1,h.EK.2.2⟩⟩
 ·have⟨nb,k1,k2,k3,_⟩:=h.J5;refine⟨nb,by simp;omega,by rw[GW k1];exact k2,?_,λe=>by cases e⟩;rw[Ll k1,<-k3];rfl
 ·
  have⟨h1,h2,h3,h4,h5⟩:=h.B7.AP;have W:m≠Af A.j.A8:=by
   rcases hm with rfl|⟨x,_,rfl⟩|⟨x,hx,rfl⟩
   ·exact(H0 _).symm
   ·exact(EY _ x.1).symm
   ·intro e;exact h.B7.J3 x hx (by simp) (FJ (h.B7.CQ x hx).1.1 h5 e)
  have⟨f0,hO0⟩:=h.AP l rfl;have I:(A.j.ax P p).2.2.2=(P.al (A9 (Af A.j.A8)) (AT (Eg (Af A.j.A8) A.j.puts l) (B9 p.1 p.2.1 p.2.2))).2:=by
   unfold Jn.ax;rw[h1];rfl
  have⟨a1,_,_,H⟩:=Iq (AT (Eg (Af A.j.A8) A.j.puts l) (B9 p.1 p.2.1 p.2.2)) hO0.1;have Y:(A.j.ax P p).2.2.2.fl m=P.fl m:=by
   rw[I];unfold PD.fl;rw[a1];cases hk:lookup P.D.A6 (A9 m) with
   | none=>rfl
   | some g=>
    have X:g≠f0:=λe=>W (by
     have:=JA (h.di.As _ h.di.CH) (Ea hk) (Ea hO0.1) e
     exact FV.1 (P6 this).1)
    rcases H with H|⟨j,H⟩
    ·rw[H]
    ·rw[H];simp[upd,X]
  rw[Y]at hc;exact h.H4 m hm c hc
def SI.I(h:SI bd A P puts Ag o sg cl ol)(Y:ol=none->isNum (A.j.A8+1)=true/\A.j.A8+1<=bd.1)(p:Pu)(X:B8 p):
 DI bd (A.I P p).2.2.2 (puts++[p]) Ag o/\((A.I P p).1=true->Reads bd (A.I P p).2.2.2 (puts++[p]) o)/\((A.I P p).1=false->DI bd (A.I P p).2.2.2 puts Ag o/\Reads bd (A.I P p).2.2.2 puts o)/\
  ((A.I P p).2.1=0->(A.I P p).1=true/\SI bd (A.I P p).2.2.1 (A.I P p).2.2.2 (puts++[p]) Ag o sg cl (some (ol.getD []++[p]))/\(A.I P p).2.2.1.AM=[]):=by
 unfold Ar.I;by_cases O:(A.aa P).1=0
 ·rw[Ae (nn O)];dsimp only
  have⟨hS,_⟩:=h.dF O;have hA:(A.aa P).2.1 = {A with AM:=[]}:=by
   unfold Ar.aa at O ⊢;split at O
   ·rename_i I;exact absurd O I
   ·rename_i I;rw[Ae I]
  rw[hA];dsimp only
  generalize (A.aa P).2.2=P1 at hS;cases ol with
  | none=>
   have H:=h.B7.AP.1;have⟨⟨b1,b2⟩,b3⟩:=hS.au rfl (Y rfl).1 (Y rfl).2;dsimp only at b1 b2 b3;by_cases I:(A.j.au P1).1=0
   ·have⟨c1,c2⟩:=b3 I;have e:A.j.I P1 p=(A.j.au P1).2.1.ax (A.j.au P1).2.2 p:=by
     unfold Jn.I;rw[Ah H,Ae (nn I)]
    rw[e];have⟨d1,d2,d3⟩:=c1.ax p X;refine⟨d1,λW=>(d2 W).2,d3,λz=>?_⟩;have⟨e1,e2⟩:=c1.dZ p X z;exact⟨e1,e2,rfl⟩
   ·have e:A.j.I P1 p=(false,(A.j.au P1).1,(A.j.au P1).2.1,(A.j.au P1).2.2):=by
     unfold Jn.I;rw[Ah H,Ah I]
    rw[e];exact⟨b1.b5 [p],λW=>(by cases W),λ_=>⟨b1,b2⟩,λz=>absurd z I⟩
  | some l=>
   (have H:¬A.j.AP=none:=by rw[h.B7.AP.1];simp);(have e:A.j.I P1 p=A.j.ax P1 p:=by unfold Jn.I;rw[Ae H]);rw[e];have⟨d1,d2,d3⟩:=hS.ax p X;refine⟨d1,λW=>(d2 W).2,d3,λz=>?_⟩;have⟨e1,e2⟩:=hS.dZ p X z;exact⟨e1,e2,rfl⟩
 ·rw[Ah O];have⟨u1,u2⟩:=h.ew;exact⟨u1.b5 [p],λW=>(by cases W),λ_=>⟨u1,u2⟩,λz=>absurd z O⟩
end
section
variable{bd:Int×Int}{P P':PD}{V V':View}{A:Ar}{ix:Ix}{sg cl:List (Int×List Pu)}{lo:Option (Int×List Pu)}{ol:Option (List Pu)}{puts:List Pu}{Ag:Nat}{o:Int}
def VS(h:P.aN.1=0):Br P.aN.2=[P.D.A6]/\P.aN.2.D.A6=P.D.A6/\P.aN.2.F=P.F/\P.aN.2.D.Ap=[]:=by
 unfold PD.aN E4 at h ⊢;dsimp only at h ⊢;rw[Ah h];exact⟨rfl,rfl,rfl,rfl⟩
def Qj(P:PD):P.aN.2.fl=P.fl:=by
 unfold PD.aN E4 PD.fl;dsimp only
 split<;>rfl
def TH(h:P'.fl=P.fl)(m:Bs):P'.bs m=P.bs m:=by unfold PD.bs;rw[h]
def DI.Gv(h:DI bd P puts Ag o)(O:Br P=[P.D.A6]){z:Nat}(I:Holds bd P.fl puts z o):DI bd P puts z o:=
 ⟨λs H=>by rw[O]at H;simp at H;subst H;exact I,h.As,h.Cg,h.CH⟩
end
section
variable{bd:Int×Int}{P P':PD}{V V':View}{A:Ar}{ix:Ix}{sg cl:List (Int×List Pu)}{lo:Option (Int×List Pu)}{ol:Option (List Pu)}{puts:List Pu}{Ag:Nat}{o:Int}
def SI.by(h:SI bd A P puts Ag o sg cl ol)(hL:CW bd P.fl A.ix sg cl (ol.map λl=>(A.j.A8,l))):CX bd P.fl A.ix sg cl (ol.map λl=>(A.j.A8,l)) puts Ag o:=by
 have⟨nb,n1,n2,n3,n4⟩:=h.J5;refine⟨nb,hL,n1,n2,λn l e=>?_,λe=>?_⟩
 ·cases ol with
  | none=>cases e
  | some l0=>
   cases e;have⟨f,hO⟩:=h.AP l rfl;rcases hO.2 _ h.di.CH with I|⟨_,ix',sg',cl',l',W,c,_,hnb,_,g1,g2,_,g4,g5⟩
   ·exact absurd rfl (I _ (Ea hO.1))
   ·(have Y:l=puts.drop nb:=by simpa using n3);have⟨c2,e1,e2⟩:=IY h.B7.AP.2.2.1;have O:c2=c:=by
     have H:P.fl (Af A.j.A8)=some c:=g1;rw[e1]at H;simpa using H
    subst O;have z:l.length=l'.length:=by
     have:=E5 List.length (e2.symm.trans g2);rw[JG,JG]at this;omega
    have X:nb=W:=by
     rw[Y,g5,CM,CM]at z;omega
    refine⟨c2,e1,?_,by rw[Y,Cj]⟩;(have:Fp c2 l=Fp c2 l':=by unfold Fp;rw[z]);rw[this,X];exact g4
 ·cases ol with
  | none=>exact n4 rfl
  | some l=>cases e
def SI.eL(h:SI bd A P puts Ag o sg cl ol):Ci o (Az sg++Az cl++EG (ol.map λl=>(A.j.A8,l))) puts:=by
 have:=h.CK;unfold Cl at this;cases ol<;>simpa[EG,List.append_assoc] using this
def CX.bz(h:CX bd V ix sg cl lo puts Ag o)(z:Ci o (Az sg++Az cl++EG lo) puts)(H:(Az cl).length<=1099511627776):Whole bd V puts o:=⟨ix,sg,cl,lo,h.br,H,z⟩
def CX.segs{z:List (Int×List Pu)}(I:CW bd V ix z [] none)(H:Ci o (Az z) puts)(h:Ag<=puts.length):CX bd V ix z [] none puts Ag o:=
 ⟨puts.length,I,Aq _,by rw[Cj];simpa[Az] using H,λn l e=>(by cases e),λ_=>h⟩
def Ss:∀(fresh:List (List Pu)) (last:Int) (kept:List Int) {P:PD},DI bd P puts Ag o->0<=last->last+fresh.length<=4611686018427387904->last+fresh.length<=bd.2->(PD.ah fresh last kept P).1=0->
 (∀x∈Cf last fresh,∀c,(PD.ah fresh last kept P).2.2.2.fl (Aw x.1)=some c->Cr c)/\∀m,(∀x∈Cf last fresh,m≠Aw x.1)->(PD.ah fresh last kept P).2.2.2.fl m=P.fl m
 | [],last,kept,P,_,_,_,_,_=>⟨λx H=>(by cases H),λm _=>rfl⟩
 | l::r,last,kept,P,h,h0,h1,hb,hok=>by
  simp only[BM]at h1 hb;have I:PD.ah (l::r) last kept P=if (P.aI (last+1) l).1≠0 then ((P.aI (last+1) l).1,last+1,kept,(P.aI (last+1) l).2) else PD.ah r (last+1) (kept++[last+1]) (P.aI (last+1) l).2:=rfl
  rw[I]at hok ⊢;by_cases W:(P.aI (last+1) l).1=0
  ·rw[Ae (nn W)]at hok ⊢;(have z:isNum (last+1)=true:=by unfold isNum;simp;omega);have hw:DI bd (P.aI (last+1) l).2 puts Ag o:=h.aH (.inr ⟨last+1,⟨z,by omega⟩,rfl⟩) _ _;have⟨i1,i2⟩:=Ss r (last+1) (kept++[last+1]) hw (by omega) (by omega) (by omega) hok;have⟨e1,e2⟩:=JP P (Aw (last+1)) (AB (Aw (last+1))) (Cb l);have⟨e3,e4⟩:=e2 W;have Y:∀x∈Cf (last+1) r,Aw (last+1)≠Aw x.1:=λx H e=>by
    have H:=Gw H;have:=KF z (by unfold isNum;simp;omega) e;omega
   have aB:=Extra.fl h e1;refine⟨λx H c X=>?_,λm hm=>?_⟩
   ·rcases BF.1 H with rfl|H
    ·rw[i2 _ Y]at X;have:(P.aI (last+1) l).2.fl (Aw (last+1))=some ((P.aI (last+1) l).2.F P.D.AS):=by
      unfold PD.fl;have aD:lookup (P.aI (last+1) l).2.D.A6 (A9 (Aw (last+1)))=some P.D.AS:=e3;rw[aD];rfl
     rw[this]at X;cases X;exact e4
    ·exact i1 x H c X
   ·rw[i2 m λx H=>hm x (Bn _ H)];have aA:=hm _ (Bp ..);have O:(P.aI (last+1) l).2.fl=P.fl\/(P.fl (Aw (last+1))=none/\∀m,(P.aI (last+1) l).2.fl m=if m=Aw (last+1) then some ((P.aI (last+1) l).2.F P.D.AS) else P.fl m):=aB;rcases O with e|⟨_,e⟩
    ·rw[e]
    ·rw[e,Ae aA]
  ·rw[Ah W]at hok;exact absurd hok W
def Vn{nm:Bs}{s:Nat}{l:Bs}(h:(P.aH nm s l).1=0):((P.aH nm s l).2.F P.D.AS).1=AT s l:=by
 unfold PD.aH at h ⊢;have⟨c1,c2⟩:=KT P nm;by_cases O:(P.af (A9 nm)).1=0
 ·rw[Ae (nn O)]at h ⊢;have X:=c2 O;by_cases I:((P.af (A9 nm)).2.I (A9 nm) s l).2.1=0
  ·rw[Ae (nn I)];(have Y:(P.af (A9 nm)).2.F P.D.AS=([],0):=by unfold PD.af;simp[upd]);have ea:=Ut (AT s l) X I;(have W:lookup ((P.af (A9 nm)).2.al (A9 nm) (AT s l)).2.D.A6 (A9 nm)=some P.D.AS:=by rw[(Iq (AT s l) X).1];exact X);have H:((P.af (A9 nm)).2.I (A9 nm) s l).2.2=((P.af (A9 nm)).2.al (A9 nm) (AT s l)).2:=rfl;rw[H];have⟨_,_,_,z⟩:=ID W;rcases z with z|z
   ·rw[z,ea];simp[upd,Y]
   ·rw[z,ea];simp[upd,Y]
  ·rw[Ah I]at h;exact absurd h I
 ·rw[Ah O]at h;exact absurd h O
def DI.cJ(h:DI bd P puts Ag o)(hT:CX bd P.fl ix sg cl lo puts Ag o)(hW:Ci o (Az sg++Az cl++EG lo) puts)(aE:(Az cl).length<=1099511627776){first:Int}{z:List (Int×List Pu)}(Y:Hv bd ⟨first,z.map (·.1)⟩ z)(aF:∀x∈z,((∀p∈x.2,B8 p)/\Cs Cq x.2=true)/\∃c,P.fl (Aw x.1)=some c/\Cr c/\c.1=AT (AB (Aw x.1)) (Cb x.2))(aB:∀n,isNum n=true->first<=n->P.fl (Af n)=none)(hs:Ci o (Az z) puts)(X:Ag<=puts.length):
 DI bd (P.ai first (z.map (·.1))).2 puts Ag o/\Reads bd (P.ai first (z.map (·.1))).2 puts o/\((P.ai first (z.map (·.1))).1=0->CX bd (P.ai first (z.map (·.1))).2.fl ⟨first,z.map (·.1)⟩ z [] none puts Ag o):=by
 have⟨e1,e2⟩:=JP P Bl (AB AF) (Co first (z.map (·.1)));have d1:DI bd (P.aH Bl (AB AF) (Co first (z.map (·.1)))).2 puts Ag o:=h.aH (.inl rfl) _ _;have t1:=hT.dO h e1 (.inl rfl);have aD:=Extra.fl h e1;unfold PD.ai;by_cases h1:(P.aH Bl (AB AF) (Co first (z.map (·.1)))).1=0
 ·rw[Ae (nn h1)];have⟨e3,e4⟩:=e2 h1;have O:=Vn h1;obtain⟨H,aA⟩:∃H,(P.aH Bl (AB AF) (Co first (z.map (·.1)))).2=H:=⟨_,rfl⟩;rw[aA]at O;rw[aA]at d1 t1 e3 e4 aD ⊢;have hV:CW bd (λm=>if m=AF then some (H.F P.D.AS) else if m=Bl then none else H.fl m) ⟨first,z.map (·.1)⟩ z [] none:=by
   have I:∀m,m≠Bl->H.fl m=P.fl m:=λm hm=>by
    rcases aD with e|⟨_,e⟩
    ·rw[e]
    ·rw[e,Ae hm]
   refine CW.fh (V:=H.fl) Y ⟨e4,O⟩ (λx hx=>?_) (λn k1 k2=>?_) t1.br.DZ t1.br.E9 λ_=>rfl
   ·rw[I _ (IG _)];exact aF x hx
   ·rw[I _ (IU _)];exact aB n k1 k2
  have hB:=CX.segs (Ag:=Ag) hV hs X;have d2:=d1.eO e3 hB.ck;have⟨a1,a2,a3⟩:=R6 (nw:=AF) d1.bq e3;have aG:=(t1.bz hW aE).bl;rcases a3 with⟨b1,b2,b3⟩|⟨b1,b2⟩
  ·refine⟨d2,aG.az (TH (by unfold PD.fl;rw[b1,a1])),λW=>absurd W b3⟩
  ·have hf:(H.aO (A9 Bl) (A9 AF)).2.fl=λm=>if m=AF then some (H.F P.D.AS) else if m=Bl then none else H.fl m:=by
    funext m
    (have:(H.aO (A9 Bl) (A9 AF)).2.fl m=vw H.F ((H.D.A6.filter λe=>decide (e.1≠A9 Bl/\e.1≠A9 AF))++[(A9 AF,P.D.AS)]) m:=by unfold PD.fl vw;rw[b1,a1]);rw[this,Q1 Ih.symm];rfl
   rw[<-hf]at hB;exact⟨d2,(hB.bz (by simpa[Az,EG] using hs) (by simp[Az])).bl,λ_=>hB⟩
 ·rw[Ah h1];exact⟨d1,(t1.bz hW aE).bl,λW=>absurd W h1⟩
end
end
end Go.Proofs.YtodcnkbblippnabGreatDoor
