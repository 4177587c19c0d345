/- Part 18 of a proof: walks of the program. -/
import Derived.Test.YtodcnkbblippnaaGreatDoorPart17
namespace Go.Proofs.YtodcnkbblippnaaGreatDoor
set_option maxRecDepth 100000
set_option maxHeartbeats 32000000
set_option linter.defProp false
open Go.Proofs.Tryz
section
open Go.RowKit
def Reads(bd:Int×Int)(P:PD)(q:List Pu)(o:Int):Prop:=∃A sg cl ol,Lay P A sg cl ol/\C6 o (Dl sg cl ol) q/\HH bd A.ix sg
def Whole(bd:Int×Int)(V:View)(q:List Pu)(o:Int):Prop:=∃ix sg cl lo,CW bd V ix sg cl lo/\(AG cl).length<=1099511627776/\C6 o (AG sg++AG cl++EM lo) q
section
variable {bd:Int×Int} {P P':PD} {V V':View} {A:Ar} {ix:Ix} {sg cl:List (Int×List Pu)} {lo:Option (Int×List Pu)} {ol:Option (List Pu)} {puts q:List Pu} {Ad:Nat} {o:Int} {nm:Bs}
def CW.Bc(h:CW bd P.fl ix sg cl lo)(hl:(AG cl).length<=1099511627776)(K L:Int)(hK:0<=K/\ix.B9<=K+1)(aA:∀n,isNum n=true->P.fl (Ah n)≠none->n<=K)(hL:0<=L)(aB:∀n,isNum n=true->P.fl (AJ n)≠none->n<=L):
 Lay P ⟨ix,⟨cl.map (·.1)++(lo.map (·.1)).toList,K,((AG cl++EM lo).length:Int),none⟩,L,[]⟩ sg (cl++lo.toList) none:=by
 have W:∀m,P.bs m≠none->P.fl m≠none:=λm hm e=>hm (Is.2 e);have z:∀x∈cl++lo.toList,(isNum x.1=true/\ix.B9<=x.1)/\(∀p∈x.2,Bq p)/\P.fl (Ah x.1)≠none:=λx d=>by
  rcases AY.1 d with d|d
  ·obtain⟨I,E,c,O,_⟩:=h.CO x d;exact⟨I,E,by rw[O];simp⟩
  ·cases lo with
   | none=>simp at d
   | some y=>
    simp at d;subst d;obtain⟨n,l⟩:=x;obtain⟨I,E,c,O,_⟩:=h.Ac n l rfl;exact⟨I,E,by rw[O];simp⟩
 have Y:AG (cl++lo.toList)=AG cl++EM lo:=by
  cases lo with
  | none=>simp[AG,EM]
  | some y=>simp[AG,EM]
 have X:FI P.fl 0 (cl++lo.toList):=by
  cases lo with
  | none=>simpa using h.Av
  | some y=>
   obtain⟨n,l⟩:=y;obtain⟨_,E,c,O,h4⟩:=h.Ac n l rfl;refine h.Av.bT ?_;unfold IY;rw[O];dsimp only
   rw[N5];exact h4.aV (by constructor<;>omega) E
 refine⟨h.Ea.1,?_,h.segs,λx d=>?_,λx d=>⟨⟨(z x d).1.1,aA _ (z x d).1.1 (z x d).2.2⟩,(z x d).2.1⟩,λx _ d=>absurd rfl d,⟨λx d=>(z x d).1.2,λd=>absurd rfl d⟩,FI.at.1 X,?_,⟨rfl,?_⟩,⟨hK.1,hK.2,λn I E=>aA n I (W _ E)⟩,⟨hL,λn I E=>aB n I (W _ E)⟩,λm hm=>(by cases hm),h.G3,λm hm=>(h.El m (W m hm)).1,λn I E O=>h.CH n I E (W _ O)⟩
 ·rcases h.Io with⟨I,E⟩|⟨c,I,_,O⟩
  ·exact .inl ⟨Is.2 I,E⟩
  ·exact .inr (by rw[P8 I,O])
 ·obtain⟨I,c,E,_,h4⟩:=h.Cy x d;exact⟨I,by rw[P8 E,h4]⟩
 ·dsimp only;rw[Y]
 ·dsimp only
  rw[EV];cases lo<;>simp
def Whole.bt(h:Whole bd P.fl q o):Reads bd P q o:=by
 obtain⟨ix,sg,cl,lo,I,O,W⟩:=h;have L:=I.Ea.1.B9;unfold isNum at L;simp at L;have E:=I.Bc O 4611686018427387904 4611686018427387904 ⟨by decide,by omega⟩ (λn d _=>by unfold isNum at d;simp at d;exact d.2) (by decide) (λn d _=>by unfold isNum at d;simp at d;exact d.2);refine⟨_,sg,_,none,E,?_,I.Ea⟩;unfold Dl;have z:AG (cl++lo.toList)=AG cl++EM lo:=by
  cases lo<;>simp[AG,EM]
 rw[z];simpa[List.append_assoc] using W
def F8.bA{n:Int}{ahead:Nat}(h:F8 bd V puts Ad o n ahead)(ha:ahead<=1099511627776):Whole bd V puts o:=by
 obtain⟨ix,sg,cl,l,nb,c,E,hnb,d,h1,h2,h3,h4,z⟩:=h;refine⟨ix,sg,cl,some (n,l),E,by omega,?_⟩;have:puts=puts.take nb++l:=by rw[z,E0]
 conv=>rhs;rw[this]
 exact d.dC l
def Reads.aR{d:Int×Int}(h:Reads bd P q o)(z:HI bd d):Reads d P q o:=by
 obtain⟨A,sg,cl,ol,I,E,L⟩:=h;exact⟨A,sg,cl,ol,I,E,L.aR z⟩
def Reads.ba{d:Int}(h:Reads bd P q o)(z:o<=d):Reads bd P q d:=by
 obtain⟨A,sg,cl,ol,I,E,L⟩:=h;exact⟨A,sg,cl,ol,I,E.ba z,L⟩
def Reads.to{d:List Pu}(h:Reads bd P q o)(E:C6 o q d):Reads bd P d o:=by
 obtain⟨A,sg,cl,ol,I,z,L⟩:=h;exact⟨A,sg,cl,ol,I,z.Au E,L⟩
def Reads.au(h:Reads bd P q o)(d:∀m,P'.bs m=P.bs m):Reads bd P' q o:=by
 obtain⟨A,sg,cl,ol,E,z,I⟩:=h;exact⟨A,sg,cl,ol,E.au d,z,I⟩
def Qg(P:PD)(nm:ByteArray)(m:Bs):(P.fl m=none/\(P.ae nm).2.fl m=none)\/∃c d,P.fl m=some c/\(P.ae nm).2.fl m=some d/\d.1=c.1/\(d.2=c.2\/BZ d):=by
 cases hx:lookup P.D.A5 nm with
 | none=>
  have e:(P.ae nm).2=P:=by unfold PD.ae Cz;rw[hx]
  rw[e];cases hf:P.fl m with
  | none=>exact .inl ⟨rfl,rfl⟩
  | some c=>exact .inr ⟨c,c,rfl,rfl,rfl,.inl rfl⟩
 | some f=>
  obtain⟨z,a2,a3,h⟩:=IH hx;unfold PD.fl;rw[z];cases hk:lookup P.D.A5 (Ab m) with
  | none=>exact .inl ⟨rfl,rfl⟩
  | some g=>
   refine .inr ⟨P.F g,(P.ae nm).2.F g,rfl,rfl,?_⟩;rcases h with h|h
   ·rw[h];exact⟨rfl,.inl rfl⟩
   ·rw[h];by_cases e:g=f
    ·subst e;simp[upd,BZ]
    ·simp[upd,e]
def Nq(P:PD)(nm:ByteArray)(m:Bs):(P.ae nm).2.bs m=P.bs m:=by
 unfold PD.bs;rcases Qg P nm m with⟨z,h⟩|⟨c,d,z,h,E,_⟩
 ·rw[z,h]
 ·rw[z,h];simp[E]
def Qn:∀(l:List Bs) (P:PD) (m:Bs),(PD.aw l P).2.bs m=P.bs m
 | [],P,m=>rfl
 | x::r,P,m=>by
  unfold PD.aw;split
  ·exact Nq P (Ab x) m
  ·rw[Qn r,Nq]
def Nv(A:Ar)(P:PD)(m:Bs):(A.I P).2.2.bs m=P.bs m:=by
 unfold Ar.I;split<;>exact Qn _ _ m
def Np{c:FC}{P:PD}{nm:ByteArray}{m:Bs}(h:∀c,P.fl m=some c->BZ c)(E:(P.ae nm).2.fl m=some c):BZ c:=by
 rcases Qg P nm m with⟨_,I⟩|⟨a,d,L,I,O,z⟩
 ·rw[I]at E;cases E
 ·rw[I]at E;cases E;rcases z with z|z
  ·have:=h a L;unfold BZ at this ⊢;rw[z,O];exact this
  ·exact z
def Nr:∀(l:List Bs) {P:PD} {m:Bs},(∀c,P.fl m=some c->BZ c)->∀c,(PD.aw l P).2.fl m=some c->BZ c
 | [],P,m,h,c,d=>h c d
 | x::r,P,m,h,c,d=>by
  unfold PD.aw at d;split at d
  ·exact Np h d
  ·exact Nr r (λc d=>Np h d) c d
def Qf{P:PD}{x:Bs}(d:(P.ae (Ab x)).1=0):∀c,(P.ae (Ab x)).2.fl x=some c->BZ c:=by
 intro c h;unfold PD.fl PD.ae Cz at h;unfold PD.ae Cz at d;cases hx:lookup P.D.A5 (Ab x) with
 | none=>rw[hx]at d;cases d
 | some f=>
  rw[hx]at d h;dsimp only at d h;rw[Ai d,hx]at h;simp[upd]at h;subst h;rfl
def Ql:∀(l:List Bs) {P:PD},(PD.aw l P).1=0->∀m∈l,∀c,(PD.aw l P).2.fl m=some c->BZ c
 | x::r,P,hok,m,h,c,hc=>by
  unfold PD.aw at hok hc;by_cases d:(P.ae (Ab x)).1=0
  ·rw[Ae (nn d)]at hok hc;rcases BX.1 h with rfl|h
   ·exact Nr r (Qf d) c hc
   ·exact Ql r hok m h c hc
  ·rw[Ai d]at hok;exact absurd hok d
def Xb(d:(A.I P).1=0){m:Bs}(h:∀c,P.fl m=some c->m∈A.AR\/BZ c):∀c,(A.I P).2.2.fl m=some c->BZ c:=by
 intro c z;unfold Ar.I at d z;by_cases E:(P.aw A.AR).1=0
 ·rw[Ae (nn E)]at z;by_cases I:m∈A.AR
  ·exact Ql A.AR E m I c z
  ·exact Nr A.AR (λc z=>(h c z).resolve_left I) c z
 ·rw[Ai E]at d;exact absurd d E
def F8.bF{n:Int}{ahead:Nat}(h:F8 bd V puts Ad o n ahead)(I:∀nm,(∀c,V nm=some c->∃d,V' nm=some d/\d.1=c.1/\(d.2=c.2\/BZ d))/\(V nm=none->V' nm=none)):F8 bd V' puts Ad o n ahead:=by
 obtain⟨ix,sg,cl,l,nb,c,O,W,hs,Y,g2,g3,g4,g5⟩:=h;have L:∀nm,V' nm≠none->V nm≠none:=λnm z E=>z ((I nm).2 E);obtain⟨d,e1,X,e3⟩:=(I _).1 c Y;refine⟨ix,sg,cl,l,nb,d,O.bF (λnm _=>?_) (λnm z=>O.El nm (L nm z)) (λnm c z=>?_),W,hs,e1,by rw[X];exact g2,g3,AQ g4 (L8 (Tm X e3 (O.E3 _ _ Y).2) _),g5⟩
 ·cases E:V nm with
  | none=>exact .inl ⟨rfl,(I nm).2 E⟩
  | some c=>obtain⟨d,d1,d2,d3⟩:=(I nm).1 c E;exact .inr ⟨c,d,rfl,d1,d2,d3⟩
 ·cases E:V nm with
  | none=>rw[(I nm).2 E]at z;cases z
  | some x=>
   obtain⟨d,d1,d2,d3⟩:=(I nm).1 x E;rw[d1]at z;cases z;have:=O.E3 nm x E;rcases d3 with d3|d3
   ·rw[d2,d3];exact this
   ·unfold BZ at d3;omega
def Ev.cz{n:Int}{f ahead:Nat}(h:Ev bd P puts Ad o n f ahead)(nm:ByteArray):Ev bd (P.ae nm).2 puts Ad o n f ahead:=by
 cases hx:lookup P.D.A5 nm with
 | none=>
  have e:(P.ae nm).2=P:=by unfold PD.ae Cz;rw[hx]
  rw[e];exact h
 | some g0=>
  obtain⟨Y,a2,O,d⟩:=IH hx;have es:Bz (P.ae nm).2=Bz P:=by unfold Bz;rw[a2,O]
  refine⟨by rw[Y];exact h.1,λs L=>?_⟩;rw[es]at L;rcases h.2 s L with E|⟨W,I⟩
  ·exact .inl E
  ·refine .inr ⟨W,?_⟩;rcases d with d|d
   ·rw[d];exact I
   ·refine I.bF λm=>?_;unfold vw;cases hk:lookup s (Ab m) with
    | none=>exact⟨λc z=>by simp at z,λ_=>rfl⟩
    | some g=>
     refine⟨λc z=>?_,λX=>by simp at X⟩;simp at z;subst z;rw[d];by_cases e:g=g0
     ·subst e;exact⟨_,rfl,by simp[upd],.inr (by simp[upd,BZ])⟩
     ·exact⟨P.F g,by simp[upd,e],rfl,.inl rfl⟩
def Ev.aw{n:Int}{f ahead:Nat}:∀(l:List Bs) {P:PD},Ev bd P puts Ad o n f ahead->Ev bd (PD.aw l P).2 puts Ad o n f ahead
 | [],P,h=>h
 | x::r,P,h=>by
  have d:=h.cz (Ab x);unfold PD.aw;split
  ·exact d
  ·exact Ev.aw r d
def Ev.I{n:Int}{f ahead:Nat}(h:Ev bd P puts Ad o n f ahead):Ev bd (A.I P).2.2 puts Ad o n f ahead:=by
 unfold Ar.I;split<;>exact h.aw _
end
structure SI (bd:Int×Int) (A:Ar) (P:PD) (puts:List Pu) (Ad:Nat) (o:Int) (sg cl:List (Int×List Pu)) (ol:Option (List Pu)):Prop where
 di:DI bd P puts Ad o
 Bc:Lay P A sg cl ol
 Hv:∃nb,nb<=puts.length/\C6 o (AG sg++AG cl) (puts.take nb)/\ol.getD []=puts.drop nb/\(ol=none->Ad<=nb)
 Gs:∀m,(m=AK\/(∃x∈sg,m=AJ x.1)\/∃x∈cl,m=Ah x.1)->∀c,P.fl m=some c->m∈A.AR\/BZ c
 AE:∀l,ol=some l->∃f,Ev bd P puts Ad o A.j.Ac f (AG cl).length
 CK:(AG cl).length<=1099511627776
 Eh:HH bd A.ix sg/\A.j.Ac<=bd.1/\A.Ac<=bd.2
section
variable {bd:Int×Int} {P P':PD} {A:Ar} {sg cl:List (Int×List Pu)} {ol:Option (List Pu)} {puts:List Pu} {Ad:Nat} {o:Int}
def DI.E3(h:DI bd P puts Ad o)(nm:Bs)(c:FC)(z:P.fl nm=some c):0<=c.2/\c.2<=c.1.length:=by
 obtain⟨ix,sg,cl,lo,nb,d,_⟩:=h.DH _ h.Cs;exact d.E3 nm c z
def DI.Az(h:DI bd P puts Ad o):∀nm,P.fl nm≠none->Fq bd nm:=by
 obtain⟨ix,sg,cl,lo,nb,d,_⟩:=h.DH _ h.Cs;exact d.El
def Ev.aR{d:Int×Int}{n:Int}{f ahead:Nat}(h:Ev bd P puts Ad o n f ahead)(z:HI bd d):Ev d P puts Ad o n f ahead:=
 ⟨h.1,λs E=>(h.2 s E).imp id λq=>⟨q.1,q.2.aR z⟩⟩
def SI.aR{d:Int×Int}(h:SI bd A P puts Ad o sg cl ol)(z:HI bd d):SI d A P puts Ad o sg cl ol:=
 ⟨h.di.aR z,h.Bc,h.Hv,h.Gs,λl e=>by obtain⟨f,E⟩:=h.AE l e;exact⟨f,E.aR z⟩,h.CK,h.Eh.1.aR z,by have:=h.Eh.2.1;have:=z.1;omega,by have:=h.Eh.2.2;have:=z.2;omega⟩
def SI.CH(h:SI bd A P puts Ad o sg cl ol):C6 o (Dl sg cl ol) puts:=by
 obtain⟨nb,h1,d,z,_⟩:=h.Hv;unfold Dl;rw[<-C8,z];have:puts=puts.take nb++puts.drop nb:=(E0 _ _).symm
 conv=>rhs;rw[this]
 exact d.dC _
def SI.bt(h:SI bd A P puts Ad o sg cl ol):Reads bd P puts o:=⟨A,sg,cl,ol,h.Bc,h.CH,h.Eh.1⟩
def SI.dG(h:SI bd A P puts Ad o sg cl ol):Ad<=puts.length:=by
 obtain⟨nb,W,_,_,L⟩:=h.Hv;cases ol with
 | none=>exact AQ (L rfl) W
 | some l=>
  obtain⟨f,I,O⟩:=h.AE l rfl;rcases O _ h.di.Cs with d|⟨_,ix,sg',cl',l',nb',c,_,hnb,_,_,_,_,E,z⟩
  ·exact absurd rfl (d _ (E9 I))
  ·(have:F4 c l'<=l'.length:=by unfold F4;omega);rw[z,Cl]at this;rw[z]at E;omega
def SI.de(h:SI bd A P puts Ad o sg cl ol)(L:(A.I P).1=0):SI bd {A with AR:=[]} (A.I P).2.2 puts Ad o sg cl ol/\CW bd (A.I P).2.2.fl A.ix sg cl (ol.map λl=>(A.j.Ac,l)):=by
 have Y:=Nv A P;have d:=h.Bc.au Y;have W:Lay (A.I P).2.2 {A with AR:=[]} sg cl ol:=⟨d.Ea,d.ix,d.segs,d.Cy,d.CO,d.J9,d.ER,d.Av,d.Gx,d.AE,d.EN,d.Ey,λm E=>(by cases E),d.H9,d.El,d.Hr⟩;have I:=h.di.I (A:=A);have z:∀m,(m=AK\/(∃x∈sg,m=AJ x.1)\/∃x∈cl,m=Ah x.1)->∀c,(A.I P).2.2.fl m=some c->BZ c:=λm E=>Xb L (h.Gs m E);exact⟨⟨I,W,h.Hv,λm E c O=>.inr (z m E c O),λl e=>by obtain⟨f,X⟩:=h.AE l e;exact⟨f,X.I⟩,h.CK,h.Eh⟩,W.bp h.CK I.E3 (λm c E O=>z m E c O) h.Eh.1 I.Az⟩
def SI.dI(h:SI bd A P puts Ad o sg cl ol):DI bd (A.I P).2.2 puts Ad o/\Reads bd (A.I P).2.2 puts o:=⟨h.di.I,h.bt.au (Nv A P)⟩
def A3k{P:PD}{nm:Bs}{f:Nat}{pc:Bs}(h:lookup P.D.A5 (Ab nm)=some f)(d:(P.aq (Ab nm) pc).2.D.A5=P.D.A5):Hd P.D P.F (Ab nm) pc=decide (((((P.aq (Ab nm) pc).2.F f).1.length:Int)-(P.F f).1.length)=pc.length):=by
 have e:Hd P.D P.F (Ab nm) pc=decide ((Cv (P.aq (Ab nm) pc).2.D (P.aq (Ab nm) pc).2.F (Ab nm)).1-(Cv P.D P.F (Ab nm)).1=pc.length):=rfl;rw[e];unfold Cv;rw[d,h]
def SI.ay{l:List Pu}(h:SI bd A P puts Ad o sg cl (some l))(p:Pu)(hp:Bq p):
 DI bd (A.j.ay P p).2.2.2 (puts++[p]) Ad o/\((A.j.ay P p).1=true->(∃f,Ev bd (A.j.ay P p).2.2.2 (puts++[p]) Ad o A.j.Ac f (AG cl).length)/\Reads bd (A.j.ay P p).2.2.2 (puts++[p]) o)/\
  ((A.j.ay P p).1=false->DI bd (A.j.ay P p).2.2.2 puts Ad o/\Reads bd (A.j.ay P p).2.2.2 puts o):=by
 obtain⟨f,hO⟩:=h.AE l rfl;obtain⟨h1,h2,h3,h4,h5⟩:=h.Bc.AE;have hl:=hO.1;obtain⟨c,hc,X⟩:=Iq h3;have I:P.F f=c:=by unfold PD.fl at hc;rw[hl]at hc;simpa using hc
 rw[h.Bc.Gx]at X h1;have O:(A.j.ay P p).2.2.2=(P.aq (Ab (Ah A.j.Ac)) (AS (Fl (Ah A.j.Ac) ((AG cl).length:Int) l) (Be p.1 p.2.1 p.2.2))).2:=by
  unfold Jn.ay;rw[h1];rfl
 have E:(A.j.ay P p).1=Hd P.D P.F (Ab (Ah A.j.Ac)) (AS (Fl (Ah A.j.Ac) ((AG cl).length:Int) l) (Be p.1 p.2.1 p.2.2)):=by
  unfold Jn.ay;rw[h1];rfl
 obtain⟨pc,aA⟩:∃pc,AS (Fl (Ah A.j.Ac) ((AG cl).length:Int) l) (Be p.1 p.2.1 p.2.2)=pc:=⟨_,rfl⟩;have Y:pc.length=21:=by rw[<-aA,EX,Fj]
 rw[aA]at O E;obtain⟨a1,a2,a3,a4⟩:=Iu pc hl;have aF:=A3k (pc:=pc) hl a1;have hj:∃j,(P.aq (Ab (Ah A.j.Ac)) pc).2.F=upd P.F f (c.1++pc.take j,c.2)/\((A.j.ay P p).1=true↔21<=j):=by
  rcases a4 with a4|⟨j,a4⟩
  ·refine⟨0,by rw[a4];funext g;by_cases e:g=f<;>simp[upd,e,I],?_⟩;rw[E,aF,a4,Y];simp
  ·refine⟨j,by rw[a4,I],?_⟩;rw[E,aF,a4,Y,I];simp only[upd,Ci,Ba,BI,Y,DO];omega
 obtain⟨j,hF,L⟩:=hj;rw[<-O]at hF a1 a2 a3;rw[<-aA]at hF;obtain⟨b1,b2,b3⟩:=hO.aq h.di I X p hp j a1 a2 a3 hF;refine⟨b1,λht=>?_,λht=>?_⟩
 ·have aB:=b2 (L.1 ht);refine⟨⟨f,aB⟩,?_⟩;rcases aB.2 _ b1.Cs with z|⟨_,hw⟩
  ·exact absurd rfl (z _ (E9 aB.1))
  ·exact Whole.bt (hw.bA h.CK)
 ·have hj:j<21:=by
   by_cases d:21<=j
   ·rw[L.2 d]at ht;cases ht
   ·omega
  refine⟨b3 hj,?_⟩;have z:∀m,m≠Ah A.j.Ac->(A.j.ay P p).2.2.2.bs m=P.bs m:=λm hm=>by
   unfold PD.bs PD.fl;rw[a1,hF];cases hk:lookup P.D.A5 (Ab m) with
   | none=>rfl
   | some g=>
    have:g≠f:=λe=>hm (by
     have:=JF (h.di.Ap _ h.di.Cs) (E9 hk) (E9 hl) e
     exact G5.1 (Pf this).1)
    simp[upd,this]
  have aE:(A.j.ay P p).2.2.2.bs (Ah A.j.Ac)=some (E6 (Ah A.j.Ac) ((AG cl).length:Int) l++(AS (Fl (Ah A.j.Ac) ((AG cl).length:Int) l) (Be p.1 p.2.1 p.2.2)).take j):=by
   unfold PD.bs PD.fl;rw[a1,hl,hF];simp[upd,X]
  have aG:∀x∈cl,Ah x.1≠Ah A.j.Ac:=λx d e=>h.Bc.J9 x d (by simp) (G4 (h.Bc.CO x d).1.1 h5 e);have aD:Fc (A.j.ay P p).2.2.2 0 (cl++[(A.j.Ac,l)]):=by
   refine(h.Bc.Av.br λx d=>z _ (aG x d)).bT ?_;rw[N5];exact Oe (by constructor<;>have:=h.CK<;>omega) h4 (by rw[BI];omega) aE
  refine⟨⟨A.ix,⟨A.j.Av,A.j.Ac,((AG (cl++[(A.j.Ac,l)])).length:Int),none⟩,A.Ac,[]⟩,sg,cl++[(A.j.Ac,l)],none,?_,?_⟩
  ·refine⟨h.Bc.Ea,by rw[z _ (Hs _).symm];exact h.Bc.ix,h.Bc.segs,λx d=>by rw[z _ (G8 _ x.1).symm];exact h.Bc.Cy x d,λx d=>?_,λx _ d=>absurd rfl d,⟨λx d=>?_,λd=>absurd rfl d⟩,aD,rfl,⟨rfl,by dsimp only;rw[h2];simp⟩,
    ⟨h.Bc.EN.1,h.Bc.EN.2.1,λn W k2=>?_⟩,⟨h.Bc.Ey.1,λn W k2=>h.Bc.Ey.2 n W (by rwa [z _ (G8 _ n).symm]at k2)⟩,λm hm=>(by cases hm),h.Bc.H9,λm hm=>?_,λn W k2 k3=>?_⟩
   ·rcases AY.1 d with d|d
    ·exact h.Bc.CO x d
    ·simp at d;subst d;exact⟨⟨h5,I1 _⟩,h4⟩
   ·rcases AY.1 d with d|d
    ·exact h.Bc.ER.1 x d
    ·simp at d;subst d;exact h.Bc.ER.2 (by simp)
   ·by_cases e:Ah n=Ah A.j.Ac
    ·have:=G4 W h5 e;rw[this];exact I1 _
    ·rw[z _ e]at k2;exact h.Bc.EN.2.2 n W k2
   ·by_cases e:m=Ah A.j.Ac
    ·subst e;rw[Ky h5];simp
    ·rw[z _ e]at hm;exact h.Bc.El m hm
   ·by_cases e:Ah n=Ah A.j.Ac
    ·have:=G4 W h5 e;subst this;show A.j.Ac∈A.j.Av;rw[h2];simp
    ·rw[z _ e]at k3;exact h.Bc.Hr n W k2 k3
  ·refine⟨?_,h.Eh.1⟩;have:=h.CH;unfold Dl at this ⊢;simpa[AG] using this
end
section
variable {bd:Int×Int} {P P':PD} {A:Ar} {sg cl:List (Int×List Pu)} {ol:Option (List Pu)} {puts:List Pu} {Ad:Nat} {o:Int}
def SI.bp(h:SI bd A P puts Ad o sg cl ol)(d:A.AR=[]):CW bd P.fl A.ix sg cl (ol.map λl=>(A.j.Ac,l)):=
 h.Bc.bp h.CK h.di.E3 (λm c z E=>(h.Gs m z c E).resolve_left (by rw[d];simp)) h.Eh.1 h.di.Az
def SI.dA(h:SI bd A P puts Ad o sg cl none):C6 o (AG sg++AG cl) puts:=by
 have:=h.CH;unfold Dl at this;simpa using this
def SI.av(h:SI bd A P puts Ad o sg cl none)(aB:A.AR=[])(Y:isNum (A.j.Ac+1)=true)(I:A.j.Ac+1<=bd.1):
 (DI bd (A.j.av P).2.2 puts Ad o/\Reads bd (A.j.av P).2.2 puts o)/\((A.j.av P).1=0->SI bd {A with j:=(A.j.av P).2.1} (A.j.av P).2.2 puts Ad o sg cl (some [])/\(A.j.av P).2.1.Ac=A.j.Ac+1):=by
 have hL:=h.bp aB;have E:∀x∈cl,x.1<A.j.Ac+1:=λx X=>by have:=(h.Bc.CO x X).1.2;omega
 have hf:=h.Bc.EN.2.1;obtain⟨d1,d2⟩:=h.di.av (J:=A.j) hL h.dA h.dG Y I hf E h.Bc.Gx;obtain⟨b1,⟨j,b2⟩,b3⟩:=MB P A.j;have O:=Extra.fl h.di b1;refine⟨⟨d1,?_⟩,λd=>?_⟩
 ·rcases O with e|⟨h0,e⟩
  ·exact h.bt.au λm=>by unfold PD.bs;rw[e]
  ·rw[b2,h.Bc.Gx]at e;have hw:=(hL.dm h.dA h.dG Y I hf E j (V':=(A.j.av P).2.2.fl) e).1;exact Whole.bt ⟨A.ix,sg,cl,some (A.j.Ac+1,[]),hw.bp,h.CK,by simpa[EM] using h.dA⟩
 ·have L:=(AM.aP P).av (J:=A.j) (N:=4611686018427387900) (R:=4611686018427387904) (h.di.bl.aP.ad (by omega) (Ao _)) (by omega) d;obtain⟨s1,s2,s3,s4⟩:=L;have hq:=(h.Bc.au (P':=P.aP) λm=>((AM.aP P).bs m).symm).av (N:=4611686018427387900) (R:=4611686018427387904) (h.di.bl.aP.ad (by omega) (Ao _)) Y (by omega);have W:Lay (A.j.av P).2.2 {A with j:=(A.j.av P).2.1} sg cl (some []):=by
   rw[s2];exact hq.2.2.1.au λm=>s3.bs m
  have z:(A.j.av P).2.1.Ac=A.j.Ac+1:=by
   unfold Jn.av at d ⊢;split at d
   ·rename_i h1;exact absurd d h1
   ·rename_i h1;rw[Ae h1];dsimp only at d ⊢;split at d
    ·rename_i h2;exact absurd d h2
    ·rename_i h2;rw[Ae h2]
  refine⟨⟨d1,W,?_,λm hm c hc=>?_,λl e=>?_,h.CK,h.Eh.1,by dsimp only;rw[z];exact I,h.Eh.2.2⟩,z⟩
  ·obtain⟨nb,g1,g2,g3,g4⟩:=h.Hv;exact⟨nb,g1,g2,g3,λe=>by cases e⟩
  ·
   have aA:m≠Ah (A.j.Ac+1):=by
    rcases hm with rfl|⟨x,_,rfl⟩|⟨x,X,rfl⟩
    ·exact(Hs _).symm
    ·exact(G8 _ x.1).symm
    ·intro e;have:=G4 (h.Bc.CO x X).1.1 Y e;have:=E x X;omega
   rcases O with e|⟨h0,e⟩
   ·rw[e]at hc;exact h.Gs m hm c hc
   ·rw[e,Ae aA]at hc;exact h.Gs m hm c hc
  ·cases e;exact⟨_,by dsimp only;rw[z];exact d2 d⟩
def SI.eo{l:List Pu}(h:SI bd A P puts Ad o sg cl (some l))(p:Pu)(hp:Bq p)(Y:(A.j.ay P p).2.1=0):
 (A.j.ay P p).1=true/\SI bd {A with j:=(A.j.ay P p).2.2.1} (A.j.ay P p).2.2.2 (puts++[p]) Ad o sg cl (some (l++[p])):=by
 obtain⟨s0,s1,s2,s3,s4⟩:=(AM.aP P).ay (J:=A.j) (N:=4611686018427387900) (R:=4611686018427387904) (h.di.bl.aP.ad (by omega) (Ao _)) (by omega) p Y;have hq:=(h.Bc.au (P':=P.aP) λm=>((AM.aP P).bs m).symm).ay (N:=4611686018427387900) (R:=4611686018427387904) (h.di.bl.aP.ad (by omega) (Ao _)) p hp (by omega);have ht:(A.j.ay P p).1=true:=by rw[s0];exact hq.1
 obtain⟨g1,g2,_⟩:=h.ay p hp;have L:Lay (A.j.ay P p).2.2.2 {A with j:=(A.j.ay P p).2.2.1} sg cl (some (l++[p])):=by
  rw[s2];exact hq.2.2.2.au λm=>s3.bs m
 have d:(A.j.ay P p).2.2.1.Ac=A.j.Ac:=by unfold Jn.ay;cases A.j.AE<;>rfl
 obtain⟨f,hO⟩:=(g2 ht).1;refine⟨ht,⟨g1,L,?_,λm hm c hc=>?_,λl' e=>⟨f,by dsimp only;rw[d];exact hO⟩,h.CK,h.Eh.1,by dsimp only;rw[d];exact h.Eh.2.1,h.Eh.2.2⟩⟩
 ·obtain⟨nb,k1,k2,k3,_⟩:=h.Hv;refine⟨nb,by simp;omega,by rw[H0 k1];exact k2,?_,λe=>by cases e⟩;rw[Lk k1,<-k3];rfl
 ·
  obtain⟨h1,h2,h3,h4,h5⟩:=h.Bc.AE;have O:m≠Ah A.j.Ac:=by
   rcases hm with rfl|⟨x,_,rfl⟩|⟨x,hx,rfl⟩
   ·exact(Hs _).symm
   ·exact(G8 _ x.1).symm
   ·intro e;exact h.Bc.J9 x hx (by simp) (G4 (h.Bc.CO x hx).1.1 h5 e)
  obtain⟨f0,E⟩:=h.AE l rfl;have I:(A.j.ay P p).2.2.2=(P.aq (Ab (Ah A.j.Ac)) (AS (Fl (Ah A.j.Ac) A.j.puts l) (Be p.1 p.2.1 p.2.2))).2:=by
   unfold Jn.ay;rw[h1];rfl
  obtain⟨a1,_,_,z⟩:=Iu (AS (Fl (Ah A.j.Ac) A.j.puts l) (Be p.1 p.2.1 p.2.2)) E.1;have X:(A.j.ay P p).2.2.2.fl m=P.fl m:=by
   rw[I];unfold PD.fl;rw[a1];cases hk:lookup P.D.A5 (Ab m) with
   | none=>rfl
   | some g=>
    have W:g≠f0:=λe=>O (by
     have:=JF (h.di.Ap _ h.di.Cs) (E9 hk) (E9 E.1) e
     exact G5.1 (Pf this).1)
    rcases z with z|⟨j,z⟩
    ·rw[z]
    ·rw[z];simp[upd,W]
  rw[X]at hc;exact h.Gs m hm c hc
def SI.af(h:SI bd A P puts Ad o sg cl ol)(hn:ol=none->isNum (A.j.Ac+1)=true/\A.j.Ac+1<=bd.1)(p:Pu)(O:Bq p):
 DI bd (A.af P p).2.2.2 (puts++[p]) Ad o/\((A.af P p).1=true->Reads bd (A.af P p).2.2.2 (puts++[p]) o)/\((A.af P p).1=false->DI bd (A.af P p).2.2.2 puts Ad o/\Reads bd (A.af P p).2.2.2 puts o)/\
  ((A.af P p).2.1=0->(A.af P p).1=true/\SI bd (A.af P p).2.2.1 (A.af P p).2.2.2 (puts++[p]) Ad o sg cl (some (ol.getD []++[p]))/\(A.af P p).2.2.1.AR=[]):=by
 unfold Ar.af;by_cases L:(A.I P).1=0
 ·rw[Ae (nn L)];dsimp only
  obtain⟨W,_⟩:=h.de L;have hA:(A.I P).2.1 = {A with AR:=[]}:=by
   unfold Ar.I at L ⊢;split at L
   ·rename_i E;exact absurd L E
   ·rename_i E;rw[Ae E]
  rw[hA];dsimp only
  generalize (A.I P).2.2=P1 at W;cases ol with
  | none=>
   have z:=h.Bc.AE.1;obtain⟨⟨X,b2⟩,b3⟩:=W.av rfl (hn rfl).1 (hn rfl).2;dsimp only at X b2 b3;by_cases E:(A.j.av P1).1=0
   ·obtain⟨c1,c2⟩:=b3 E;have e:A.j.af P1 p=(A.j.av P1).2.1.ay (A.j.av P1).2.2 p:=by
     unfold Jn.af;rw[Ai z,Ae (nn E)]
    rw[e];obtain⟨d1,d2,d3⟩:=c1.ay p O;refine⟨d1,λI=>(d2 I).2,d3,λd=>?_⟩;obtain⟨e1,Y⟩:=c1.eo p O d;exact⟨e1,Y,rfl⟩
   ·have e:A.j.af P1 p=(false,(A.j.av P1).1,(A.j.av P1).2.1,(A.j.av P1).2.2):=by
     unfold Jn.af;rw[Ai z,Ai E]
    rw[e];exact⟨X.b6 [p],λI=>(by cases I),λ_=>⟨X,b2⟩,λd=>absurd d E⟩
  | some l=>
   (have z:¬A.j.AE=none:=by rw[h.Bc.AE.1];simp);(have e:A.j.af P1 p=A.j.ay P1 p:=by unfold Jn.af;rw[Ae z]);rw[e];obtain⟨d1,d2,d3⟩:=W.ay p O;refine⟨d1,λI=>(d2 I).2,d3,λd=>?_⟩;obtain⟨e1,Y⟩:=W.eo p O d;exact⟨e1,Y,rfl⟩
 ·rw[Ai L];obtain⟨u1,u2⟩:=h.dI;exact⟨u1.b6 [p],λI=>(by cases I),λ_=>⟨u1,u2⟩,λd=>absurd d L⟩
end
section
variable {bd:Int×Int} {P P':PD} {V V':View} {A:Ar} {ix:Ix} {sg cl:List (Int×List Pu)} {lo:Option (Int×List Pu)} {ol:Option (List Pu)} {puts:List Pu} {Ad:Nat} {o:Int}
def A1z{c:FC}{nm:Bs}{a:Int}{l:List Pu}(d:BZ c)(h:c.1=E6 nm a l):F4 c l=l.length:=by
 unfold F4;unfold BZ at d;rw[d,h,J0];have:((12+21*l.length:Nat):Int).toNat=12+21*l.length:=by omega
 rw[this];have:(12+21*l.length-12)/21=l.length:=by omega
 omega
def Qi(d:P.aF.1=0):Bz P.aF.2=[P.D.A5]/\P.aF.2.D.A5=P.D.A5/\P.aF.2.F=P.F/\P.aF.2.D.Aq=[]:=by
 unfold PD.aF DW at d ⊢;dsimp only at d ⊢;rw[Ai d];exact⟨rfl,rfl,rfl,rfl⟩
def II(P:PD):P.aF.2.fl=P.fl:=by
 unfold PD.aF DW PD.fl;dsimp only
 split<;>rfl
def Mk(h:P'.fl=P.fl)(m:Bs):P'.bs m=P.bs m:=by unfold PD.bs;rw[h]
def DI.Gl(h:DI bd P puts Ad o)(I:Bz P=[P.D.A5]){d:Nat}(E:Holds bd P.fl puts d o):DI bd P puts d o:=
 ⟨λs z=>by rw[I]at z;simp at z;subst z;exact E,h.Ap,h.Cd,h.Cs⟩
def SI.ae(h:SI bd A P puts Ad o sg cl ol):
 (DI bd (A.ae P).2.2 puts Ad o/\Reads bd (A.ae P).2.2 puts o)/\((A.ae P).1=0->SI bd (A.ae P).2.1 (A.ae P).2.2 puts puts.length o sg cl ol/\(A.ae P).2.1 = {A with AR:=[]}/\(A.ae P).2.2.D.Aq=[]):=by
 unfold Ar.ae;by_cases Y:(A.I P).1=0
 ·rw[Ae (nn Y)];obtain⟨hS,hL⟩:=h.de Y;have hA:(A.I P).2.1 = {A with AR:=[]}:=by
   unfold Ar.I at Y ⊢;split at Y
   ·rename_i W;exact absurd Y W
   ·rename_i W;rw[Ae W]
  rw[hA];dsimp only
  generalize (A.I P).2.2=P1 at hS hL;have hj:∃d,A.j.ae P1=((A.j.ae P1).1,d)/\DI bd d puts Ad o/\(∀m,d.bs m=P1.bs m)/\(∀m,(∀c,P1.fl m=some c->BZ c)->∀c,d.fl m=some c->BZ c)/\(∀l f,ol=some l->Ev bd P1 puts Ad o A.j.Ac f (AG cl).length->Ev bd d puts Ad o A.j.Ac f (AG cl).length)/\
   ((A.j.ae P1).1=0->∀l,ol=some l->∀c,d.fl (Ah A.j.Ac)=some c->BZ c):=by
   cases ol with
   | none=>
    (have e:A.j.ae P1=(0,P1):=by unfold Jn.ae;rw[h.Bc.AE.1]);rw[e];exact⟨P1,rfl,hS.di,λ_=>rfl,λm L=>L,λl f e=>(by cases e),λ_ l e=>(by cases e)⟩
   | some l=>
    (have e:A.j.ae P1=P1.ae (Ab (Ah A.j.Ac)):=by unfold Jn.ae;rw[h.Bc.AE.1]);rw[e];exact⟨_,rfl,hS.di.cz _,λm=>Nq P1 _ m,λm L c E=>Np L E,λl f _ hO=>hO.cz _,λz l e c E=>Qf z c E⟩
  obtain⟨d,e2,d2,b2,k2,o2,m2⟩:=hj;have r2:=hS.bt.au b2;rw[e2];dsimp only
  by_cases W:(A.j.ae P1).1=0
  ·rw[Ae (nn W)];dsimp only
   have d3:=d2.en;have r3:=r2.au (Mk (II d));refine⟨⟨d3,r3⟩,λz=>?_⟩;obtain⟨s1,s2,s3,s4⟩:=Qi z;have hb:∀m,d.aF.2.bs m=P1.bs m:=λm=>(Mk (II d) m).trans (b2 m)
   have I:=hS.Bc.au hb;have X:∀m,(m=AK\/(∃x∈sg,m=AJ x.1)\/∃x∈cl,m=Ah x.1)->∀c,d.aF.2.fl m=some c->BZ c:=λm L c E=>by
    rw[II]at E;exact k2 m (λc E=>(hS.Gs m L c E).resolve_left (by simp)) c E
   have aB:=I.bp h.CK d3.E3 (λm c L E=>X m L c E) h.Eh.1 d3.Az;(have aA:Bz d.aF.2=[d.aF.2.D.A5]:=by rw[s1,s2]);obtain⟨nb,n1,n2,n3,n4⟩:=h.Hv;have O:∀l,ol=some l->∃f,Ev bd d.aF.2 puts puts.length o A.j.Ac f (AG cl).length:=λl e=>by
    obtain⟨f,hO⟩:=hS.AE l e;have aD:=o2 l f e hO;refine⟨f,by rw[s2];exact aD.1,λs hs=>?_⟩;rw[s1]at hs;simp at hs;subst hs;refine .inr ⟨aD.1,?_⟩;subst e;obtain⟨c,c1,c2⟩:=Iq I.AE.2.2.1;(have aE:BZ c:=by rw[II]at c1;exact m2 W l rfl c c1);(have hl:l=puts.drop nb:=by simpa using n3);(have ha:c.1=E6 (Ah A.j.Ac) ((AG cl).length:Int) l:=by rw[c2];dsimp only;rw[h.Bc.Gx]);(have hv:vw d.aF.2.F d.D.A5=d.aF.2.fl:=by rw[s3,II];rfl);rw[hv];refine⟨A.ix,sg,cl,l,nb,c,aB,n1,n2,c1,ha,rfl,?_,hl⟩;rw[A1z aE ha,hl,Cl];omega
   have hH:Holds bd d.aF.2.fl puts puts.length o:=by
    cases ol with
    | none=>
     have aF:nb=puts.length:=by
      (have:(puts.drop nb).length=0:=by rw[<-n3];rfl);rw[Cl]at this;omega
     exact Holds.bA aB (by rw[aF,Cc]at n2;exact n2) (Ao _)
    | some l=>
     obtain⟨f,hO⟩:=O l rfl;rcases hO.2 d.aF.2.D.A5 (by rw[aA];simp) with hno|⟨_,hw⟩
     ·exact absurd rfl (hno _ (E9 hO.1))
     ·exact hw.b7
   refine⟨⟨d3.Gl aA hH,I,⟨nb,n1,n2,n3,λe=>?_⟩,λm L c E=>.inr (X m L c E),O,h.CK,h.Eh⟩,rfl,s4⟩;subst e;(have:(puts.drop nb).length=0:=by rw[<-n3];rfl);rw[Cl]at this;omega
  ·rw[Ai W];exact⟨⟨d2,r2⟩,λz=>absurd z W⟩
 ·rw[Ai Y];exact⟨h.dI,λz=>absurd z Y⟩
end
section
variable {bd:Int×Int} {P P':PD} {V V':View} {A:Ar} {ix:Ix} {sg cl:List (Int×List Pu)} {lo:Option (Int×List Pu)} {ol:Option (List Pu)} {puts:List Pu} {Ad:Nat} {o:Int}
def SI.by(h:SI bd A P puts Ad o sg cl ol)(hL:CW bd P.fl A.ix sg cl (ol.map λl=>(A.j.Ac,l))):CX bd P.fl A.ix sg cl (ol.map λl=>(A.j.Ac,l)) puts Ad o:=by
 obtain⟨nb,n1,n2,n3,n4⟩:=h.Hv;refine⟨nb,hL,n1,n2,λn l e=>?_,λe=>?_⟩
 ·cases ol with
  | none=>cases e
  | some l0=>
   cases e;obtain⟨f,W⟩:=h.AE l rfl;rcases W.2 _ h.di.Cs with E|⟨_,ix',sg',cl',l',L,c,_,hnb,_,g1,g2,_,g4,g5⟩
   ·exact absurd rfl (E _ (E9 W.1))
   ·(have X:l=puts.drop nb:=by simpa using n3);obtain⟨c2,Y,e2⟩:=Iq h.Bc.AE.2.2.1;have I:c2=c:=by
     have z:P.fl (Ah A.j.Ac)=some c:=g1;rw[Y]at z;simpa using z
    subst I;have d:l.length=l'.length:=by
     have:=Eu List.length (e2.symm.trans g2);rw[J0,J0]at this;omega
    have O:nb=L:=by
     rw[X,g5,Cl,Cl]at d;omega
    refine⟨c2,Y,?_,by rw[X,Cc]⟩;(have:F4 c2 l=F4 c2 l':=by unfold F4;rw[d]);rw[this,O];exact g4
 ·cases ol with
  | none=>exact n4 rfl
  | some l=>cases e
def SI.eW(h:SI bd A P puts Ad o sg cl ol):C6 o (AG sg++AG cl++EM (ol.map λl=>(A.j.Ac,l))) puts:=by
 have:=h.CH;unfold Dl at this;cases ol<;>simpa[EM,List.append_assoc] using this
def CX.bA(h:CX bd V ix sg cl lo puts Ad o)(d:C6 o (AG sg++AG cl++EM lo) puts)(z:(AG cl).length<=1099511627776):Whole bd V puts o:=⟨ix,sg,cl,lo,h.bp,z,d⟩
def CX.segs{h:List (Int×List Pu)}(E:CW bd V ix h [] none)(z:C6 o (AG h) puts)(d:Ad<=puts.length):CX bd V ix h [] none puts Ad o:=
 ⟨puts.length,E,Ao _,by rw[Cc];simpa[AG] using z,λn l e=>(by cases e),λ_=>d⟩
def S9:∀(fresh:List (List Pu)) (last:Int) (kept:List Int) {P:PD},DI bd P puts Ad o->0<=last->last+fresh.length<=4611686018427387904->last+fresh.length<=bd.2->(PD.an fresh last kept P).1=0->
 (∀x∈CE last fresh,∀c,(PD.an fresh last kept P).2.2.2.fl (AJ x.1)=some c->BZ c)/\∀m,(∀x∈CE last fresh,m≠AJ x.1)->(PD.an fresh last kept P).2.2.2.fl m=P.fl m
 | [],last,kept,P,_,_,_,_,_=>⟨λx z=>(by cases z),λm _=>rfl⟩
 | l::r,last,kept,P,h,h0,h1,hb,hok=>by
  simp only[Cq]at h1 hb;have E:PD.an (l::r) last kept P=if (P.aH (last+1) l).1≠0 then ((P.aH (last+1) l).1,last+1,kept,(P.aH (last+1) l).2) else PD.an r (last+1) (kept++[last+1]) (P.aH (last+1) l).2:=rfl
  rw[E]at hok ⊢;by_cases L:(P.aH (last+1) l).1=0
  ·rw[Ae (nn L)]at hok ⊢;(have d:isNum (last+1)=true:=by unfold isNum;simp;omega);have hw:DI bd (P.aH (last+1) l).2 puts Ad o:=h.aG (.inr ⟨last+1,⟨d,by omega⟩,rfl⟩) _ _;obtain⟨i1,i2⟩:=S9 r (last+1) (kept++[last+1]) hw (by omega) (by omega) (by omega) hok;obtain⟨e1,e2⟩:=JM P (AJ (last+1)) (AI (AJ (last+1))) (Cf l);obtain⟨e3,e4⟩:=e2 L;have W:∀x∈CE (last+1) r,AJ (last+1)≠AJ x.1:=λx z e=>by
    have z:=GH z;have:=Kv d (by unfold isNum;simp;omega) e;omega
   have Y:=Extra.fl h e1;refine⟨λx z c O=>?_,λm hm=>?_⟩
   ·rcases BX.1 z with rfl|z
    ·rw[i2 _ W]at O;have:(P.aH (last+1) l).2.fl (AJ (last+1))=some ((P.aH (last+1) l).2.F P.D.AV):=by
      unfold PD.fl;have aA:lookup (P.aH (last+1) l).2.D.A5 (Ab (AJ (last+1)))=some P.D.AV:=e3;rw[aA];rfl
     rw[this]at O;cases O;exact e4
    ·exact i1 x z c O
   ·rw[i2 m λx z=>hm x (BW _ z)];have X:=hm _ (BQ ..);have I:(P.aH (last+1) l).2.fl=P.fl\/(P.fl (AJ (last+1))=none/\∀m,(P.aH (last+1) l).2.fl m=if m=AJ (last+1) then some ((P.aH (last+1) l).2.F P.D.AV) else P.fl m):=Y;rcases I with e|⟨_,e⟩
    ·rw[e]
    ·rw[e,Ae X]
  ·rw[Ai L]at hok;exact absurd hok L
def Vm{nm:Bs}{s:Nat}{l:Bs}(d:(P.aG nm s l).1=0):((P.aG nm s l).2.F P.D.AV).1=AS s l:=by
 unfold PD.aG at d ⊢;obtain⟨c1,c2⟩:=KM P nm;by_cases I:(P.ao (Ab nm)).1=0
 ·rw[Ae (nn I)]at d ⊢;have O:=c2 I;by_cases E:((P.ao (Ab nm)).2.af (Ab nm) s l).2.1=0
  ·rw[Ae (nn E)];(have W:(P.ao (Ab nm)).2.F P.D.AV=([],0):=by unfold PD.ao;simp[upd]);have X:=U5 (AS s l) O E;(have L:lookup ((P.ao (Ab nm)).2.aq (Ab nm) (AS s l)).2.D.A5 (Ab nm)=some P.D.AV:=by rw[(Iu (AS s l) O).1];exact O);have z:((P.ao (Ab nm)).2.af (Ab nm) s l).2.2=((P.ao (Ab nm)).2.aq (Ab nm) (AS s l)).2:=rfl;rw[z];obtain⟨_,_,_,h⟩:=IH L;rcases h with h|h
   ·rw[h,X];simp[upd,W]
   ·rw[h,X];simp[upd,W]
  ·rw[Ai E]at d;exact absurd d E
 ·rw[Ai I]at d;exact absurd d I
def DI.cT(h:DI bd P puts Ad o)(hT:CX bd P.fl ix sg cl lo puts Ad o)(hW:C6 o (AG sg++AG cl++EM lo) puts)(aD:(AG cl).length<=1099511627776){d:Int}{z:List (Int×List Pu)}(X:HH bd ⟨d,z.map (·.1)⟩ z)(aE:∀x∈z,((∀p∈x.2,Bq p)/\Cr Ck x.2=true)/\∃c,P.fl (AJ x.1)=some c/\BZ c/\c.1=AS (AI (AJ x.1)) (Cf x.2))(aA:∀n,isNum n=true->d<=n->P.fl (Ah n)=none)(hs:C6 o (AG z) puts)(W:Ad<=puts.length):
 DI bd (P.ak d (z.map (·.1))).2 puts Ad o/\Reads bd (P.ak d (z.map (·.1))).2 puts o/\((P.ak d (z.map (·.1))).1=0->CX bd (P.ak d (z.map (·.1))).2.fl ⟨d,z.map (·.1)⟩ z [] none puts Ad o):=by
 obtain⟨e1,e2⟩:=JM P Bv (AI AK) (Cj d (z.map (·.1)));have d1:DI bd (P.aG Bv (AI AK) (Cj d (z.map (·.1)))).2 puts Ad o:=h.aG (.inl rfl) _ _;have t1:=hT.ed h e1 (.inl rfl);have aB:=Extra.fl h e1;unfold PD.ak;by_cases h1:(P.aG Bv (AI AK) (Cj d (z.map (·.1)))).1=0
 ·rw[Ae (nn h1)];obtain⟨e3,e4⟩:=e2 h1;have L:=Vm h1;obtain⟨E,Y⟩:∃E,(P.aG Bv (AI AK) (Cj d (z.map (·.1)))).2=E:=⟨_,rfl⟩;rw[Y]at L;rw[Y]at d1 t1 e3 e4 aB ⊢;have hV:CW bd (λm=>if m=AK then some (E.F P.D.AV) else if m=Bv then none else E.fl m) ⟨d,z.map (·.1)⟩ z [] none:=by
   have I:∀m,m≠Bv->E.fl m=P.fl m:=λm hm=>by
    rcases aB with e|⟨_,e⟩
    ·rw[e]
    ·rw[e,Ae hm]
   refine CW.fA (V:=E.fl) X ⟨e4,L⟩ (λx hx=>?_) (λn k1 k2=>?_) t1.bp.El t1.bp.E3 λ_=>rfl
   ·rw[I _ (LF _)];exact aE x hx
   ·rw[I _ (KE _)];exact aA n k1 k2
  have hB:=CX.segs (Ad:=Ad) hV hs W;have d2:=d1.e1 e3 hB.b7;obtain⟨a1,a2,a3⟩:=QY (nw:=AK) d1.bl e3;have aF:=(t1.bA hW aD).bt;rcases a3 with⟨b1,b2,b3⟩|⟨b1,b2⟩
  ·refine⟨d2,aF.au (Mk (by unfold PD.fl;rw[b1,a1])),λO=>absurd O b3⟩
  ·have hf:(E.aN (Ab Bv) (Ab AK)).2.fl=λm=>if m=AK then some (E.F P.D.AV) else if m=Bv then none else E.fl m:=by
    funext m
    (have:(E.aN (Ab Bv) (Ab AK)).2.fl m=vw E.F ((E.D.A5.filter λe=>decide (e.1≠Ab Bv/\e.1≠Ab AK))++[(Ab AK,P.D.AV)]) m:=by unfold PD.fl vw;rw[b1,a1]);rw[this,PZ J3.symm];rfl
   rw[<-hf]at hB;exact⟨d2,(hB.bA (by simpa[AG,EM] using hs) (by simp[AG])).bt,λ_=>hB⟩
 ·rw[Ai h1];exact⟨d1,(t1.bA hW aD).bt,λO=>absurd O h1⟩
end
section
variable {bd:Int×Int} {P P':PD} {A:Ar} {ix:Ix} {sg cl:List (Int×List Pu)} {lo:Option (Int×List Pu)} {ol:Option (List Pu)} {puts:List Pu} {Ad:Nat} {o:Int}
def Y6(h:GZ P)(x m:Bs):(P.az (Ab x)).2.fl m=none\/(P.az (Ab x)).2.fl m=P.fl m:=by
 obtain⟨d,_,z⟩:=R8 h (Ab x);rcases z with⟨d1,_,_⟩|⟨d1,_⟩
 ·exact .inr (by unfold PD.fl;rw[d1,d])
 ·have:(P.az (Ab x)).2.fl m=vw P.F (P.D.A5.filter λe=>decide (e.1≠Ab x)) m:=by unfold PD.fl vw;rw[d1,d]
  rw[this,Q1];by_cases e:m=x
  ·exact .inl (by rw[Ai e])
  ·exact .inr (by rw[Ae e];rfl)
def R9:∀(l:List Bs) {P:PD},DI bd P puts Ad o->CX bd P.fl ix sg cl lo puts Ad o->(∀m∈l,¬K6 ix sg m)->∀m,(PD.aL l P).2.fl m=none\/(PD.aL l P).2.fl m=P.fl m
 | [],P,_,_,_,m=>.inr rfl
 | x::r,P,h,hT,hm,m=>by
  obtain⟨I,E⟩:=h.ee hT (hm x (BQ ..));have d:=Y6 h.bl x m;unfold PD.aL;split
  ·exact d
  ·rcases R9 r I E (λy z=>hm y (BW _ z)) m with e|e
   ·exact .inl e
   ·rw[e];exact d
def YN(O:CX bd P.fl A.ix sg cl lo puts Ad o)(E:A.j.Av=cl.map (·.1)++(lo.map (·.1)).toList)(d:sg.map (·.1)=A.ix.segs):∀m∈A.aS P,¬K6 A.ix sg m:=λm h X=>by
 obtain⟨W,L⟩:=IQ.1 h;refine L ?_;unfold Ar.Az;rcases X with rfl|⟨x,Y,rfl⟩|⟨n,hn,z,rfl⟩
 ·simp
 ·refine Hh _ (Ed ?_);rw[<-d];exact Ed Y
 ·refine FJ _ (BW _ (Ed ?_));rw[E];refine O.bp.CH n hn z λI=>W ?_;unfold PD.bs;rw[I];rfl
def SI.aJ(h:SI bd A P puts Ad o sg cl ol)(I:List (Int×List Pu))(fresh:List (List Pu))(aG:∀x∈I,x∈sg)(aD:(I.map (·.1)).Pairwise (· < ·))(hf:∀l∈fresh,(∀p∈l,Bq p)/\Cr Ck l=true)(hn:isNum (A.j.Ac+1)=true)(aB:A.Ac+fresh.length<=4611686018427387904)(a4:∀l∈fresh,l≠[])(aM:A.Ac+fresh.length<=bd.2)(hs:C6 o (AG (I++CE A.Ac fresh)) puts)(hbig:A.AR.length+P.Az.length+Df fresh+fresh.length+A.j.Av.length+sg.length+I.length<=1099511627776):
 (DI bd (A.aJ P (I.map (·.1)) fresh).2.2 puts Ad o/\Reads bd (A.aJ P (I.map (·.1)) fresh).2.2 puts o)/\
  ((A.aJ P (I.map (·.1)) fresh).1=0->SI bd (A.aJ P (I.map (·.1)) fresh).2.1 (A.aJ P (I.map (·.1)) fresh).2.2 puts puts.length o (I++CE A.Ac fresh) [] none/\
    (A.aJ P (I.map (·.1)) fresh).2.1=⟨⟨A.j.Ac+1,(I++CE A.Ac fresh).map (·.1)⟩,⟨[],A.j.Ac,0,none⟩,A.Ac+fresh.length,[]⟩/\
    (∀m,(A.aJ P (I.map (·.1)) fresh).2.2.bs m≠none->m∈AK::(I++CE A.Ac fresh).map λx=>AJ x.1)/\(A.aJ P (I.map (·.1)) fresh).2.2.D.Aq=[]):=by
 have a2:P.aP.dl=P.Az.length:=by rw[J6];rfl
 have X:(A.aJ P (I.map (·.1)) fresh).1=0->(A.aJ P (I.map (·.1)) fresh).2.1=⟨⟨A.j.Ac+1,(I++CE A.Ac fresh).map (·.1)⟩,⟨[],A.j.Ac,0,none⟩,A.Ac+fresh.length,[]⟩/\
  Lay (A.aJ P (I.map (·.1)) fresh).2.2 (A.aJ P (I.map (·.1)) fresh).2.1 (I++CE A.Ac fresh) [] none/\∀m,(A.aJ P (I.map (·.1)) fresh).2.2.bs m≠none->m∈AK::(I++CE A.Ac fresh).map λx=>AJ x.1:=λz=>by
  obtain⟨r1,r2,r3,r4⟩:=(AM.aP P).aJ (A:=A) (N:=0) (R:=0) (I.map (·.1)) fresh (h.di.bl.aP.ad (by rw[a2];omega) (by simp;omega)) z;obtain⟨q1,q2,q3,q4,q5⟩:=(h.Bc.au (P':=P.aP) λm=>((AM.aP P).bs m).symm).aJ (N:=0) (R:=0) (K:=P.Az.length) I fresh (h.di.bl.aP.ad (by omega) (by omega)) (by rw[J6,a2];exact Ao _) aG aD hf hn aB;refine⟨by rw[r2,q2],by rw[r2];exact q4.au λm=>r3.bs m,λm hm=>q5 m (by rw[<-r3.bs];exact hm)⟩
 obtain⟨W,aH⟩:∃W,I++CE A.Ac fresh=W:=⟨_,rfl⟩;have aO:W.map (·.1)=I.map (·.1)++(CE A.Ac fresh).map (·.1):=by rw[<-aH,EV]
 have aN:∀x∈W,x.2≠[]:=λx E=>by
  rw[<-aH]at E;rcases AY.1 E with E|E
  ·exact h.Eh.1.2.2 x (aG x E)
  ·exact a4 _ (GH E).2.2
 rw[aH]at hs X ⊢;have key:∃t:Int×Ar×PD,A.aJ P (I.map (·.1)) fresh=t/\(DI bd t.2.2 puts Ad o/\Reads bd t.2.2 puts o)/\(t.1=0->t.2.2.D.Aq=[]/\Bz t.2.2=[t.2.2.D.A5]/\∃a3 O,CX bd t.2.2.fl a3 O [] none puts Ad o/\O.map (·.1)=W.map (·.1)/\C6 o (AG O) puts):=by
  unfold Ar.aJ;dsimp only
  by_cases h1:(A.I P).1=0
  ·rw[Ae (nn h1)];obtain⟨hS,hL⟩:=h.de h1;have hA:(A.I P).2.1 = {A with AR:=[]}:=by
    unfold Ar.I at h1 ⊢;split at h1
    ·rename_i h2;exact absurd h1 h2
    ·rename_i h2;rw[Ae h2]
   have aE:=Nv A P;rw[hA];generalize (A.I P).2.2=P1 at hS hL aE;(have aW:=hS.by hL);have hall:=h.eW;have hj:({A with AR:=[]}:Ar).j.Av=cl.map (·.1)++(Option.map (·.1) (ol.map λl=>(A.j.Ac,l))).toList:=by
    dsimp only
    rw[h.Bc.bS];cases ol<;>simp[shut]
   have a5:=YN (A:={A with AR:=[]}) aW hj h.Bc.segs;obtain⟨d2,t2⟩:=hS.di.ax (A:={A with AR:=[]}) aW hj h.Bc.segs;have aA:∀m,(({A with AR:=[]}:Ar).ax P1).2.fl m=none\/(({A with AR:=[]}:Ar).ax P1).2.fl m=P1.fl m:=R9 _ hS.di aW a5;generalize hP2:({A with AR:=[]}:Ar).ax P1=SW at d2 t2 aA ⊢;obtain⟨c2,a1⟩:=SW;dsimp only at d2 t2 aA ⊢;have r2:Reads bd a1 puts o:=(t2.bA hall h.CK).bt;by_cases h2:c2=0
   ·rw[Ae (nn h2)];have h0:=h.Bc.Ey.1;have d3:=DI.an fresh A.Ac (I.map (·.1)) d2 h0 aB aM;have t3:=CX.an fresh A.Ac (I.map (·.1)) d2 t2 h0 aB aM;have Y:=S9 fresh A.Ac (I.map (·.1)) d2 h0 aB aM;have aQ:∀n,isNum n=true->A.Ac<n->a1.bs (AJ n)=none:=λn k1 k2=>by
     rcases aA (AJ n) with e|e
     ·unfold PD.bs;rw[e];rfl
     ·(have:a1.bs (AJ n)=P.bs (AJ n):=by unfold PD.bs;rw[e];have:=aE (AJ n);unfold PD.bs at this;exact this);rw[this];cases E:P.bs (AJ n) with
      | none=>rfl
      | some c=>have:=h.Bc.Ey.2 n k1 (by rw[E];simp);omega
    have aF:=λz=>AM.an (N:=0) (R:=0) fresh A.Ac (I.map (·.1)) (AM.aP a1) (d2.bl.aP.ad (by omega) (by omega)) z;obtain⟨w1,w2,w3,w4,w5,w6⟩:=Cm.an (N:=0) (R:=0) fresh A.Ac (I.map (·.1)) (d2.bl.aP.ad (by omega) (by omega)) h0 aB (λn k1 k2=>by rw[<- (AM.aP a1).bs];exact aQ n k1 k2);generalize hP3:PD.an fresh A.Ac (I.map (·.1)) a1=NS at d3 t3 Y aF ⊢;obtain⟨c3,aP,aT,a0⟩:=NS;dsimp only at d3 t3 Y aF ⊢;have r3:=(t3.bA hall h.CK).bt;by_cases h3:c3=0
    ·rw[Ae (nn h3)];obtain⟨x1,x2,x3,x4,_⟩:=aF h3;obtain⟨y1,y2⟩:=Y h3;(have aI:aP=A.Ac+fresh.length:=by rw[x2,w2]);(have aJ:aT=W.map (·.1):=by rw[x3,w3,aO]);rw[aI,aJ];have aX:∀x∈W,isNum x.1=true:=λx E=>by
      rw[<-aH]at E;rcases AY.1 E with E|E
      ·exact h.Bc.cU (aG x E)
      ·have:=GH E;unfold isNum;simp;omega
     have aK:(W.map (·.1)).Pairwise (· < ·):=by
      rw[aO];refine Ew.2 ⟨aD,O3,λa ha b hb=>?_⟩;obtain⟨x,E,rfl⟩:=CD.1 ha;obtain⟨y,hy,rfl⟩:=CD.1 hb;have k1:=h.Bc.cZ (aG x E);have k2:=GH hy;omega
     have aV:HH bd ⟨A.j.Ac+1,W.map (·.1)⟩ W:=⟨⟨hn,λn hm=>by obtain⟨x,E,rfl⟩:=CD.1 hm;exact aX x E,Kl.2 aK⟩,by have:=h.Eh.2.1;dsimp only;omega,aN⟩;have aR:∀x∈W,((∀p∈x.2,Bq p)/\Cr Ck x.2=true)/\∃c,a0.fl (AJ x.1)=some c/\BZ c/\c.1=AS (AI (AJ x.1)) (Cf x.2):=λx E=>by
      rw[<-aH]at E;rcases AY.1 E with E|E
      ·exact t3.bp.Cy x (aG x E)
      ·refine⟨hf _ (GH E).2.2,?_⟩;(have hb:a0.bs (AJ x.1)=some (AS (AI (AJ x.1)) (Cf x.2)):=by rw[x4.bs];exact w5 x E);obtain⟨c,k1,k2⟩:=Iq hb;exact⟨c,k1,y1 x E c k1,k2⟩
     have aU:∀n,isNum n=true->A.j.Ac+1<=n->a0.fl (Ah n)=none:=λn k1 k2=>by
      rw[y2 _ λx _=>G8 n x.1];rcases aA (Ah n) with e|e
      ·exact e
      ·rw[e];refine Is.1 ?_;rw[aE];cases E:P.bs (Ah n) with
       | none=>rfl
       | some c=>have:=h.Bc.EN.2.2 n k1 (by rw[E];simp);omega
     have aS:∃aZ,∃c4,∃aL:Ar,(({A with AR:=[],Ac:=A.Ac+fresh.length}:Ar).ak a0 (W.map (·.1)))=(c4,aL,aZ)/\DI bd aZ puts Ad o/\Reads bd aZ puts o/\(c4=0->aL.j.Av=[]/\∃O,CX bd aZ.fl aL.ix O [] none puts Ad o/\O.map (·.1)=aL.ix.segs/\aL.ix.segs=W.map (·.1)/\C6 o (AG O) puts):=by
      unfold Ar.ak;dsimp only
      by_cases L:A.ix.B9=A.j.Ac+1/\A.ix.segs=W.map (·.1)
      ·rw[Ai L];have aY:cl=[]:=by
        cases aY:cl with
        | nil=>rfl
        | cons x r=>
         (have E:x∈cl:=by rw[aY];exact BQ ..);have k1:=h.Bc.ER.1 x E;have k2:=(h.Bc.CO x E).1.2;have:=L.1;omega
       have a6:ol=none:=by
        cases ol with
        | none=>rfl
        | some l=>have:=h.Bc.ER.2 (by simp);have:=L.1;omega
       subst aY a6;refine⟨a0,0,_,rfl,d3,r3,λ_=>⟨?_,sg,t3,h.Bc.segs,L.2,?_⟩⟩
       ·have:=h.Bc.AE.2;simpa using this
       ·simpa[AG,EM] using hall
      ·rw[Ae L];obtain⟨u1,u2,u3⟩:=d3.cT t3 hall h.CK aV aR aU hs h.dG;by_cases h4:(a0.ak (A.j.Ac+1) (W.map (·.1))).1=0
       ·rw[Ae (nn h4)];exact⟨_,_,_,rfl,u1,u2,λ_=>⟨rfl,W,u3 h4,rfl,rfl,hs⟩⟩
       ·rw[Ai h4];exact⟨_,_,_,rfl,u1,u2,λz=>absurd z h4⟩
     obtain⟨aZ,c4,aL,e4,d4,r4,k4⟩:=aS;rw[e4];dsimp only
     by_cases h4:c4=0
     ·rw[Ae (nn h4)];obtain⟨j1,O,j2,j3,j4,j5⟩:=k4 h4;obtain⟨d5,t5⟩:=d4.ax (A:=aL) j2 (by rw[j1];rfl) j3;unfold Ar.a6;generalize hP5:aL.ax aZ=S5 at d5 t5 ⊢;obtain⟨c5,a7⟩:=S5;dsimp only at d5 t5 ⊢;have r5:=(t5.bA (by simpa[AG,EM] using j5) (by simp[AG])).bt;by_cases h5:c5=0
      ·rw[Ae (nn h5)];refine⟨_,rfl,⟨d5.en,r5.au (Mk (II a7))⟩,λz=>?_⟩;obtain⟨s1,s2,s3,s4⟩:=Qi z;refine⟨s4,by dsimp only;rw[s1,s2],aL.ix,O,?_,by rw[j3,j4],j5⟩;dsimp only
       rw[II];exact t5
      ·rw[Ai h5];exact⟨_,rfl,⟨d5,r5⟩,λz=>absurd z h5⟩
     ·rw[Ai h4];exact⟨_,rfl,⟨d4,r4⟩,λz=>absurd z h4⟩
    ·rw[Ai h3];exact⟨_,rfl,⟨d3,r3⟩,λz=>absurd z h3⟩
   ·rw[Ai h2];exact⟨_,rfl,⟨d2,r2⟩,λz=>absurd z h2⟩
  ·rw[Ai h1];exact⟨_,rfl,h.dI,λz=>absurd z h1⟩
 obtain⟨t,ht,k1,k2⟩:=key;rw[ht]at X ⊢;refine⟨k1,λz=>?_⟩;obtain⟨g1,g2,g3⟩:=X z;obtain⟨m1,m2,a3,O,m3,m4,m5⟩:=k2 z;refine⟨⟨k1.1.Gl m2 (Holds.bA m3.bp (by simpa[AG] using m5) (Ao _)),g2,⟨puts.length,Ao _,by rw[Cc];simpa[AG] using hs,by simp,λ_=>Ao _⟩,λm hm c hc=>.inr ?_,λl e=>(by cases e),by simp[AG],⟨g2.Ea,by rw[g1];have:=h.Eh.2.1;dsimp only;omega,aN⟩,by rw[g1];exact h.Eh.2.1,by rw[g1];exact aM⟩,g1,g3,m1⟩;rcases hm with rfl|⟨x,E,rfl⟩|⟨x,E,_⟩
 ·rcases m3.bp.Io with⟨q1,_⟩|⟨d,q1,q2,_⟩
  ·rw[q1]at hc;cases hc
  ·rw[q1]at hc;cases hc;exact q2
 ·have:x.1∈O.map (·.1):=by rw[m4];exact Ed E
  obtain⟨y,hy,e⟩:=CD.1 this;obtain⟨_,d,q1,q2,_⟩:=m3.bp.Cy y hy;rw[e]at q1;rw[q1]at hc;cases hc;exact q2
 ·cases E
end
section
variable {bd:Int×Int} {P P':PD} {A:Ar} {ix:Ix} {sg cl:List (Int×List Pu)} {lo:Option (Int×List Pu)} {ol:Option (List Pu)} {puts:List Pu} {Ad:Nat} {o:Int} {aA:Int}
def SI.aO(h:SI bd A P puts Ad o sg cl ol)(hw:Ca (AH aA))(hn:isNum (A.j.Ac+1)=true){n:Nat}(hcount:(Dl sg cl ol).length<=n)(hn2:n<=1073741824)(hln:A.Ac+n<=4611686018427387904)(hlb:A.Ac+n<=bd.2)(hbig:A.AR.length+P.Az.length+A.j.Av.length+2*sg.length<=1073741824):
 (DI bd (A.aO P aA).2.2 puts Ad o/\Reads bd (A.aO P aA).2.2 puts o)/\
  ((A.aO P aA).1=0->∃z,SI bd (A.aO P aA).2.1 (A.aO P aA).2.2 puts puts.length o z [] none/\(A.aO P aA).2.1=⟨⟨A.j.Ac+1,z.map (·.1)⟩,⟨[],A.j.Ac,0,none⟩,(A.aO P aA).2.1.Ac,[]⟩/\(A.aO P aA).2.1.Ac<=A.Ac+n/\(AG z).length<=n/\z.length<=sg.length+n/\
    (∀m,(A.aO P aA).2.2.bs m≠none->m∈AK::z.map λx=>AJ x.1)/\(A.aO P aA).2.2.D.Aq=[]):=by
 have W:(Dl sg cl ol).length=(AG sg).length+(AG cl++ol.getD []).length:=by unfold Dl;rw[Ba]
 have E:=h.Bc.puts h.CK;have d:=Mh hw (AG cl++ol.getD []);generalize O:EO aA (AG cl++ol.getD [])=fresh at d;have hfl:=KL d.ne;have hfl2:=d.Bo;have hcost:=Nw fresh;have e:A.aO P aA=A.aJ P (sg.map (·.1)) fresh:=by
  unfold Ar.aO;rw[E,Ae (by simp),O,h.Bc.segs]
 have I:AG (sg++CE A.Ac fresh)=AG sg++fresh.flatten:=by
  have:=@O4 fresh A.Ac;unfold AG at this ⊢;rw[A3S,this]
 have L:C6 o (AG (sg++CE A.Ac fresh)) puts:=by
  rw[I];refine C6.Au (C6.fZ (λk t _=>?_) (λp E=>?_) ?_) h.CH
  ·unfold Dl;rw[Il,Il,d.Ac]
  ·rcases AY.1 E with E|E
   ·exact FJ _ E
   ·exact Hh _ (d.E4 p E)
  ·rw[W,Ba];omega
 obtain⟨r1,r2⟩:=h.aJ sg fresh (λ_ h=>h) (Kl.1 (by rw[h.Bc.segs];exact h.Bc.Ea.G3)) (λl Y=>⟨λp E=>h.Bc.cw p (d.E4 p (UG.2 ⟨l,Y,E⟩)),d.G3 Y⟩) hn (by omega) d.ne (by omega) L (by omega);rw[e];refine⟨r1,λX=>?_⟩;obtain⟨q1,q2,q3,q4⟩:=r2 X;refine⟨_,q1,by rw[q2],by rw[q2];dsimp only;omega,by rw[I,Ba];omega,by rw[Ba,M1];omega,q3,q4⟩
def Zc{l:List Pu}(h:Ar.aQ P=.ok (A,l)):A.j.Ac=(BO A.ix.B9 P.Az).getLastD (A.ix.B9-1)/\A.Ac=(P.Az.filterMap λnm=>if (Bn nm).1=2 then some (Bn nm).2 else none).getLastD 0/\A.j.AE=none:=by
 unfold Ar.aQ at h;split at h
 ·cases h
 ·split at h
  ·cases h
  ·split at h
   ·cases h
   ·split at h
    ·cases h
    ·cases h;exact⟨rfl,rfl,rfl⟩
def Th{l:List Int}{d b:Int}(h:∀x∈l,x<=b)(z:d<=b):l.getLastD d<=b:=by
 rcases Lj l with rfl|⟨r,x,rfl⟩
 ·exact z
 ·have e:(r.concat x).getLastD d=x:=by rw[K2];simp
  rw[e];exact h x (by simp)
def DI.e3(h:DI bd P puts Ad o)(W:0<=bd.2){l:List Pu}(I:Ar.aQ P=.ok (A,l))(hx:A.ix.B9<=bd.1+1):A.j.Ac<=bd.1/\A.Ac<=bd.2:=by
 obtain⟨O,L,_⟩:=Zc I;have E:∀nm∈P.Az,Fq bd nm:=λnm z=>h.Az nm λe=>H6.1 z (Is.2 e);rw[O,L];refine⟨Th (λx z=>?_) (by omega),Th (λx z=>?_) W⟩
 ·unfold BO at z;obtain⟨nm,d,e⟩:=Le.1 z;split at e
  ·rename_i q;cases e;exact(E nm d).2.1 q.1
  ·cases e
 ·obtain⟨nm,d,e⟩:=Le.1 z;split at e
  ·rename_i q;cases e;exact(E nm d).2.2 q
  ·cases e
def AM.aQ{P Q:PD}(h:AM P Q):Ar.aQ P=Ar.aQ Q:=by
 unfold Ar.aQ PD.aZ PD.bR Ar.aU;simp only[h.aV,h.Az,h.segs,h.puts]
def SI.aQ(O:DI bd P puts Ad o)(h0:0<=bd.2)(hr:Reads bd P puts o)(E:Ad<=puts.length)(hpl:puts.length<=1099511627776):
 ∃A' sg cl,Ar.aQ P=.ok (A',Dl sg cl none)/\SI bd A' P puts Ad o sg cl none/\C6 o (Dl sg cl none) puts/\A'.AR=A'.aU P:=by
 obtain⟨A,sg,cl,ol,hL,hs,I⟩:=hr;have h:=hs.2.2;unfold Dl at h;rw[Ba,Ba]at h;have X:(AG cl).length+(ol.getD []).length<=1099511627776:=by omega
 have aB:=hL.au λm=>((AM.aP P).bs m).symm
 obtain⟨A',h1,h2,h3,h4,h5,h6⟩:=aB.aQ O.bl.aP (by omega);have d:=(AM.aP P).aQ;have hc:A'.aU P.aP=A'.aU P:=rfl;have z:=h2.au λm=>(AM.aP P).bs m
 have hall:Dl sg (shut cl A.j.Ac ol) none=Dl sg cl ol:=by unfold Dl;rw[Nt];simp
 have L:C6 o (Dl sg (shut cl A.j.Ac ol) none) puts:=by rw[hall];exact hs
 refine⟨A',sg,_,by rw[d,hall];exact h1,⟨O,z,⟨puts.length,Ao _,by rw[Cc];simpa[Dl] using L,by simp,λ_=>E⟩,λm hm c W=>.inl ?_,λl e=>(by cases e),by rw[Nt,Ba];exact X,by rw[h3];exact I,O.e3 h0 (by rw[d];exact h1) (by rw[h3];exact I.2.1)⟩,L,by rw[h6,hc]⟩;rw[h6,hc];unfold Ar.aU;refine Hg.2 ⟨H6.2 (by rw[P8 W];simp),?_⟩;simp only[DO];unfold Ar.Az;rcases hm with rfl|⟨x,Y,rfl⟩|⟨x,Y,rfl⟩
 ·simp
 ·refine Hh _ (Ed ?_);rw[<-z.segs];exact Ed Y
 ·refine FJ _ (BW _ (Ed ?_));rw[z.AE.2];exact Ed Y
end
def DK(a b:Int):Prop:=a=5\/a=6\/a=b
section
variable {P Q:PD} {N R:Nat} {A:Ar} {J:Jn}
def RR{nm:ByteArray}(h:AM P Q)(z:Cm Q (N+1) R):DK (P.ao nm).1 (Q.ao nm).1:=by
 have:=Hc P.D.n;unfold PD.ao CM;rw[h.A5];by_cases d:nm=ByteArray.empty\/B6 Q.D.A5 nm≥0
 ·rw[Ai d,Ai d];exact .inr (.inr rfl)
 ·rw[Ae d,Ae d];dsimp only
  rw[z.bg];rcases this with e|e
  ·exact .inr (.inr e)
  ·exact .inl e
def NW{nm:ByteArray}(h:AM P Q)(d:Cm Q (N+1) R):DK (P.ae nm).1 (Q.ae nm).1:=by
 have:=Hc P.D.n;unfold PD.ae Cz;rw[h.A5];cases lookup Q.D.A5 nm with
 | none=>exact .inr (.inr rfl)
 | some f=>
  dsimp only
  rw[d.bg];rcases this with e|e
  ·exact .inr (.inr e)
  ·exact .inl e
def RK(d:Cm Q (N+1) R):DK P.aF.1 Q.aF.1:=by
 have:=Hc P.D.n;unfold PD.aF DW;dsimp only
 rw[d.bg];rcases this with e|e
 ·exact .inr (.inr e)
 ·exact .inl e
def YS{nm:ByteArray}(h:AM P Q)(z:Cm Q (N+1) R):DK (P.az nm).1 (Q.az nm).1:=by
 have:=Hc P.D.n;unfold PD.az Ds;rw[h.A5];by_cases d:B6 Q.D.A5 nm<0
 ·rw[Ai d,Ai d];exact .inr (.inr rfl)
 ·rw[Ae d,Ae d];dsimp only
  rw[z.bg];rcases this with e|e
  ·exact .inr (.inr e)
  ·exact .inl e
def YR{old nm:ByteArray}(h:AM P Q)(z:Cm Q (N+1) R):DK (P.aN old nm).1 (Q.aN old nm).1:=by
 have:=Hc P.D.n;unfold PD.aN D3;rw[h.A5];cases lookup Q.D.A5 old with
 | none=>exact .inr (.inr rfl)
 | some f=>
  dsimp only
  by_cases d:nm=ByteArray.empty
  ·rw[Ai d,Ai d];exact .inr (.inr rfl)
  ·rw[Ae d,Ae d];dsimp only
   rw[z.bg];rcases this with e|e
   ·exact .inr (.inr e)
   ·exact .inl e
def or_append{nm:ByteArray}{l:Bs}(h:AM P Q)(X:Cm Q (N+1) R)(O:l.length<=R):DK (P.aq nm l).1 (Q.aq nm l).1:=by
 by_cases d:(P.aq nm l).1=0
 ·exact .inr (.inr (by rw[d,(h.aq X O d).1]))
 ·have L:=Hc P.D.n;have z:∀D F f x n0,∀e:Int,e=0\/e=5->(BK D F f x n0 e).1=5\/(BK D F f x n0 e).1=6\/(BK D F f x n0 e).1=0:=λD F f x n0 e W=>by
   unfold BK;rcases W with rfl|rfl
   ·split
    ·exact .inr (.inl rfl)
    ·exact .inr (.inr rfl)
   ·split
    ·exact .inl rfl
    ·exact .inl rfl
  unfold PD.aq Bx at d ⊢;rw[h.A5]at d ⊢;cases hx:lookup Q.D.A5 nm with
  | none=>exact .inr (.inr rfl)
  | some f=>
   rw[hx]at d;dsimp only at d ⊢;split at d
   ·rename_i I;rw[Ai I];rcases z {A5:=Q.D.A5,AF:=P.D.AF,Aq:=P.D.Aq,n:=(bg P.D.n).2.2} P.F f (Ab l) (Ab l).size _ L with e|e|e
    ·exact .inl e
    ·exact .inr (.inl e)
    ·exact absurd e d
   ·rename_i I;rw[Ae I];split at d
    ·rename_i E;rw[Ai E];rcases z {A5:=Q.D.A5,AF:=P.D.AF,Aq:=P.D.Aq,n:=(bg P.D.n).2.2} P.F f (Ab l) ((bg P.D.n).2.2.BC % (Ab l).size) _ L with e|e|e
     ·exact .inl e
     ·exact .inr (.inl e)
     ·exact absurd e d
    ·rename_i E;rw[Ae E];rcases L with e|e
     ·exact absurd e d
     ·exact .inl e
def NY{nm:Bs}{s:Nat}{l:Bs}(h:AM P Q)(z:Cm Q (N+1) R)(d:l.length+4<=R):DK (P.af (Ab nm) s l).2.1 (Q.af (Ab nm) s l).2.1:=or_append (l:=AS s l) h z (by rw[EX];exact d)
def DK.bj{a b:Int}(h:DK a b)(ha:¬a=0){c:Int}(d:b≠0->c=b):DK a c:=by
 rcases h with e|e|e
 ·exact .inl e
 ·exact .inr (.inl e)
 ·exact .inr (.inr (by rw[d (by omega)];exact e))
def RJ{nm:Bs}{s:Nat}{l:Bs}(h:AM P Q)(W:Cm Q (N+3) R)(I:l.length+4<=R):DK (P.aG nm s l).1 (Q.aG nm s l).1:=by
 unfold PD.aG;by_cases z:(P.ao (Ab nm)).1=0
 ·obtain⟨Y,L,O⟩:=h.ao (N:=N+2) W z;rw[Ae (nn z),Ae (nn Y)];by_cases d:((P.ao (Ab nm)).2.af (Ab nm) s l).2.1=0
  ·obtain⟨-,X,b2,b3⟩:=L.bV (N:=N+1) (nm:=nm) (s:=s) (l:=l) O I d;rw[Ae (nn d),Ae (nn X)];exact NW b2 b3
  ·rw[Ai d];refine(NY (N:=N+1) L O I).bj d λE=>?_;rw[Ai E]
 ·rw[Ai z];refine(RR (N:=N+2) h W).bj z λE=>?_;rw[Ai E]
def RL:∀(l:List Bs) {P Q:PD},AM P Q->Cm Q (N+l.length) R->DK (PD.aw l P).1 (PD.aw l Q).1
 | [],_,_,_,_=>.inr (.inr rfl)
 | nm::r,P,Q,h,hc=>by
  have d:Cm Q (N+r.length+1) R:=hc.ad (by simp;omega) (Ao _);unfold PD.aw;by_cases z:(P.ae (Ab nm)).1=0
  ·obtain⟨I,L,O⟩:=h.ae d z;rw[Ae (nn z),Ae (nn I)];exact RL r L O
  ·rw[Ai z];refine(NW h d).bj z λE=>?_;rw[Ai E]
def RN:∀(l:List Bs) {P Q:PD},AM P Q->Cm Q (N+l.length) R->DK (PD.aL l P).1 (PD.aL l Q).1
 | [],_,_,_,_=>.inr (.inr rfl)
 | nm::r,P,Q,h,hc=>by
  have d:Cm Q (N+r.length+1) R:=hc.ad (by simp;omega) (Ao _);unfold PD.aL;by_cases z:(P.az (Ab nm)).1=0
  ·obtain⟨I,L,O⟩:=h.az d z;rw[Ae (nn z),Ae (nn I)];exact RN r L O
  ·rw[Ai z];refine(YS h d).bj z λE=>?_;rw[Ai E]
def NX(h:AM P Q)(z:Cm Q (N+A.AR.length) R):DK (A.I P).1 (A.I Q).1:=by
 unfold Ar.I;by_cases d:(PD.aw A.AR P).1=0
 ·obtain⟨I,_⟩:=AM.aw A.AR h z d;rw[Ae (nn d),Ae (nn I)];exact .inr (.inr rfl)
 ·rw[Ai d];refine(RL A.AR h z).bj d λE=>?_;rw[Ai E]
def RM(h:AM P Q)(d:Cm Q (N+(A.aS Q).length) R):DK (A.ax P).1 (A.ax Q).1:=by
 unfold Ar.ax;rw[h.aS];exact RN _ h d
def YX(h:AM P Q)(O:Cm Q (N+2) R)(hR:12<=R):DK (J.av P).1 (J.av Q).1:=by
 unfold Jn.av;by_cases z:(P.ao (Ab (Ah (J.Ac+1)))).1=0
 ·obtain⟨X,I,L⟩:=h.ao (N:=N+1) O z;rw[Ae (nn z),Ae (nn X)];dsimp only
  by_cases d:((P.ao (Ab (Ah (J.Ac+1)))).2.af (Ab (Ah (J.Ac+1))) (AI (Ah (J.Ac+1))) (AO J.puts)).2.1=0
  ·obtain⟨-,W,_⟩:=I.bV (N:=N) (nm:=Ah (J.Ac+1)) (s:=AI (Ah (J.Ac+1))) (l:=AO J.puts) L (by rw[CL];omega) d;rw[Ae (nn d),Ae (nn W)];exact .inr (.inr rfl)
  ·rw[Ai d];refine(NY (N:=N) I L (by rw[CL];omega)).bj d λE=>?_;rw[Ai E]
 ·rw[Ai z];refine(RR (N:=N+1) h O).bj z λE=>?_;rw[Ai E]
def RO(h:AM P Q)(d:Cm Q (N+1) R)(hR:21<=R)(p:Pu):DK (J.ay P p).2.1 (J.ay Q p).2.1:=by
 unfold Jn.ay;cases J.AE with
 | none=>exact .inr (.inr rfl)
 | some x=>exact NY h d (by rw[Fj];omega)
def YV(h:AM P Q)(z:Cm Q (N+3) R)(hR:33<=R)(p:Pu):DK (J.af P p).2.1 (J.af Q p).2.1:=by
 unfold Jn.af;split
 ·by_cases d:(J.av P).1=0
  ·obtain⟨L,O,W,E⟩:=h.av (N:=N+1) z (by omega) d;rw[Ae (nn d),Ae (nn L),O];exact RO W E (by omega) p
  ·rw[Ai d];refine(YX (N:=N+1) h z (by omega)).bj d λI=>?_;rw[Ai I]
 ·exact RO (N:=N+2) h z (by omega) p
def Z0(h:AM P Q)(Y:Cm Q (N+A.AR.length+3) R)(O:33<=R)(p:Pu):DK (A.af P p).2.1 (A.af Q p).2.1:=by
 have d:Cm Q (N+3+A.AR.length) R:=Y.ad (by omega) (Ao _);unfold Ar.af;by_cases z:(A.I P).1=0
 ·obtain⟨L,W,X,E⟩:=h.I d z;rw[Ae (nn z),Ae (nn L),W];exact YV X E O p
 ·rw[Ai z];refine(NX h d).bj z λI=>?_;rw[Ai I]
def YU(h:AM P Q)(d:Cm Q (N+1) R):DK (J.ae P).1 (J.ae Q).1:=by
 unfold Jn.ae;cases J.AE with
 | none=>exact .inr (.inr rfl)
 | some x=>exact NW h d
def YZ(h:AM P Q)(hc:Cm Q (N+A.AR.length+2) R):DK (A.ae P).1 (A.ae Q).1:=by
 have d:Cm Q (N+2+A.AR.length) R:=hc.ad (by omega) (Ao _);unfold Ar.ae;by_cases E:(A.I P).1=0
 ·obtain⟨X,Y,O,L⟩:=h.I d E;rw[Ae (nn E),Ae (nn X),Y];by_cases z:((A.I Q).2.1.j.ae (A.I P).2.2).1=0
  ·obtain⟨W,b2,b3⟩:=O.e5 (N:=N+1) L z;rw[Ae (nn z),Ae (nn W)];exact RK b3
  ·rw[Ai z];refine(YU (N:=N+1) O L).bj z λI=>?_;rw[Ai I]
 ·rw[Ai E];refine(NX h d).bj E λI=>?_;rw[Ai I]
def RQ:∀(fresh:List (List Pu)) (last:Int) (kept:List Int) {P Q:PD},AM P Q->Cm Q (N+3*fresh.length) (R+Df fresh)->DK (PD.an fresh last kept P).1 (PD.an fresh last kept Q).1
 | [],_,_,_,_,_,_=>.inr (.inr rfl)
 | l::r,last,kept,P,Q,h,hc=>by
  have z:Df (l::r)=(17*l.length+4)+Df r:=by simp[Df]
  have hpl:(Cf l).length=17*l.length:=IN l;have E:Cm Q (N+3*r.length+3) (R+Df r+((Cf l).length+4)):=hc.ad (by simp;omega) (by rw[z];omega);have d:∀X:PD,PD.an (l::r) last kept X=if (X.aH (last+1) l).1≠0 then ((X.aH (last+1) l).1,last+1,kept,(X.aH (last+1) l).2) else PD.an r (last+1) (kept++[last+1]) (X.aH (last+1) l).2:=λ_=>rfl
  rw[d,d];by_cases I:(P.aH (last+1) l).1=0
  ·obtain⟨a1,a2,Y⟩:=AM.aG (N:=N+3*r.length) h E (by omega) I;have L:(Q.aH (last+1) l).1=0:=a1;rw[Ae (nn I),Ae (nn L)];exact RQ r (last+1) _ a2 (Y.ad (Ao _) (by omega))
  ·rw[Ai I];refine(RJ (N:=N+3*r.length) h E (by omega)).bj I λW=>?_;have O:(Q.aH (last+1) l).1≠0:=W;rw[Ai O];rfl
def YT{d:Int}{segs:List Int}(h:AM P Q)(E:Cm Q (N+4) R)(hR:12+8*segs.length<=R):DK (P.ak d segs).1 (Q.ak d segs).1:=by
 have hl:(Cj d segs).length=8+8*segs.length:=by unfold Cj;rw[Ba,CL,JL]
 unfold PD.ak;by_cases z:(P.aG Bv (AI AK) (Cj d segs)).1=0
 ·obtain⟨L,O,W⟩:=h.aG (N:=N+1) E (by omega) z;rw[Ae (nn z),Ae (nn L)];exact YR O W
 ·rw[Ai z];refine(RJ (N:=N+1) h E (by omega)).bj z λI=>?_;rw[Ai I]
def YY{segs:List Int}(h:AM P Q)(E:Cm Q (N+4) R)(z:12+8*segs.length<=R):DK (A.ak P segs).1 (A.ak Q segs).1:=by
 unfold Ar.ak;split
 ·exact .inr (.inr rfl)
 ·by_cases d:(P.ak (A.j.Ac+1) segs).1=0
  ·obtain⟨L,_⟩:=h.cT E z d;rw[Ae (nn d),Ae (nn L)];exact .inr (.inr rfl)
  ·rw[Ai d];refine(YT h E z).bj d λI=>?_;rw[Ai I]
def YW(h:AM P Q)(O:Cm Q (N+(A.aS Q).length+1) R):DK (A.a6 P).1 (A.a6 Q).1:=by
 have d:Cm Q (N+1+(A.aS Q).length) R:=O.ad (by omega) (Ao _);unfold Ar.a6;by_cases z:(A.ax P).1=0
 ·obtain⟨I,a2,L⟩:=h.ax d z;rw[Ae (nn z),Ae (nn I)];exact RK L
 ·rw[Ai z];refine(RM h d).bj z λE=>?_;rw[Ai E]
def YQ(h:AM P Q)(kept:List Int)(fresh:List (List Pu))(hc:Cm Q (N+A.AR.length+2*Q.dl+4*fresh.length+8) (R+Df fresh+12+8*(kept.length+fresh.length))):DK (A.aJ P kept fresh).1 (A.aJ Q kept fresh).1:=by
 have W:Cm Q (N+2*Q.dl+4*fresh.length+8+A.AR.length) (R+Df fresh+12+8*(kept.length+fresh.length)):=hc.ad (by omega) (Ao _);unfold Ar.aJ;dsimp only
 by_cases h1:(A.I P).1=0
 ·obtain⟨a1,a2,a3,a4⟩:=h.I W h1;rw[Ae (nn h1),Ae (nn a1),a2];have d1:(A.I Q).2.2.dl=Q.dl:=by unfold Ar.I;split<;>exact OK _ _
  have o1:=LZ (A.I Q).2.1 (A.I Q).2.2;have E:Cm (A.I Q).2.2 (N+Q.dl+4*fresh.length+8+((A.I Q).2.1.aS (A.I Q).2.2).length) (R+Df fresh+12+8*(kept.length+fresh.length)):=a4.ad (by omega) (Ao _);by_cases Y:((A.I Q).2.1.ax (A.I P).2.2).1=0
  ·obtain⟨b1,b2,b3⟩:=a3.ax E Y;(have d2:((A.I Q).2.1.ax (A.I Q).2.2).2.dl<=Q.dl:=by rw[<-d1];exact OL _ _);rw[Ae (nn Y),Ae (nn b1)];have O:Cm ((A.I Q).2.1.ax (A.I Q).2.2).2 (N+Q.dl+fresh.length+8+3*fresh.length) (R+12+8*(kept.length+fresh.length)+Df fresh):=b3.ad (by omega) (by omega);by_cases h3:(PD.an fresh (A.I Q).2.1.Ac kept ((A.I Q).2.1.ax (A.I P).2.2).2).1=0
   ·obtain⟨c1,c2,c3,c4,c5⟩:=AM.an fresh (A.I Q).2.1.Ac kept b2 O h3;obtain⟨d3,d4⟩:=Mr fresh (A.I Q).2.1.Ac kept ((A.I Q).2.1.ax (A.I Q).2.2).2;rw[Ae (nn h3),Ae (nn c1),c2,c3];obtain⟨I,aD⟩:∃I:Ar,({ (A.I Q).2.1 with Ac:=(PD.an fresh (A.I Q).2.1.Ac kept ((A.I Q).2.1.ax (A.I Q).2.2).2).2.1}:Ar)=I:=⟨_,rfl⟩;rw[aD];obtain⟨sg,aB⟩:∃sg,(PD.an fresh (A.I Q).2.1.Ac kept ((A.I Q).2.1.ax (A.I Q).2.2).2).2.2.1=sg:=⟨_,rfl⟩;rw[aB]at d4 ⊢;obtain⟨aE,L⟩:∃aE,(PD.an fresh (A.I Q).2.1.Ac kept ((A.I Q).2.1.ax (A.I P).2.2).2).2.2.2=aE:=⟨_,rfl⟩;obtain⟨X,d⟩:∃X,(PD.an fresh (A.I Q).2.1.Ac kept ((A.I Q).2.1.ax (A.I Q).2.2).2).2.2.2=X:=⟨_,rfl⟩;rw[L]at c4;rw[L,d];rw[d]at c4 c5 d3;clear L d aD aB h3 c1 c2 c3 Y b1 b2 b3 h1 a1 a2 a3 a4 W E O;have aA:Cm X (N+Q.dl+fresh.length+4+4) (R+12+8*(kept.length+fresh.length)):=c5.ad (by omega) (Ao _);by_cases h4:(I.ak aE sg).1=0
    ·obtain⟨e1,e2,e3,e4⟩:=c4.cy (A:=I) (segs:=sg) aA (by omega) h4;have d5:=Tr I X sg;rw[Ae (nn h4),Ae (nn e1),e2];have o2:=LZ (I.ak X sg).2.1 (I.ak X sg).2.2;exact YW (N:=N) e3 (e4.ad (by omega) (Ao _))
    ·rw[Ai h4];refine(YY c4 aA (by omega)).bj h4 λz=>?_;rw[Ai z]
   ·rw[Ai h3];refine(RQ fresh (A.I Q).2.1.Ac kept b2 O).bj h3 λz=>?_;rw[Ai z]
  ·rw[Ai Y];refine(RM a3 E).bj Y λz=>?_;rw[Ai z]
 ·rw[Ai h1];refine(NX h W).bj h1 λz=>?_;rw[Ai z]
end
section
variable {bd:Int×Int} {P P':PD} {A:Ar} {sg cl:List (Int×List Pu)} {ol:Option (List Pu)} {puts:List Pu} {Ad:Nat} {o:Int}
def DK.dj{a b:Int}(h:DK a b)(d:b=0):a=0\/a=5\/a=6:=by
 rcases h with e|e|e
 ·exact .inr (.inl e)
 ·exact .inr (.inr e)
 ·exact .inl (e.trans d)
def SI.e2(h:SI bd A P puts Ad o sg cl ol)(E:ol=none->isNum (A.j.Ac+1)=true)(p:Pu)(z:Bq p)(hll:A.AR.length<=1099511627776):(A.af P p).2.1=0\/(A.af P p).2.1=5\/(A.af P p).2.1=6:=by
 have d:Cm P.aP (0+A.AR.length+3) 33:=h.di.bl.aP.ad (by omega) (by omega);refine(Z0 (AM.aP P) d (Ao _) p).dj ?_;exact((h.Bc.au (P':=P.aP) λm=>((AM.aP P).bs m).symm).af d E p z (Ao _)).2.1
def SI.gd(h:SI bd A P puts Ad o sg cl ol)(hll:A.AR.length<=1099511627776):(A.ae P).1=0\/(A.ae P).1=5:=by
 have d:Cm P.aP (0+A.AR.length+2) 0:=h.di.bl.aP.ad (by omega) (by omega);have:=(YZ (AM.aP P) d).dj ((h.Bc.au (P':=P.aP) λm=>((AM.aP P).bs m).symm).ae d).1;have h6:=U4 A P;omega
def SI.fW{d:Int}(h:SI bd A P puts Ad o sg cl ol)(O:Ca (AH d))(hn:isNum (A.j.Ac+1)=true){n:Nat}(hcount:(Dl sg cl ol).length<=n)(hn2:n<=1073741824)(E:A.Ac+n<=4611686018427387904)(hbig:A.AR.length+P.Az.length+A.j.Av.length+2*sg.length<=1073741824):(A.aO P d).1=0\/(A.aO P d).1=5\/(A.aO P d).1=6:=by
 have hl0:(Dl sg cl ol).length=(AG sg).length+(AG cl++ol.getD []).length:=by unfold Dl;rw[Ba]
 have Y:=h.Bc.au (P':=P.aP) λm=>((AM.aP P).bs m).symm
 have W:=h.di.bl.aP;have L:P.aP.Az.length<=1073741824:=by
  have e:P.aP.Az=P.Az:=rfl;rw[e];omega
 have X:=(Y.aO O (N:=0) (R:=0) (K:=1073741824) (n:=n) (by omega) (by omega) L (by omega) (by omega) (by omega) (W.ad (by omega) (by omega)) hn E).1;refine DK.dj (b:=(A.aO P.aP d).1) ?_ X;have hp:=h.Bc.puts h.CK;have z:=Mh O (AG cl++ol.getD []);have hfl:=KL z.ne;have hfl2:=z.Bo;have hcost:=Nw (EO d (AG cl++ol.getD []));have hsg:A.ix.segs.length=sg.length:=by rw[<-h.Bc.segs,HD]
 have I:P.aP.dl=P.Az.length:=by rw[J6];rfl
 unfold Ar.aO;rw[<- (AM.aP P).puts,hp,Ae (by simp),Ae (by simp)];exact YQ (N:=0) (R:=0) (AM.aP P) _ _ (W.ad (by rw[I];dsimp only;omega) (by dsimp only;omega))
end
end
end Go.Proofs.YtodcnkbblippnaaGreatDoor
