/- Part 13 of a proof: walks of the program. -/
import Derived.Test.YtodcnkbblippnaaGreatDoorPk12
namespace Go.Proofs.YtodcnkbblippnaaGreatDoor
set_option maxRecDepth 100000
set_option maxHeartbeats 32000000
set_option linter.defProp false
open Go.Proofs.Tryz
section
open Go.RowKit
structure SI (bd:Int×Int) (A:Ar) (P:PD) (puts:List Pu) (A8:Nat) (o:Int) (sg cl:List (Int×List Pu)) (ol:Option (List Pu)):Prop where
 di:DI bd P puts A8 o
 AX:Lay P A sg cl ol
 Hq:∃nb,nb<=puts.length/\Cb o (Ax sg++Ax cl) (puts.take nb)/\ol.getD []=puts.drop nb/\(ol=none->A8<=nb)
 Gj:∀m,(m=AL\/(∃x∈sg,m=AJ x.1)\/∃x∈cl,m=Ah x.1)->∀c,P.fl m=some c->m∈A.AQ\/C6 c
 AB:∀l,ol=some l->∃f,Eo bd P puts A8 o A.j.Aa f (Ax cl).length
 CO:(Ax cl).length<=1099511627776
 Ee:Hz bd A.ix sg/\A.j.Aa<=bd.1/\A.Aa<=bd.2
section
variable {bd:Int×Int} {P P':PD} {A:Ar} {sg cl:List (Int×List Pu)} {ol:Option (List Pu)} {puts:List Pu} {A8:Nat} {o:Int}
def DI.DZ(h:DI bd P puts A8 o)(nm:Bs)(c:FC)(z:P.fl nm=some c):0<=c.2/\c.2<=c.1.length:=by
 obtain⟨ix,sg,cl,lo,nb,d,_⟩:=h.Dw _ h.Cu;exact d.DZ nm c z
def DI.Ay(h:DI bd P puts A8 o):∀nm,P.fl nm≠none->F8 bd nm:=by
 obtain⟨ix,sg,cl,lo,nb,d,_⟩:=h.Dw _ h.Cu;exact d.Ek
def Eo.aW{d:Int×Int}{n:Int}{f ahead:Nat}(h:Eo bd P puts A8 o n f ahead)(z:HD bd d):Eo d P puts A8 o n f ahead:=
 ⟨h.1,λs E=>(h.2 s E).imp id λq=>⟨q.1,q.2.aW z⟩⟩
def SI.aW{d:Int×Int}(h:SI bd A P puts A8 o sg cl ol)(z:HD bd d):SI d A P puts A8 o sg cl ol:=
 ⟨h.di.aW z,h.AX,h.Hq,h.Gj,λl e=>by obtain⟨f,E⟩:=h.AB l e;exact⟨f,E.aW z⟩,h.CO,h.Ee.1.aW z,by have:=h.Ee.2.1;have:=z.1;omega,by have:=h.Ee.2.2;have:=z.2;omega⟩
def SI.Cp(h:SI bd A P puts A8 o sg cl ol):Cb o (B7 sg cl ol) puts:=by
 obtain⟨nb,h1,d,z,_⟩:=h.Hq;unfold B7;rw[<-Cc,z];have:puts=puts.take nb++puts.drop nb:=(DM _ _).symm
 conv=>rhs;rw[this]
 exact d.dE _
def SI.bw(h:SI bd A P puts A8 o sg cl ol):Reads bd P puts o:=⟨A,sg,cl,ol,h.AX,h.Cp,h.Ee.1⟩
def SI.dJ(h:SI bd A P puts A8 o sg cl ol):A8<=puts.length:=by
 obtain⟨nb,O,_,_,I⟩:=h.Hq;cases ol with
 | none=>exact AR (I rfl) O
 | some l=>
  obtain⟨f,H,L⟩:=h.AB l rfl;rcases L _ h.di.Cu with d|⟨_,ix,sg',cl',l',nb',c,_,hnb,_,_,_,_,E,z⟩
  ·exact absurd rfl (d _ (E8 H))
  ·(have:ER c l'<=l'.length:=by unfold ER;omega);rw[z,Cw]at this;rw[z]at E;omega
def SI.df(h:SI bd A P puts A8 o sg cl ol)(I:(A.C P).1=0):SI bd {A with AQ:=[]} (A.C P).2.2 puts A8 o sg cl ol/\CX bd (A.C P).2.2.fl A.ix sg cl (ol.map λl=>(A.j.Aa,l)):=by
 have Y:=NX A P;have d:=h.AX.ay Y;have O:Lay (A.C P).2.2 {A with AQ:=[]} sg cl ol:=⟨d.DG,d.ix,d.segs,d.Cy,d.CW,d.J9,d.EI,d.Am,d.Gq,d.AB,d.EG,d.Ev,λm E=>(by cases E),d.H8,d.Ek,d.Hj⟩;have H:=h.di.C (A:=A);have z:∀m,(m=AL\/(∃x∈sg,m=AJ x.1)\/∃x∈cl,m=Ah x.1)->∀c,(A.C P).2.2.fl m=some c->C6 c:=λm E=>Xw I (h.Gj m E);exact⟨⟨H,O,h.Hq,λm E c L=>.inr (z m E c L),λl e=>by obtain⟨f,W⟩:=h.AB l e;exact⟨f,W.C⟩,h.CO,h.Ee⟩,O.br h.CO H.DZ (λm c E L=>z m E c L) h.Ee.1 H.Ay⟩
def SI.dN(h:SI bd A P puts A8 o sg cl ol):DI bd (A.C P).2.2 puts A8 o/\Reads bd (A.C P).2.2 puts o:=⟨h.di.C,h.bw.ay (NX A P)⟩
def A3T{P:PD}{nm:Bs}{f:Nat}{pc:Bs}(h:lookup P.D.A4 (A9 nm)=some f)(d:(P.an (A9 nm) pc).2.D.A4=P.D.A4):Hb P.D P.F (A9 nm) pc=decide (((((P.an (A9 nm) pc).2.F f).1.length:Int)-(P.F f).1.length)=pc.length):=by
 have e:Hb P.D P.F (A9 nm) pc=decide ((CH (P.an (A9 nm) pc).2.D (P.an (A9 nm) pc).2.F (A9 nm)).1-(CH P.D P.F (A9 nm)).1=pc.length):=rfl;rw[e];unfold CH;rw[d,h]
def SI.aw{l:List Pu}(h:SI bd A P puts A8 o sg cl (some l))(p:Pu)(hp:Bh p):
 DI bd (A.j.aw P p).2.2.2 (puts++[p]) A8 o/\((A.j.aw P p).1=true->(∃f,Eo bd (A.j.aw P p).2.2.2 (puts++[p]) A8 o A.j.Aa f (Ax cl).length)/\Reads bd (A.j.aw P p).2.2.2 (puts++[p]) o)/\
  ((A.j.aw P p).1=false->DI bd (A.j.aw P p).2.2.2 puts A8 o/\Reads bd (A.j.aw P p).2.2.2 puts o):=by
 obtain⟨f,hO⟩:=h.AB l rfl;obtain⟨h1,h2,h3,h4,h5⟩:=h.AX.AB;have hl:=hO.1;obtain⟨c,hc,W⟩:=Im h3;have H:P.F f=c:=by unfold PD.fl at hc;rw[hl]at hc;simpa using hc
 rw[h.AX.Gq]at W h1;have L:(A.j.aw P p).2.2.2=(P.an (A9 (Ah A.j.Aa)) (AT (F4 (Ah A.j.Aa) ((Ax cl).length:Int) l) (Bb p.1 p.2.1 p.2.2))).2:=by
  unfold Jn.aw;rw[h1];rfl
 have E:(A.j.aw P p).1=Hb P.D P.F (A9 (Ah A.j.Aa)) (AT (F4 (Ah A.j.Aa) ((Ax cl).length:Int) l) (Bb p.1 p.2.1 p.2.2)):=by
  unfold Jn.aw;rw[h1];rfl
 obtain⟨pc,aA⟩:∃pc,AT (F4 (Ah A.j.Aa) ((Ax cl).length:Int) l) (Bb p.1 p.2.1 p.2.2)=pc:=⟨_,rfl⟩;have Y:pc.length=21:=by rw[<-aA,EE,EY]
 rw[aA]at L E;obtain⟨a1,a2,a3,a4⟩:=Is pc hl;have aF:=A3T (pc:=pc) hl a1;have hj:∃j,(P.an (A9 (Ah A.j.Aa)) pc).2.F=upd P.F f (c.1++pc.take j,c.2)/\((A.j.aw P p).1=true↔21<=j):=by
  rcases a4 with a4|⟨j,a4⟩
  ·refine⟨0,by rw[a4];funext g;by_cases e:g=f<;>simp[upd,e,H],?_⟩;rw[E,aF,a4,Y];simp
  ·refine⟨j,by rw[a4,H],?_⟩;rw[E,aF,a4,Y,H];simp only[upd,Ch,B1,BW,Y,Dn];omega
 obtain⟨j,hF,I⟩:=hj;rw[<-L]at hF a1 a2 a3;rw[<-aA]at hF;obtain⟨b1,b2,b3⟩:=hO.an h.di H W p hp j a1 a2 a3 hF;refine⟨b1,λht=>?_,λht=>?_⟩
 ·have aB:=b2 (I.1 ht);refine⟨⟨f,aB⟩,?_⟩;rcases aB.2 _ b1.Cu with z|⟨_,hw⟩
  ·exact absurd rfl (z _ (E8 aB.1))
  ·exact Whole.bw (hw.bC h.CO)
 ·have hj:j<21:=by
   by_cases d:21<=j
   ·rw[I.2 d]at ht;cases ht
   ·omega
  refine⟨b3 hj,?_⟩;have z:∀m,m≠Ah A.j.Aa->(A.j.aw P p).2.2.2.bs m=P.bs m:=λm hm=>by
   unfold PD.bs PD.fl;rw[a1,hF];cases hk:lookup P.D.A4 (A9 m) with
   | none=>rfl
   | some g=>
    have:g≠f:=λe=>hm (by
     have:=JH (h.di.Au _ h.di.Cu) (E8 hk) (E8 hl) e
     exact FY.1 (PO this).1)
    simp[upd,this]
  have aE:(A.j.aw P p).2.2.2.bs (Ah A.j.Aa)=some (E2 (Ah A.j.Aa) ((Ax cl).length:Int) l++(AT (F4 (Ah A.j.Aa) ((Ax cl).length:Int) l) (Bb p.1 p.2.1 p.2.2)).take j):=by
   unfold PD.bs PD.fl;rw[a1,hl,hF];simp[upd,W]
  have aG:∀x∈cl,Ah x.1≠Ah A.j.Aa:=λx d e=>h.AX.J9 x d (by simp) (FW (h.AX.CW x d).1.1 h5 e);have aD:EU (A.j.aw P p).2.2.2 0 (cl++[(A.j.Aa,l)]):=by
   refine(h.AX.Am.bD λx d=>z _ (aG x d)).bU ?_;rw[Nq];exact OM (by constructor<;>have:=h.CO<;>omega) h4 (by rw[BW];omega) aE
  refine⟨⟨A.ix,⟨A.j.Am,A.j.Aa,((Ax (cl++[(A.j.Aa,l)])).length:Int),none⟩,A.Aa,[]⟩,sg,cl++[(A.j.Aa,l)],none,?_,?_⟩
  ·refine⟨h.AX.DG,by rw[z _ (Hk _).symm];exact h.AX.ix,h.AX.segs,λx d=>by rw[z _ (G1 _ x.1).symm];exact h.AX.Cy x d,λx d=>?_,λx _ d=>absurd rfl d,⟨λx d=>?_,λd=>absurd rfl d⟩,aD,rfl,⟨rfl,by dsimp only;rw[h2];simp⟩,
    ⟨h.AX.EG.1,h.AX.EG.2.1,λn O k2=>?_⟩,⟨h.AX.Ev.1,λn O k2=>h.AX.Ev.2 n O (by rwa [z _ (G1 _ n).symm]at k2)⟩,λm hm=>(by cases hm),h.AX.H8,λm hm=>?_,λn O k2 k3=>?_⟩
   ·rcases AV.1 d with d|d
    ·exact h.AX.CW x d
    ·simp at d;subst d;exact⟨⟨h5,HC _⟩,h4⟩
   ·rcases AV.1 d with d|d
    ·exact h.AX.EI.1 x d
    ·simp at d;subst d;exact h.AX.EI.2 (by simp)
   ·by_cases e:Ah n=Ah A.j.Aa
    ·have:=FW O h5 e;rw[this];exact HC _
    ·rw[z _ e]at k2;exact h.AX.EG.2.2 n O k2
   ·by_cases e:m=Ah A.j.Aa
    ·subst e;rw[KX h5];simp
    ·rw[z _ e]at hm;exact h.AX.Ek m hm
   ·by_cases e:Ah n=Ah A.j.Aa
    ·have:=FW O h5 e;subst this;show A.j.Aa∈A.j.Am;rw[h2];simp
    ·rw[z _ e]at k3;exact h.AX.Hj n O k2 k3
  ·refine⟨?_,h.Ee.1⟩;have:=h.Cp;unfold B7 at this ⊢;simpa[Ax] using this
end
section
variable {bd:Int×Int} {P P':PD} {A:Ar} {sg cl:List (Int×List Pu)} {ol:Option (List Pu)} {puts:List Pu} {A8:Nat} {o:Int}
def SI.br(h:SI bd A P puts A8 o sg cl ol)(d:A.AQ=[]):CX bd P.fl A.ix sg cl (ol.map λl=>(A.j.Aa,l)):=
 h.AX.br h.CO h.di.DZ (λm c z E=>(h.Gj m z c E).resolve_left (by rw[d];simp)) h.Ee.1 h.di.Ay
def SI.dC(h:SI bd A P puts A8 o sg cl none):Cb o (Ax sg++Ax cl) puts:=by
 have:=h.Cp;unfold B7 at this;simpa using this
def SI.ax(h:SI bd A P puts A8 o sg cl none)(aB:A.AQ=[])(Y:isNum (A.j.Aa+1)=true)(H:A.j.Aa+1<=bd.1):
 (DI bd (A.j.ax P).2.2 puts A8 o/\Reads bd (A.j.ax P).2.2 puts o)/\((A.j.ax P).1=0->SI bd {A with j:=(A.j.ax P).2.1} (A.j.ax P).2.2 puts A8 o sg cl (some [])/\(A.j.ax P).2.1.Aa=A.j.Aa+1):=by
 have hL:=h.br aB;have E:∀x∈cl,x.1<A.j.Aa+1:=λx W=>by have:=(h.AX.CW x W).1.2;omega
 have hf:=h.AX.EG.2.1;obtain⟨d1,d2⟩:=h.di.ax (J:=A.j) hL h.dC h.dJ Y H hf E h.AX.Gq;obtain⟨b1,⟨j,b2⟩,b3⟩:=MV P A.j;have L:=Extra.fl h.di b1;refine⟨⟨d1,?_⟩,λd=>?_⟩
 ·rcases L with e|⟨h0,e⟩
  ·exact h.bw.ay λm=>by unfold PD.bs;rw[e]
  ·rw[b2,h.AX.Gq]at e;have hw:=(hL.dn h.dC h.dJ Y H hf E j (V':=(A.j.ax P).2.2.fl) e).1;exact Whole.bw ⟨A.ix,sg,cl,some (A.j.Aa+1,[]),hw.br,h.CO,by simpa[EF] using h.dC⟩
 ·have I:=(AK.aR P).ax (J:=A.j) (N:=4611686018427387900) (R:=4611686018427387904) (h.di.bh.aR.aa (by omega) (As _)) (by omega) d;obtain⟨s1,s2,s3,s4⟩:=I;have hq:=(h.AX.ay (P':=P.aR) λm=>((AK.aR P).bs m).symm).ax (N:=4611686018427387900) (R:=4611686018427387904) (h.di.bh.aR.aa (by omega) (As _)) Y (by omega);have O:Lay (A.j.ax P).2.2 {A with j:=(A.j.ax P).2.1} sg cl (some []):=by
   rw[s2];exact hq.2.2.1.ay λm=>s3.bs m
  have z:(A.j.ax P).2.1.Aa=A.j.Aa+1:=by
   unfold Jn.ax at d ⊢;split at d
   ·rename_i h1;exact absurd d h1
   ·rename_i h1;rw[Ae h1];dsimp only at d ⊢;split at d
    ·rename_i h2;exact absurd d h2
    ·rename_i h2;rw[Ae h2]
  refine⟨⟨d1,O,?_,λm hm c hc=>?_,λl e=>?_,h.CO,h.Ee.1,by dsimp only;rw[z];exact H,h.Ee.2.2⟩,z⟩
  ·obtain⟨nb,g1,g2,g3,g4⟩:=h.Hq;exact⟨nb,g1,g2,g3,λe=>by cases e⟩
  ·
   have aA:m≠Ah (A.j.Aa+1):=by
    rcases hm with rfl|⟨x,_,rfl⟩|⟨x,W,rfl⟩
    ·exact(Hk _).symm
    ·exact(G1 _ x.1).symm
    ·intro e;have:=FW (h.AX.CW x W).1.1 Y e;have:=E x W;omega
   rcases L with e|⟨h0,e⟩
   ·rw[e]at hc;exact h.Gj m hm c hc
   ·rw[e,Ae aA]at hc;exact h.Gj m hm c hc
  ·cases e;exact⟨_,by dsimp only;rw[z];exact d2 d⟩
def SI.er{l:List Pu}(h:SI bd A P puts A8 o sg cl (some l))(p:Pu)(hp:Bh p)(Y:(A.j.aw P p).2.1=0):
 (A.j.aw P p).1=true/\SI bd {A with j:=(A.j.aw P p).2.2.1} (A.j.aw P p).2.2.2 (puts++[p]) A8 o sg cl (some (l++[p])):=by
 obtain⟨s0,s1,s2,s3,s4⟩:=(AK.aR P).aw (J:=A.j) (N:=4611686018427387900) (R:=4611686018427387904) (h.di.bh.aR.aa (by omega) (As _)) (by omega) p Y;have hq:=(h.AX.ay (P':=P.aR) λm=>((AK.aR P).bs m).symm).aw (N:=4611686018427387900) (R:=4611686018427387904) (h.di.bh.aR.aa (by omega) (As _)) p hp (by omega);have ht:(A.j.aw P p).1=true:=by rw[s0];exact hq.1
 obtain⟨g1,g2,_⟩:=h.aw p hp;have I:Lay (A.j.aw P p).2.2.2 {A with j:=(A.j.aw P p).2.2.1} sg cl (some (l++[p])):=by
  rw[s2];exact hq.2.2.2.ay λm=>s3.bs m
 have d:(A.j.aw P p).2.2.1.Aa=A.j.Aa:=by unfold Jn.aw;cases A.j.AB<;>rfl
 obtain⟨f,hO⟩:=(g2 ht).1;refine⟨ht,⟨g1,I,?_,λm hm c hc=>?_,λl' e=>⟨f,by dsimp only;rw[d];exact hO⟩,h.CO,h.Ee.1,by dsimp only;rw[d];exact h.Ee.2.1,h.Ee.2.2⟩⟩
 ·obtain⟨nb,k1,k2,k3,_⟩:=h.Hq;refine⟨nb,by simp;omega,by rw[GW k1];exact k2,?_,λe=>by cases e⟩;rw[LK k1,<-k3];rfl
 ·
  obtain⟨h1,h2,h3,h4,h5⟩:=h.AX.AB;have L:m≠Ah A.j.Aa:=by
   rcases hm with rfl|⟨x,_,rfl⟩|⟨x,hx,rfl⟩
   ·exact(Hk _).symm
   ·exact(G1 _ x.1).symm
   ·intro e;exact h.AX.J9 x hx (by simp) (FW (h.AX.CW x hx).1.1 h5 e)
  obtain⟨f0,E⟩:=h.AB l rfl;have H:(A.j.aw P p).2.2.2=(P.an (A9 (Ah A.j.Aa)) (AT (F4 (Ah A.j.Aa) A.j.puts l) (Bb p.1 p.2.1 p.2.2))).2:=by
   unfold Jn.aw;rw[h1];rfl
  obtain⟨a1,_,_,z⟩:=Is (AT (F4 (Ah A.j.Aa) A.j.puts l) (Bb p.1 p.2.1 p.2.2)) E.1;have W:(A.j.aw P p).2.2.2.fl m=P.fl m:=by
   rw[H];unfold PD.fl;rw[a1];cases hk:lookup P.D.A4 (A9 m) with
   | none=>rfl
   | some g=>
    have O:g≠f0:=λe=>L (by
     have:=JH (h.di.Au _ h.di.Cu) (E8 hk) (E8 E.1) e
     exact FY.1 (PO this).1)
    rcases z with z|⟨j,z⟩
    ·rw[z]
    ·rw[z];simp[upd,O]
  rw[W]at hc;exact h.Gj m hm c hc
def SI.ad(h:SI bd A P puts A8 o sg cl ol)(hn:ol=none->isNum (A.j.Aa+1)=true/\A.j.Aa+1<=bd.1)(p:Pu)(L:Bh p):
 DI bd (A.ad P p).2.2.2 (puts++[p]) A8 o/\((A.ad P p).1=true->Reads bd (A.ad P p).2.2.2 (puts++[p]) o)/\((A.ad P p).1=false->DI bd (A.ad P p).2.2.2 puts A8 o/\Reads bd (A.ad P p).2.2.2 puts o)/\
  ((A.ad P p).2.1=0->(A.ad P p).1=true/\SI bd (A.ad P p).2.2.1 (A.ad P p).2.2.2 (puts++[p]) A8 o sg cl (some (ol.getD []++[p]))/\(A.ad P p).2.2.1.AQ=[]):=by
 unfold Ar.ad;by_cases I:(A.C P).1=0
 ·rw[Ae (nn I)];dsimp only
  obtain⟨O,_⟩:=h.df I;have hA:(A.C P).2.1 = {A with AQ:=[]}:=by
   unfold Ar.C at I ⊢;split at I
   ·rename_i E;exact absurd I E
   ·rename_i E;rw[Ae E]
  rw[hA];dsimp only
  generalize (A.C P).2.2=P1 at O;cases ol with
  | none=>
   have z:=h.AX.AB.1;obtain⟨⟨W,b2⟩,b3⟩:=O.ax rfl (hn rfl).1 (hn rfl).2;dsimp only at W b2 b3;by_cases E:(A.j.ax P1).1=0
   ·obtain⟨c1,c2⟩:=b3 E;have e:A.j.ad P1 p=(A.j.ax P1).2.1.aw (A.j.ax P1).2.2 p:=by
     unfold Jn.ad;rw[Ai z,Ae (nn E)]
    rw[e];obtain⟨d1,d2,d3⟩:=c1.aw p L;refine⟨d1,λH=>(d2 H).2,d3,λd=>?_⟩;obtain⟨e1,Y⟩:=c1.er p L d;exact⟨e1,Y,rfl⟩
   ·have e:A.j.ad P1 p=(false,(A.j.ax P1).1,(A.j.ax P1).2.1,(A.j.ax P1).2.2):=by
     unfold Jn.ad;rw[Ai z,Ai E]
    rw[e];exact⟨W.cb [p],λH=>(by cases H),λ_=>⟨W,b2⟩,λd=>absurd d E⟩
  | some l=>
   (have z:¬A.j.AB=none:=by rw[h.AX.AB.1];simp);(have e:A.j.ad P1 p=A.j.aw P1 p:=by unfold Jn.ad;rw[Ae z]);rw[e];obtain⟨d1,d2,d3⟩:=O.aw p L;refine⟨d1,λH=>(d2 H).2,d3,λd=>?_⟩;obtain⟨e1,Y⟩:=O.er p L d;exact⟨e1,Y,rfl⟩
 ·rw[Ai I];obtain⟨u1,u2⟩:=h.dN;exact⟨u1.cb [p],λH=>(by cases H),λ_=>⟨u1,u2⟩,λd=>absurd d I⟩
end
section
variable {bd:Int×Int} {P P':PD} {V V':View} {A:Ar} {ix:Ix} {sg cl:List (Int×List Pu)} {lo:Option (Int×List Pu)} {ol:Option (List Pu)} {puts:List Pu} {A8:Nat} {o:Int}
def A10{c:FC}{nm:Bs}{a:Int}{l:List Pu}(d:C6 c)(h:c.1=E2 nm a l):ER c l=l.length:=by
 unfold ER;unfold C6 at d;rw[d,h,IZ];have:((12+21*l.length:Nat):Int).toNat=12+21*l.length:=by omega
 rw[this];have:(12+21*l.length-12)/21=l.length:=by omega
 omega
def QM(d:P.aJ.1=0):Bx P.aJ.2=[P.D.A4]/\P.aJ.2.D.A4=P.D.A4/\P.aJ.2.F=P.F/\P.aJ.2.D.Av=[]:=by
 unfold PD.aJ DK at d ⊢;dsimp only at d ⊢;rw[Ai d];exact⟨rfl,rfl,rfl,rfl⟩
def IE(P:PD):P.aJ.2.fl=P.fl:=by
 unfold PD.aJ DK PD.fl;dsimp only
 split<;>rfl
def My(h:P'.fl=P.fl)(m:Bs):P'.bs m=P.bs m:=by unfold PD.bs;rw[h]
def DI.Gd(h:DI bd P puts A8 o)(H:Bx P=[P.D.A4]){d:Nat}(E:Holds bd P.fl puts d o):DI bd P puts d o:=
 ⟨λs z=>by rw[H]at z;simp at z;subst z;exact E,h.Au,h.Ce,h.Cu⟩
def SI.ae(h:SI bd A P puts A8 o sg cl ol):
 (DI bd (A.ae P).2.2 puts A8 o/\Reads bd (A.ae P).2.2 puts o)/\((A.ae P).1=0->SI bd (A.ae P).2.1 (A.ae P).2.2 puts puts.length o sg cl ol/\(A.ae P).2.1 = {A with AQ:=[]}/\(A.ae P).2.2.D.Av=[]):=by
 unfold Ar.ae;by_cases W:(A.C P).1=0
 ·rw[Ae (nn W)];obtain⟨Y,hL⟩:=h.df W;have hA:(A.C P).2.1 = {A with AQ:=[]}:=by
   unfold Ar.C at W ⊢;split at W
   ·rename_i L;exact absurd W L
   ·rename_i L;rw[Ae L]
  rw[hA];dsimp only
  generalize (A.C P).2.2=P1 at Y hL;have hj:∃P2,A.j.ae P1=((A.j.ae P1).1,P2)/\DI bd P2 puts A8 o/\(∀m,P2.bs m=P1.bs m)/\(∀m,(∀c,P1.fl m=some c->C6 c)->∀c,P2.fl m=some c->C6 c)/\(∀l f,ol=some l->Eo bd P1 puts A8 o A.j.Aa f (Ax cl).length->Eo bd P2 puts A8 o A.j.Aa f (Ax cl).length)/\
   ((A.j.ae P1).1=0->∀l,ol=some l->∀c,P2.fl (Ah A.j.Aa)=some c->C6 c):=by
   cases ol with
   | none=>
    (have e:A.j.ae P1=(0,P1):=by unfold Jn.ae;rw[h.AX.AB.1]);rw[e];exact⟨P1,rfl,Y.di,λ_=>rfl,λm H=>H,λl f e=>(by cases e),λ_ l e=>(by cases e)⟩
   | some l=>
    (have e:A.j.ae P1=P1.ae (A9 (Ah A.j.Aa)):=by unfold Jn.ae;rw[h.AX.AB.1]);rw[e];exact⟨_,rfl,Y.di.cD _,λm=>NO P1 _ m,λm H c z=>NN H z,λl f _ hO=>hO.cD _,λd l e c z=>QJ d c z⟩
  obtain⟨P2,e2,d2,b2,k2,o2,m2⟩:=hj;have r2:=Y.bw.ay b2;rw[e2];dsimp only
  by_cases L:(A.j.ae P1).1=0
  ·rw[Ae (nn L)];dsimp only
   have d3:=d2.ep;have r3:=r2.ay (My (IE P2));refine⟨⟨d3,r3⟩,λd=>?_⟩;obtain⟨s1,s2,s3,s4⟩:=QM d;have hb:∀m,P2.aJ.2.bs m=P1.bs m:=λm=>(My (IE P2) m).trans (b2 m)
   have E:=Y.AX.ay hb;have O:∀m,(m=AL\/(∃x∈sg,m=AJ x.1)\/∃x∈cl,m=Ah x.1)->∀c,P2.aJ.2.fl m=some c->C6 c:=λm H c z=>by
    rw[IE]at z;exact k2 m (λc z=>(Y.Gj m H c z).resolve_left (by simp)) c z
   have aB:=E.br h.CO d3.DZ (λm c H z=>O m H c z) h.Ee.1 d3.Ay;(have aA:Bx P2.aJ.2=[P2.aJ.2.D.A4]:=by rw[s1,s2]);obtain⟨nb,n1,n2,n3,n4⟩:=h.Hq;have I:∀l,ol=some l->∃f,Eo bd P2.aJ.2 puts puts.length o A.j.Aa f (Ax cl).length:=λl e=>by
    obtain⟨f,hO⟩:=Y.AB l e;have aD:=o2 l f e hO;refine⟨f,by rw[s2];exact aD.1,λs hs=>?_⟩;rw[s1]at hs;simp at hs;subst hs;refine .inr ⟨aD.1,?_⟩;subst e;obtain⟨c,c1,c2⟩:=Im E.AB.2.2.1;(have aE:C6 c:=by rw[IE]at c1;exact m2 L l rfl c c1);(have hl:l=puts.drop nb:=by simpa using n3);(have ha:c.1=E2 (Ah A.j.Aa) ((Ax cl).length:Int) l:=by rw[c2];dsimp only;rw[h.AX.Gq]);(have hv:vw P2.aJ.2.F P2.D.A4=P2.aJ.2.fl:=by rw[s3,IE];rfl);rw[hv];refine⟨A.ix,sg,cl,l,nb,c,aB,n1,n2,c1,ha,rfl,?_,hl⟩;rw[A10 aE ha,hl,Cw];omega
   have hH:Holds bd P2.aJ.2.fl puts puts.length o:=by
    cases ol with
    | none=>
     have aF:nb=puts.length:=by
      (have:(puts.drop nb).length=0:=by rw[<-n3];rfl);rw[Cw]at this;omega
     exact Holds.bC aB (by rw[aF,Cl]at n2;exact n2) (As _)
    | some l=>
     obtain⟨f,hO⟩:=I l rfl;rcases hO.2 P2.aJ.2.D.A4 (by rw[aA];simp) with hno|⟨_,hw⟩
     ·exact absurd rfl (hno _ (E8 hO.1))
     ·exact hw.cc
   refine⟨⟨d3.Gd aA hH,E,⟨nb,n1,n2,n3,λe=>?_⟩,λm H c z=>.inr (O m H c z),I,h.CO,h.Ee⟩,rfl,s4⟩;subst e;(have:(puts.drop nb).length=0:=by rw[<-n3];rfl);rw[Cw]at this;omega
  ·rw[Ai L];exact⟨⟨d2,r2⟩,λd=>absurd d L⟩
 ·rw[Ai W];exact⟨h.dN,λd=>absurd d W⟩
end
section
variable {bd:Int×Int} {P P':PD} {V V':View} {A:Ar} {ix:Ix} {sg cl:List (Int×List Pu)} {lo:Option (Int×List Pu)} {ol:Option (List Pu)} {puts:List Pu} {A8:Nat} {o:Int}
def SI.by(h:SI bd A P puts A8 o sg cl ol)(hL:CX bd P.fl A.ix sg cl (ol.map λl=>(A.j.Aa,l))):CY bd P.fl A.ix sg cl (ol.map λl=>(A.j.Aa,l)) puts A8 o:=by
 obtain⟨nb,n1,n2,n3,n4⟩:=h.Hq;refine⟨nb,hL,n1,n2,λn l e=>?_,λe=>?_⟩
 ·cases ol with
  | none=>cases e
  | some l0=>
   cases e;obtain⟨f,O⟩:=h.AB l rfl;rcases O.2 _ h.di.Cu with E|⟨_,ix',sg',cl',l',I,c,_,hnb,_,g1,g2,_,g4,g5⟩
   ·exact absurd rfl (E _ (E8 O.1))
   ·(have W:l=puts.drop nb:=by simpa using n3);obtain⟨c2,Y,e2⟩:=Im h.AX.AB.2.2.1;have H:c2=c:=by
     have z:P.fl (Ah A.j.Aa)=some c:=g1;rw[Y]at z;simpa using z
    subst H;have d:l.length=l'.length:=by
     have:=EK List.length (e2.symm.trans g2);rw[IZ,IZ]at this;omega
    have L:nb=I:=by
     rw[W,g5,Cw,Cw]at d;omega
    refine⟨c2,Y,?_,by rw[W,Cl]⟩;(have:ER c2 l=ER c2 l':=by unfold ER;rw[d]);rw[this,L];exact g4
 ·cases ol with
  | none=>exact n4 rfl
  | some l=>cases e
def SI.eX(h:SI bd A P puts A8 o sg cl ol):Cb o (Ax sg++Ax cl++EF (ol.map λl=>(A.j.Aa,l))) puts:=by
 have:=h.Cp;unfold B7 at this;cases ol<;>simpa[EF,List.append_assoc] using this
def CY.bC(h:CY bd V ix sg cl lo puts A8 o)(d:Cb o (Ax sg++Ax cl++EF lo) puts)(z:(Ax cl).length<=1099511627776):Whole bd V puts o:=⟨ix,sg,cl,lo,h.br,z,d⟩
def CY.segs{h:List (Int×List Pu)}(E:CX bd V ix h [] none)(z:Cb o (Ax h) puts)(d:A8<=puts.length):CY bd V ix h [] none puts A8 o:=
 ⟨puts.length,E,As _,by rw[Cl];simpa[Ax] using z,λn l e=>(by cases e),λ_=>d⟩
def SU:∀(fresh:List (List Pu)) (last:Int) (kept:List Int) {P:PD},DI bd P puts A8 o->0<=last->last+fresh.length<=4611686018427387904->last+fresh.length<=bd.2->(PD.ah fresh last kept P).1=0->
 (∀x∈BZ last fresh,∀c,(PD.ah fresh last kept P).2.2.2.fl (AJ x.1)=some c->C6 c)/\∀m,(∀x∈BZ last fresh,m≠AJ x.1)->(PD.ah fresh last kept P).2.2.2.fl m=P.fl m
 | [],last,kept,P,_,_,_,_,_=>⟨λx z=>(by cases z),λm _=>rfl⟩
 | l::r,last,kept,P,h,h0,h1,hb,hok=>by
  simp only[Cx]at h1 hb;have E:PD.ah (l::r) last kept P=if (P.aK (last+1) l).1≠0 then ((P.aK (last+1) l).1,last+1,kept,(P.aK (last+1) l).2) else PD.ah r (last+1) (kept++[last+1]) (P.aK (last+1) l).2:=rfl
  rw[E]at hok ⊢;by_cases I:(P.aK (last+1) l).1=0
  ·rw[Ae (nn I)]at hok ⊢;(have d:isNum (last+1)=true:=by unfold isNum;simp;omega);have hw:DI bd (P.aK (last+1) l).2 puts A8 o:=h.aI (.inr ⟨last+1,⟨d,by omega⟩,rfl⟩) _ _;obtain⟨i1,i2⟩:=SU r (last+1) (kept++[last+1]) hw (by omega) (by omega) (by omega) hok;obtain⟨e1,e2⟩:=JU P (AJ (last+1)) (AH (AJ (last+1))) (Cf l);obtain⟨e3,e4⟩:=e2 I;have O:∀x∈BZ (last+1) r,AJ (last+1)≠AJ x.1:=λx z e=>by
    have z:=GC z;have:=KT d (by unfold isNum;simp;omega) e;omega
   have Y:=Extra.fl h e1;refine⟨λx z c L=>?_,λm hm=>?_⟩
   ·rcases BQ.1 z with rfl|z
    ·rw[i2 _ O]at L;have:(P.aK (last+1) l).2.fl (AJ (last+1))=some ((P.aK (last+1) l).2.F P.D.AU):=by
      unfold PD.fl;have aA:lookup (P.aK (last+1) l).2.D.A4 (A9 (AJ (last+1)))=some P.D.AU:=e3;rw[aA];rfl
     rw[this]at L;cases L;exact e4
    ·exact i1 x z c L
   ·rw[i2 m λx z=>hm x (Bw _ z)];have W:=hm _ (BC ..);have H:(P.aK (last+1) l).2.fl=P.fl\/(P.fl (AJ (last+1))=none/\∀m,(P.aK (last+1) l).2.fl m=if m=AJ (last+1) then some ((P.aK (last+1) l).2.F P.D.AU) else P.fl m):=Y;rcases H with e|⟨_,e⟩
    ·rw[e]
    ·rw[e,Ae W]
  ·rw[Ai I]at hok;exact absurd hok I
def VW{nm:Bs}{s:Nat}{l:Bs}(d:(P.aI nm s l).1=0):((P.aI nm s l).2.F P.D.AU).1=AT s l:=by
 unfold PD.aI at d ⊢;obtain⟨c1,c2⟩:=JV P nm;by_cases H:(P.ak (A9 nm)).1=0
 ·rw[Ae (nn H)]at d ⊢;have L:=c2 H;by_cases E:((P.ak (A9 nm)).2.ad (A9 nm) s l).2.1=0
  ·rw[Ae (nn E)];(have O:(P.ak (A9 nm)).2.F P.D.AU=([],0):=by unfold PD.ak;simp[upd]);have W:=US (AT s l) L E;(have I:lookup ((P.ak (A9 nm)).2.an (A9 nm) (AT s l)).2.D.A4 (A9 nm)=some P.D.AU:=by rw[(Is (AT s l) L).1];exact L);have z:((P.ak (A9 nm)).2.ad (A9 nm) s l).2.2=((P.ak (A9 nm)).2.an (A9 nm) (AT s l)).2:=rfl;rw[z];obtain⟨_,_,_,h⟩:=ID I;rcases h with h|h
   ·rw[h,W];simp[upd,O]
   ·rw[h,W];simp[upd,O]
  ·rw[Ai E]at d;exact absurd d E
 ·rw[Ai H]at d;exact absurd d H
def DI.cU(h:DI bd P puts A8 o)(hT:CY bd P.fl ix sg cl lo puts A8 o)(hW:Cb o (Ax sg++Ax cl++EF lo) puts)(aD:(Ax cl).length<=1099511627776){d:Int}{z:List (Int×List Pu)}(W:Hz bd ⟨d,z.map (·.1)⟩ z)(aE:∀x∈z,((∀p∈x.2,Bh p)/\Cz Co x.2=true)/\∃c,P.fl (AJ x.1)=some c/\C6 c/\c.1=AT (AH (AJ x.1)) (Cf x.2))(aA:∀n,isNum n=true->d<=n->P.fl (Ah n)=none)(hs:Cb o (Ax z) puts)(O:A8<=puts.length):
 DI bd (P.ag d (z.map (·.1))).2 puts A8 o/\Reads bd (P.ag d (z.map (·.1))).2 puts o/\((P.ag d (z.map (·.1))).1=0->CY bd (P.ag d (z.map (·.1))).2.fl ⟨d,z.map (·.1)⟩ z [] none puts A8 o):=by
 obtain⟨e1,e2⟩:=JU P Bo (AH AL) (Ci d (z.map (·.1)));have d1:DI bd (P.aI Bo (AH AL) (Ci d (z.map (·.1)))).2 puts A8 o:=h.aI (.inl rfl) _ _;have t1:=hT.eh h e1 (.inl rfl);have aB:=Extra.fl h e1;unfold PD.ag;by_cases h1:(P.aI Bo (AH AL) (Ci d (z.map (·.1)))).1=0
 ·rw[Ae (nn h1)];obtain⟨e3,e4⟩:=e2 h1;have I:=VW h1;obtain⟨E,Y⟩:∃E,(P.aI Bo (AH AL) (Ci d (z.map (·.1)))).2=E:=⟨_,rfl⟩;rw[Y]at I;rw[Y]at d1 t1 e3 e4 aB ⊢;have hV:CX bd (λm=>if m=AL then some (E.F P.D.AU) else if m=Bo then none else E.fl m) ⟨d,z.map (·.1)⟩ z [] none:=by
   have H:∀m,m≠Bo->E.fl m=P.fl m:=λm hm=>by
    rcases aB with e|⟨_,e⟩
    ·rw[e]
    ·rw[e,Ae hm]
   refine CX.fB (V:=E.fl) W ⟨e4,I⟩ (λx hx=>?_) (λn k1 k2=>?_) t1.br.Ek t1.br.DZ λ_=>rfl
   ·rw[H _ (M3 _)];exact aE x hx
   ·rw[H _ (L1 _)];exact aA n k1 k2
  have hB:=CY.segs (A8:=A8) hV hs O;have d2:=d1.e1 e3 hB.cc;obtain⟨a1,a2,a3⟩:=RD (nw:=AL) d1.bh e3;have aF:=(t1.bC hW aD).bw;rcases a3 with⟨b1,b2,b3⟩|⟨b1,b2⟩
  ·refine⟨d2,aF.ay (My (by unfold PD.fl;rw[b1,a1])),λL=>absurd L b3⟩
  ·have hf:(E.aO (A9 Bo) (A9 AL)).2.fl=λm=>if m=AL then some (E.F P.D.AU) else if m=Bo then none else E.fl m:=by
    funext m
    (have:(E.aO (A9 Bo) (A9 AL)).2.fl m=vw E.F ((E.D.A4.filter λe=>decide (e.1≠A9 Bo/\e.1≠A9 AL))++[(A9 AL,P.D.AU)]) m:=by unfold PD.fl vw;rw[b1,a1]);rw[this,Qw J4.symm];rfl
   rw[<-hf]at hB;exact⟨d2,(hB.bC (by simpa[Ax,EF] using hs) (by simp[Ax])).bw,λ_=>hB⟩
 ·rw[Ai h1];exact⟨d1,(t1.bC hW aD).bw,λL=>absurd L h1⟩
end
section
variable {bd:Int×Int} {P P':PD} {A:Ar} {ix:Ix} {sg cl:List (Int×List Pu)} {lo:Option (Int×List Pu)} {ol:Option (List Pu)} {puts:List Pu} {A8:Nat} {o:Int}
def Ym(h:G5 P)(x m:Bs):(P.aH (A9 x)).2.fl m=none\/(P.aH (A9 x)).2.fl m=P.fl m:=by
 obtain⟨d,_,z⟩:=RJ h (A9 x);rcases z with⟨d1,_,_⟩|⟨d1,_⟩
 ·exact .inr (by unfold PD.fl;rw[d1,d])
 ·have:(P.aH (A9 x)).2.fl m=vw P.F (P.D.A4.filter λe=>decide (e.1≠A9 x)) m:=by unfold PD.fl vw;rw[d1,d]
  rw[this,Qx];by_cases e:m=x
  ·exact .inl (by rw[Ai e])
  ·exact .inr (by rw[Ae e];rfl)
def RK:∀(l:List Bs) {P:PD},DI bd P puts A8 o->CY bd P.fl ix sg cl lo puts A8 o->(∀m∈l,¬Ko ix sg m)->∀m,(PD.aL l P).2.fl m=none\/(PD.aL l P).2.fl m=P.fl m
 | [],P,_,_,_,m=>.inr rfl
 | x::r,P,h,hT,hm,m=>by
  obtain⟨H,E⟩:=h.ei hT (hm x (BC ..));have d:=Ym h.bh x m;unfold PD.aL;split
  ·exact d
  ·rcases RK r H E (λy z=>hm y (Bw _ z)) m with e|e
   ·exact .inl e
   ·rw[e];exact d
def Z8(L:CY bd P.fl A.ix sg cl lo puts A8 o)(E:A.j.Am=cl.map (·.1)++(lo.map (·.1)).toList)(d:sg.map (·.1)=A.ix.segs):∀m∈A.aV P,¬Ko A.ix sg m:=λm h W=>by
 obtain⟨O,I⟩:=IN.1 h;refine I ?_;unfold Ar.Ay;rcases W with rfl|⟨x,Y,rfl⟩|⟨n,hn,z,rfl⟩
 ·simp
 ·refine Hd _ (DV ?_);rw[<-d];exact DV Y
 ·refine FN _ (Bw _ (DV ?_));rw[E];refine L.br.Cp n hn z λH=>O ?_;unfold PD.bs;rw[H];rfl
def SI.aG(h:SI bd A P puts A8 o sg cl ol)(H:List (Int×List Pu))(fresh:List (List Pu))(aG:∀x∈H,x∈sg)(aD:(H.map (·.1)).Pairwise (· < ·))(hf:∀l∈fresh,(∀p∈l,Bh p)/\Cz Co l=true)(hn:isNum (A.j.Aa+1)=true)(aB:A.Aa+fresh.length<=4611686018427387904)(a3:∀l∈fresh,l≠[])(aM:A.Aa+fresh.length<=bd.2)(hs:Cb o (Ax (H++BZ A.Aa fresh)) puts)(hbig:A.AQ.length+P.Ay.length+Dk fresh+fresh.length+A.j.Am.length+sg.length+H.length<=1099511627776):
 (DI bd (A.aG P (H.map (·.1)) fresh).2.2 puts A8 o/\Reads bd (A.aG P (H.map (·.1)) fresh).2.2 puts o)/\
  ((A.aG P (H.map (·.1)) fresh).1=0->SI bd (A.aG P (H.map (·.1)) fresh).2.1 (A.aG P (H.map (·.1)) fresh).2.2 puts puts.length o (H++BZ A.Aa fresh) [] none/\
    (A.aG P (H.map (·.1)) fresh).2.1=⟨⟨A.j.Aa+1,(H++BZ A.Aa fresh).map (·.1)⟩,⟨[],A.j.Aa,0,none⟩,A.Aa+fresh.length,[]⟩/\
    (∀m,(A.aG P (H.map (·.1)) fresh).2.2.bs m≠none->m∈AL::(H++BZ A.Aa fresh).map λx=>AJ x.1)/\(A.aG P (H.map (·.1)) fresh).2.2.D.Av=[]):=by
 have a1:P.aR.dl=P.Ay.length:=by rw[Ho];rfl
 have W:(A.aG P (H.map (·.1)) fresh).1=0->(A.aG P (H.map (·.1)) fresh).2.1=⟨⟨A.j.Aa+1,(H++BZ A.Aa fresh).map (·.1)⟩,⟨[],A.j.Aa,0,none⟩,A.Aa+fresh.length,[]⟩/\
  Lay (A.aG P (H.map (·.1)) fresh).2.2 (A.aG P (H.map (·.1)) fresh).2.1 (H++BZ A.Aa fresh) [] none/\∀m,(A.aG P (H.map (·.1)) fresh).2.2.bs m≠none->m∈AL::(H++BZ A.Aa fresh).map λx=>AJ x.1:=λz=>by
  obtain⟨r1,r2,r3,r4⟩:=(AK.aR P).aG (A:=A) (N:=0) (R:=0) (H.map (·.1)) fresh (h.di.bh.aR.aa (by rw[a1];omega) (by simp;omega)) z;obtain⟨q1,q2,q3,q4,q5⟩:=(h.AX.ay (P':=P.aR) λm=>((AK.aR P).bs m).symm).aG (N:=0) (R:=0) (K:=P.Ay.length) H fresh (h.di.bh.aR.aa (by omega) (by omega)) (by rw[Ho,a1];exact As _) aG aD hf hn aB;refine⟨by rw[r2,q2],by rw[r2];exact q4.ay λm=>r3.bs m,λm hm=>q5 m (by rw[<-r3.bs];exact hm)⟩
 obtain⟨O,aH⟩:∃O,H++BZ A.Aa fresh=O:=⟨_,rfl⟩;have aO:O.map (·.1)=H.map (·.1)++(BZ A.Aa fresh).map (·.1):=by rw[<-aH,Eg]
 have aN:∀x∈O,x.2≠[]:=λx E=>by
  rw[<-aH]at E;rcases AV.1 E with E|E
  ·exact h.Ee.1.2.2 x (aG x E)
  ·exact a3 _ (GC E).2.2
 rw[aH]at hs W ⊢;have key:∃t:Int×Ar×PD,A.aG P (H.map (·.1)) fresh=t/\(DI bd t.2.2 puts A8 o/\Reads bd t.2.2 puts o)/\(t.1=0->t.2.2.D.Av=[]/\Bx t.2.2=[t.2.2.D.A4]/\∃a2 L,CY bd t.2.2.fl a2 L [] none puts A8 o/\L.map (·.1)=O.map (·.1)/\Cb o (Ax L) puts):=by
  unfold Ar.aG;dsimp only
  by_cases h1:(A.C P).1=0
  ·rw[Ae (nn h1)];obtain⟨hS,hL⟩:=h.df h1;have hA:(A.C P).2.1 = {A with AQ:=[]}:=by
    unfold Ar.C at h1 ⊢;split at h1
    ·rename_i h2;exact absurd h1 h2
    ·rename_i h2;rw[Ae h2]
   have aE:=NX A P;rw[hA];generalize (A.C P).2.2=P1 at hS hL aE;(have aW:=hS.by hL);have hall:=h.eX;have hj:({A with AQ:=[]}:Ar).j.Am=cl.map (·.1)++(Option.map (·.1) (ol.map λl=>(A.j.Aa,l))).toList:=by
    dsimp only
    rw[h.AX.bS];cases ol<;>simp[shut]
   have a4:=Z8 (A:={A with AQ:=[]}) aW hj h.AX.segs;obtain⟨d2,t2⟩:=hS.di.av (A:={A with AQ:=[]}) aW hj h.AX.segs;have aA:∀m,(({A with AQ:=[]}:Ar).av P1).2.fl m=none\/(({A with AQ:=[]}:Ar).av P1).2.fl m=P1.fl m:=RK _ hS.di aW a4;generalize hP2:({A with AQ:=[]}:Ar).av P1=SW at d2 t2 aA ⊢;obtain⟨c2,P2⟩:=SW;dsimp only at d2 t2 aA ⊢;have r2:Reads bd P2 puts o:=(t2.bC hall h.CO).bw;by_cases h2:c2=0
   ·rw[Ae (nn h2)];have h0:=h.AX.Ev.1;have d3:=DI.ah fresh A.Aa (H.map (·.1)) d2 h0 aB aM;have t3:=CY.ah fresh A.Aa (H.map (·.1)) d2 t2 h0 aB aM;have Y:=SU fresh A.Aa (H.map (·.1)) d2 h0 aB aM;have aQ:∀n,isNum n=true->A.Aa<n->P2.bs (AJ n)=none:=λn k1 k2=>by
     rcases aA (AJ n) with e|e
     ·unfold PD.bs;rw[e];rfl
     ·(have:P2.bs (AJ n)=P.bs (AJ n):=by unfold PD.bs;rw[e];have:=aE (AJ n);unfold PD.bs at this;exact this);rw[this];cases E:P.bs (AJ n) with
      | none=>rfl
      | some c=>have:=h.AX.Ev.2 n k1 (by rw[E];simp);omega
    have aF:=λz=>AK.ah (N:=0) (R:=0) fresh A.Aa (H.map (·.1)) (AK.aR P2) (d2.bh.aR.aa (by omega) (by omega)) z;obtain⟨w1,w2,w3,w4,w5,w6⟩:=Cm.ah (N:=0) (R:=0) fresh A.Aa (H.map (·.1)) (d2.bh.aR.aa (by omega) (by omega)) h0 aB (λn k1 k2=>by rw[<- (AK.aR P2).bs];exact aQ n k1 k2);generalize hP3:PD.ah fresh A.Aa (H.map (·.1)) P2=NS at d3 t3 Y aF ⊢;obtain⟨c3,aP,aT,a0⟩:=NS;dsimp only at d3 t3 Y aF ⊢;have r3:=(t3.bC hall h.CO).bw;by_cases h3:c3=0
    ·rw[Ae (nn h3)];obtain⟨x1,x2,x3,x4,_⟩:=aF h3;obtain⟨y1,y2⟩:=Y h3;(have aI:aP=A.Aa+fresh.length:=by rw[x2,w2]);(have aJ:aT=O.map (·.1):=by rw[x3,w3,aO]);rw[aI,aJ];have aX:∀x∈O,isNum x.1=true:=λx E=>by
      rw[<-aH]at E;rcases AV.1 E with E|E
      ·exact h.AX.cV (aG x E)
      ·have:=GC E;unfold isNum;simp;omega
     have aK:(O.map (·.1)).Pairwise (· < ·):=by
      rw[aO];refine Es.2 ⟨aD,OB,λa ha b hb=>?_⟩;obtain⟨x,E,rfl⟩:=Cr.1 ha;obtain⟨y,hy,rfl⟩:=Cr.1 hb;have k1:=h.AX.cZ (aG x E);have k2:=GC hy;omega
     have aV:Hz bd ⟨A.j.Aa+1,O.map (·.1)⟩ O:=⟨⟨hn,λn hm=>by obtain⟨x,E,rfl⟩:=Cr.1 hm;exact aX x E,IJ.2 aK⟩,by have:=h.Ee.2.1;dsimp only;omega,aN⟩;have aR:∀x∈O,((∀p∈x.2,Bh p)/\Cz Co x.2=true)/\∃c,a0.fl (AJ x.1)=some c/\C6 c/\c.1=AT (AH (AJ x.1)) (Cf x.2):=λx E=>by
      rw[<-aH]at E;rcases AV.1 E with E|E
      ·exact t3.br.Cy x (aG x E)
      ·refine⟨hf _ (GC E).2.2,?_⟩;(have hb:a0.bs (AJ x.1)=some (AT (AH (AJ x.1)) (Cf x.2)):=by rw[x4.bs];exact w5 x E);obtain⟨c,k1,k2⟩:=Im hb;exact⟨c,k1,y1 x E c k1,k2⟩
     have aU:∀n,isNum n=true->A.j.Aa+1<=n->a0.fl (Ah n)=none:=λn k1 k2=>by
      rw[y2 _ λx _=>G1 n x.1];rcases aA (Ah n) with e|e
      ·exact e
      ·rw[e];refine Iq.1 ?_;rw[aE];cases E:P.bs (Ah n) with
       | none=>rfl
       | some c=>have:=h.AX.EG.2.2 n k1 (by rw[E];simp);omega
     have aS:∃aZ,∃c4,∃aL:Ar,(({A with AQ:=[],Aa:=A.Aa+fresh.length}:Ar).ag a0 (O.map (·.1)))=(c4,aL,aZ)/\DI bd aZ puts A8 o/\Reads bd aZ puts o/\(c4=0->aL.j.Am=[]/\∃L,CY bd aZ.fl aL.ix L [] none puts A8 o/\L.map (·.1)=aL.ix.segs/\aL.ix.segs=O.map (·.1)/\Cb o (Ax L) puts):=by
      unfold Ar.ag;dsimp only
      by_cases I:A.ix.B8=A.j.Aa+1/\A.ix.segs=O.map (·.1)
      ·rw[Ai I];have aY:cl=[]:=by
        cases aY:cl with
        | nil=>rfl
        | cons x r=>
         (have E:x∈cl:=by rw[aY];exact BC ..);have k1:=h.AX.EI.1 x E;have k2:=(h.AX.CW x E).1.2;have:=I.1;omega
       have a5:ol=none:=by
        cases ol with
        | none=>rfl
        | some l=>have:=h.AX.EI.2 (by simp);have:=I.1;omega
       subst aY a5;refine⟨a0,0,_,rfl,d3,r3,λ_=>⟨?_,sg,t3,h.AX.segs,I.2,?_⟩⟩
       ·have:=h.AX.AB.2;simpa using this
       ·simpa[Ax,EF] using hall
      ·rw[Ae I];obtain⟨u1,u2,u3⟩:=d3.cU t3 hall h.CO aV aR aU hs h.dJ;by_cases h4:(a0.ag (A.j.Aa+1) (O.map (·.1))).1=0
       ·rw[Ae (nn h4)];exact⟨_,_,_,rfl,u1,u2,λ_=>⟨rfl,O,u3 h4,rfl,rfl,hs⟩⟩
       ·rw[Ai h4];exact⟨_,_,_,rfl,u1,u2,λz=>absurd z h4⟩
     obtain⟨aZ,c4,aL,e4,d4,r4,k4⟩:=aS;rw[e4];dsimp only
     by_cases h4:c4=0
     ·rw[Ae (nn h4)];obtain⟨j1,L,j2,j3,j4,j5⟩:=k4 h4;obtain⟨d5,t5⟩:=d4.av (A:=aL) j2 (by rw[j1];rfl) j3;unfold Ar.aZ;generalize hP5:aL.av aZ=S5 at d5 t5 ⊢;obtain⟨c5,a6⟩:=S5;dsimp only at d5 t5 ⊢;have r5:=(t5.bC (by simpa[Ax,EF] using j5) (by simp[Ax])).bw;by_cases h5:c5=0
      ·rw[Ae (nn h5)];refine⟨_,rfl,⟨d5.ep,r5.ay (My (IE a6))⟩,λz=>?_⟩;obtain⟨s1,s2,s3,s4⟩:=QM z;refine⟨s4,by dsimp only;rw[s1,s2],aL.ix,L,?_,by rw[j3,j4],j5⟩;dsimp only
       rw[IE];exact t5
      ·rw[Ai h5];exact⟨_,rfl,⟨d5,r5⟩,λz=>absurd z h5⟩
     ·rw[Ai h4];exact⟨_,rfl,⟨d4,r4⟩,λz=>absurd z h4⟩
    ·rw[Ai h3];exact⟨_,rfl,⟨d3,r3⟩,λz=>absurd z h3⟩
   ·rw[Ai h2];exact⟨_,rfl,⟨d2,r2⟩,λz=>absurd z h2⟩
  ·rw[Ai h1];exact⟨_,rfl,h.dN,λz=>absurd z h1⟩
 obtain⟨t,ht,k1,k2⟩:=key;rw[ht]at W ⊢;refine⟨k1,λz=>?_⟩;obtain⟨g1,g2,g3⟩:=W z;obtain⟨m1,m2,a2,L,m3,m4,m5⟩:=k2 z;refine⟨⟨k1.1.Gd m2 (Holds.bC m3.br (by simpa[Ax] using m5) (As _)),g2,⟨puts.length,As _,by rw[Cl];simpa[Ax] using hs,by simp,λ_=>As _⟩,λm hm c hc=>.inr ?_,λl e=>(by cases e),by simp[Ax],⟨g2.DG,by rw[g1];have:=h.Ee.2.1;dsimp only;omega,aN⟩,by rw[g1];exact h.Ee.2.1,by rw[g1];exact aM⟩,g1,g3,m1⟩;rcases hm with rfl|⟨x,E,rfl⟩|⟨x,E,_⟩
 ·rcases m3.br.Ik with⟨q1,_⟩|⟨d,q1,q2,_⟩
  ·rw[q1]at hc;cases hc
  ·rw[q1]at hc;cases hc;exact q2
 ·have:x.1∈L.map (·.1):=by rw[m4];exact DV E
  obtain⟨y,hy,e⟩:=Cr.1 this;obtain⟨_,d,q1,q2,_⟩:=m3.br.Cy y hy;rw[e]at q1;rw[q1]at hc;cases hc;exact q2
 ·cases E
end
section
variable {bd:Int×Int} {P P':PD} {A:Ar} {ix:Ix} {sg cl:List (Int×List Pu)} {lo:Option (Int×List Pu)} {ol:Option (List Pu)} {puts:List Pu} {A8:Nat} {o:Int} {Al:Int}
def SI.aS(h:SI bd A P puts A8 o sg cl ol)(hw:BU (AA Al))(hn:isNum (A.j.Aa+1)=true){n:Nat}(hcount:(B7 sg cl ol).length<=n)(hn2:n<=1073741824)(hln:A.Aa+n<=4611686018427387904)(hlb:A.Aa+n<=bd.2)(hbig:A.AQ.length+P.Ay.length+A.j.Am.length+2*sg.length<=1073741824):
 (DI bd (A.aS P Al).2.2 puts A8 o/\Reads bd (A.aS P Al).2.2 puts o)/\
  ((A.aS P Al).1=0->∃z,SI bd (A.aS P Al).2.1 (A.aS P Al).2.2 puts puts.length o z [] none/\(A.aS P Al).2.1=⟨⟨A.j.Aa+1,z.map (·.1)⟩,⟨[],A.j.Aa,0,none⟩,(A.aS P Al).2.1.Aa,[]⟩/\(A.aS P Al).2.1.Aa<=A.Aa+n/\(Ax z).length<=n/\z.length<=sg.length+n/\
    (∀m,(A.aS P Al).2.2.bs m≠none->m∈AL::z.map λx=>AJ x.1)/\(A.aS P Al).2.2.D.Av=[]):=by
 have O:(B7 sg cl ol).length=(Ax sg).length+(Ax cl++ol.getD []).length:=by unfold B7;rw[B1]
 have E:=h.AX.puts h.CO;have d:=Hn hw (Ax cl++ol.getD []);generalize L:BA Al (Ax cl++ol.getD [])=fresh at d;have hfl:=H9 d.ne;have hfl2:=d.B5;have hcost:=Jz fresh;have e:A.aS P Al=A.aG P (sg.map (·.1)) fresh:=by
  unfold Ar.aS;rw[E,Ae (by simp),L,h.AX.segs]
 have H:Ax (sg++BZ A.Aa fresh)=Ax sg++fresh.flatten:=by
  have:=@KR fresh A.Aa;unfold Ax at this ⊢;rw[VC,this]
 have I:Cb o (Ax (sg++BZ A.Aa fresh)) puts:=by
  rw[H];refine Cb.Aw (Cb.eI (λk t _=>?_) (λp E=>?_) ?_) h.Cp
  ·unfold B7;rw[GD,GD,d.Aa]
  ·rcases AV.1 E with E|E
   ·exact FN _ E
   ·exact Hd _ (d.DF p E)
  ·rw[O,B1];omega
 obtain⟨r1,r2⟩:=h.aG sg fresh (λ_ h=>h) (IJ.1 (by rw[h.AX.segs];exact h.AX.DG.EN)) (λl Y=>⟨λp E=>h.AX.bZ p (d.DF p (Nf.2 ⟨l,Y,E⟩)),d.EN Y⟩) hn (by omega) d.ne (by omega) I (by omega);rw[e];refine⟨r1,λW=>?_⟩;obtain⟨q1,q2,q3,q4⟩:=r2 W;refine⟨_,q1,by rw[q2],by rw[q2];dsimp only;omega,by rw[H,B1];omega,by rw[B1,Mk];omega,q3,q4⟩
def SI.aQ(h:SI bd A P puts A8 o sg cl ol)(hw:BU (AA Al))(hn:isNum (A.j.Aa+1)=true){n:Nat}(hcount:(B7 sg cl ol).length<=n)(hn2:n<=1073741824)(hln:A.Aa+n<=4611686018427387904)(hlb:A.Aa+n<=bd.2)(hbig:A.AQ.length+P.Ay.length+A.j.Am.length+2*sg.length<=1073741824):
 (DI bd (A.aQ P Al o).2.2 puts A8 o/\Reads bd (A.aQ P Al o).2.2 puts o)/\
  ((A.aQ P Al o).1=0->∃aB,SI bd (A.aQ P Al o).2.1 (A.aQ P Al o).2.2 puts puts.length o aB [] none/\(A.aQ P Al o).2.1=⟨⟨A.j.Aa+1,aB.map (·.1)⟩,⟨[],A.j.Aa,0,none⟩,(A.aQ P Al o).2.1.Aa,[]⟩/\(A.aQ P Al o).2.1.Aa<=A.Aa+n/\
    (aB.map (·.2)).Perm (DR o (BA Al (B7 sg cl ol)))/\(∀m,(A.aQ P Al o).2.2.bs m≠none->m∈AL::aB.map λx=>AJ x.1)/\(A.aQ P Al o).2.2.D.Av=[]):=by
 have hl0:(B7 sg cl ol).length=(Ax sg).length+(Ax cl++ol.getD []).length:=by unfold B7;rw[B1]
 have I:=h.AX.puts h.CO;have d:=Hn hw (B7 sg cl ol);obtain⟨ws,aH⟩:∃ws,BA Al (B7 sg cl ol)=ws:=⟨_,rfl⟩;rw[aH]at d;obtain⟨k0,aG⟩:∃k0,Gf sg o ws=k0:=⟨_,rfl⟩;obtain⟨fresh,aI⟩:∃fresh,(BL sg o ws).2=fresh:=⟨_,rfl⟩;have z:=JM sg o ws;rw[aG,aI]at z;obtain⟨E,aJ⟩:∃E,k0.mergeSort (λx y=>decide (x.1<=y.1))=E:=⟨_,rfl⟩;have aA:E.Perm k0:=by rw[<-aJ];exact A4g _ _
 have aS:E.map (·.1)=((BL sg o ws).1).mergeSort λx y=>decide (x<=y):=by
  rw[JN,aG,<-aJ,A4l (s:=λx y:Int=>decide (x<=y))];intro a _ b _;rfl
 have L:∀x∈E,x∈sg/\x.2∈ws:=λx hx=>L3 (by rw[aG];exact aA.mem_iff.1 hx);have aP:(DR o ws).Nodup:=by
  have h1:(DR o ws).Pairwise λw w'=>∀p∈w,∀q∈w',BD p.2.1 Al<BD q.2.1 Al:=d.Lk.sublist GZ;have O:∀w∈DR o ws,w≠[]:=λw hw=>d.ne w (V5 hw);clear z;generalize DR o ws=v at h1 O
  induction v with
  | nil=>simp
  | cons w r ih=>
   have aO:=Dc.1 h1;refine Kf.2 ⟨λhm=>?_,ih aO.2 λx hx=>O x (Bw _ hx)⟩;obtain⟨p,I⟩:=A4t w (O w (BC ..));have:=aO.1 w hm p I p I;omega
 have aN:(E.map (·.2)).Nodup:=by
  have h1:(k0.map (·.2)++fresh).Nodup:=z.nodup_iff.2 aP;have O:=(GI.1 h1).1;exact(aA.map (·.2)).nodup_iff.2 O
 have aL:(sg.map (·.1)).Pairwise (· < ·):=IJ.1 (by rw[h.AX.segs];exact h.AX.DG.EN);have aE:∀x∈sg,∀y∈sg,x.1=y.1->x=y:=λx hx y hy e=>by
  obtain⟨i,hi,rfl⟩:=DW hx;obtain⟨j,hj,rfl⟩:=DW hy;have I:=Ke.1 aL;rcases PX i j with W|W|W
  ·have:=I i j (by simpa using hi) (by simpa using hj) W;simp at this;omega
  ·subst W;rfl
  ·have:=I j i (by simpa using hj) (by simpa using hi) W;simp at this;omega
 have Y:(E.map (·.1)).Pairwise (· < ·):=by
  have h1:E.Pairwise λx y=>x.1<=y.1:=by
   have:=Vu (le:=λx y:Int×List Pu=>decide (x.1<=y.1)) (λa b c h1 O=>by simp at *;omega) (λa b=>by simp;omega) k0;rw[aJ]at this;(exact this.imp λh=>by simpa using h)
  have O:E.Pairwise λx y=>x.2≠y.2:=LA.1 aN;rw[LA];have h3:=h1.and O;refine A4x (λ{a b} ha hb aM=>?_) h3;rcases A4B aM.1 with h|h
  ·exact h
  ·exact absurd (EK Prod.snd (aE a (L a ha).1 b (L b hb).1 h)) aM.2
 have aD:∀l∈fresh,l∈ws:=λl hl=>J3 (by rw[aI];exact hl);have H:(Ax E++fresh.flatten).Perm (DR o ws).flatten:=by
  have h1:(E.map (·.2)++fresh).Perm (DR o ws):=((aA.map (·.2)).append_right _).trans z;have O:=h1.flatten;rw[Vz]at O;have e:(E.map (·.2)).flatten=Ax E:=by unfold Ax;rw[VA]
  rwa [e]at O
 have hfl:fresh.length<=fresh.flatten.length:=H9 λw hw=>d.ne w (aD w hw);have hcnt:fresh.flatten.length<=n:=by
  have h1:=H.length_eq;have O:(DR o ws).flatten.length<=ws.flatten.length:=(JT _ ws).length_le;have h3:=d.B5;rw[B1]at h1;omega
 have hkl:E.length<=sg.length:=by
  have:(E.map (·.1)).length<=(sg.map (·.1)).length:=IS (Y.imp λh=>VP h) λx hx=>by
   obtain⟨y,hy,rfl⟩:=Cr.1 hx;exact DV (L y hy).1
  simpa using this
 have hcost:=Jz fresh;have aF:∀p∈B7 sg cl ol,Bh p:=λp I=>by
  rcases AV.1 I with I|I
  ·exact h.AX.cT p I
  ·exact h.AX.bZ p I
 have e:A.aQ P Al o=A.aG P (E.map (·.1)) fresh:=by
  unfold Ar.aQ;rw[h.AX.b8];dsimp only
  have e2:sg.flatMap (·.2)++(P.puts A.j.Am).1=B7 sg cl ol:=by rw[I];rfl
  rw[e2,aH,<-aS,aI,I,Ae (by simp)]
 have aQ:Ax (E++BZ A.Aa fresh)=Ax E++fresh.flatten:=by
  have:=@KR fresh A.Aa;unfold Ax at this ⊢;rw[VC,this]
 have aR:Cb o (Ax (E++BZ A.Aa fresh)) puts:=by
  rw[aQ];refine Cb.Aw (Cb.eI (λk t ht=>?_) (λp I=>?_) ?_) h.Cp
  ·rw[<- (d.dT o).eg H.symm k t,Tv d o k t ht]
  ·exact d.DF p ((JT _ ws).subset (H.mem_iff.1 I))
  ·rw[H.length_eq];exact AR (JT _ ws).length_le d.B5
 obtain⟨r1,r2⟩:=h.aG E fresh (λx hx=>(L x hx).1) Y (λl hl=>⟨λp I=>aF p (d.DF p (Nf.2 ⟨l,aD l hl,I⟩)),d.EN (aD l hl)⟩) hn (by omega) (λl hl=>d.ne l (aD l hl)) (by omega) aR (by omega);have aK:(BZ A.Aa fresh).map (·.2)=fresh:=by
  have aT:∀(l:List (List Pu)) (a:Int),(BZ a l).map (·.2)=l:=by
   intro l
   induction l with
   | nil=>intro a;rfl
   | cons x r ih=>intro a;simp[BZ,ih]
  exact aT _ _
 rw[e,aH];refine⟨r1,λaF=>?_⟩;obtain⟨q1,q2,q3,q4⟩:=r2 aF;refine⟨_,q1,by rw[q2],by rw[q2];dsimp only;omega,?_,q3,q4⟩;rw[Eg,aK];exact((aA.map (·.2)).append_right _).trans z
def Zq{l:List Pu}(h:Ar.aU P=.ok (A,l)):A.j.Aa=(BS A.ix.B8 P.Ay).getLastD (A.ix.B8-1)/\A.Aa=(P.Ay.filterMap λnm=>if (Bg nm).1=2 then some (Bg nm).2 else none).getLastD 0/\A.j.AB=none:=by
 unfold Ar.aU at h;split at h
 ·cases h
 ·split at h
  ·cases h
  ·split at h
   ·cases h
   ·split at h
    ·cases h
    ·cases h;exact⟨rfl,rfl,rfl⟩
def U5{l:List Int}{d b:Int}(h:∀x∈l,x<=b)(z:d<=b):l.getLastD d<=b:=by
 rcases LI l with rfl|⟨r,x,rfl⟩
 ·exact z
 ·have e:(r.concat x).getLastD d=x:=by rw[Kh];simp
  rw[e];exact h x (by simp)
def DI.e4(h:DI bd P puts A8 o)(O:0<=bd.2){l:List Pu}(H:Ar.aU P=.ok (A,l))(hx:A.ix.B8<=bd.1+1):A.j.Aa<=bd.1/\A.Aa<=bd.2:=by
 obtain⟨L,I,_⟩:=Zq H;have E:∀nm∈P.Ay,F8 bd nm:=λnm z=>h.Ay nm λe=>H5.1 z (Iq.2 e);rw[L,I];refine⟨U5 (λx z=>?_) (by omega),U5 (λx z=>?_) O⟩
 ·unfold BS at z;obtain⟨nm,d,e⟩:=LD.1 z;split at e
  ·rename_i q;cases e;exact(E nm d).2.1 q.1
  ·cases e
 ·obtain⟨nm,d,e⟩:=LD.1 z;split at e
  ·rename_i q;cases e;exact(E nm d).2.2 q
  ·cases e
def AK.aU{P Q:PD}(h:AK P Q):Ar.aU P=Ar.aU Q:=by
 unfold Ar.aU PD.a8 PD.bQ Ar.aY;simp only[h.a1,h.Ay,h.segs,h.puts]
def SI.aU(L:DI bd P puts A8 o)(h0:0<=bd.2)(hr:Reads bd P puts o)(E:A8<=puts.length)(hpl:puts.length<=1099511627776):
 ∃A' sg cl,Ar.aU P=.ok (A',B7 sg cl none)/\SI bd A' P puts A8 o sg cl none/\Cb o (B7 sg cl none) puts/\A'.AQ=A'.aY P:=by
 obtain⟨A,sg,cl,ol,hL,hs,H⟩:=hr;have h:=hs.2.2;unfold B7 at h;rw[B1,B1]at h;have W:(Ax cl).length+(ol.getD []).length<=1099511627776:=by omega
 have aA:=hL.ay λm=>((AK.aR P).bs m).symm
 obtain⟨A',h1,h2,h3,h4,h5,h6⟩:=aA.aU L.bh.aR (by omega);have d:=(AK.aR P).aU;have hc:A'.aY P.aR=A'.aY P:=rfl;have z:=h2.ay λm=>(AK.aR P).bs m
 have hall:B7 sg (shut cl A.j.Aa ol) none=B7 sg cl ol:=by unfold B7;rw[NT];simp
 have I:Cb o (B7 sg (shut cl A.j.Aa ol) none) puts:=by rw[hall];exact hs
 refine⟨A',sg,_,by rw[d,hall];exact h1,⟨L,z,⟨puts.length,As _,by rw[Cl];simpa[B7] using I,by simp,λ_=>E⟩,λm hm c O=>.inl ?_,λl e=>(by cases e),by rw[NT,B1];exact W,by rw[h3];exact H,L.e4 h0 (by rw[d];exact h1) (by rw[h3];exact H.2.1)⟩,I,by rw[h6,hc]⟩;rw[h6,hc];unfold Ar.aY;refine GX.2 ⟨H5.2 (by rw[PH O];simp),?_⟩;simp only[Dn];unfold Ar.Ay;rcases hm with rfl|⟨x,Y,rfl⟩|⟨x,Y,rfl⟩
 ·simp
 ·refine Hd _ (DV ?_);rw[<-z.segs];exact DV Y
 ·refine FN _ (Bw _ (DV ?_));rw[z.AB.2];exact DV Y
end
def DA(a b:Int):Prop:=a=5\/a=6\/a=b
section
variable {P Q:PD} {N R:Nat} {A:Ar} {J:Jn}
def SA{nm:ByteArray}(h:AK P Q)(z:Cm Q (N+1) R):DA (P.ak nm).1 (Q.ak nm).1:=by
 have:=Gp P.D.n;unfold PD.ak CT;rw[h.A4];by_cases d:nm=ByteArray.empty\/B4 Q.D.A4 nm≥0
 ·rw[Ai d,Ai d];exact .inr (.inr rfl)
 ·rw[Ae d,Ae d];dsimp only
  rw[z.bg];rcases this with e|e
  ·exact .inr (.inr e)
  ·exact .inl e
def Ov{nm:ByteArray}(h:AK P Q)(d:Cm Q (N+1) R):DA (P.ae nm).1 (Q.ae nm).1:=by
 have:=Gp P.D.n;unfold PD.ae CG;rw[h.A4];cases lookup Q.D.A4 nm with
 | none=>exact .inr (.inr rfl)
 | some f=>
  dsimp only
  rw[d.bg];rcases this with e|e
  ·exact .inr (.inr e)
  ·exact .inl e
def Sr(d:Cm Q (N+1) R):DA P.aJ.1 Q.aJ.1:=by
 have:=Gp P.D.n;unfold PD.aJ DK;dsimp only
 rw[d.bg];rcases this with e|e
 ·exact .inr (.inr e)
 ·exact .inl e
def Zc{nm:ByteArray}(h:AK P Q)(z:Cm Q (N+1) R):DA (P.aH nm).1 (Q.aH nm).1:=by
 have:=Gp P.D.n;unfold PD.aH Dh;rw[h.A4];by_cases d:B4 Q.D.A4 nm<0
 ·rw[Ai d,Ai d];exact .inr (.inr rfl)
 ·rw[Ae d,Ae d];dsimp only
  rw[z.bg];rcases this with e|e
  ·exact .inr (.inr e)
  ·exact .inl e
def Zb{old nm:ByteArray}(h:AK P Q)(z:Cm Q (N+1) R):DA (P.aO old nm).1 (Q.aO old nm).1:=by
 have:=Gp P.D.n;unfold PD.aO CV;rw[h.A4];cases lookup Q.D.A4 old with
 | none=>exact .inr (.inr rfl)
 | some f=>
  dsimp only
  by_cases d:nm=ByteArray.empty
  ·rw[Ai d,Ai d];exact .inr (.inr rfl)
  ·rw[Ae d,Ae d];dsimp only
   rw[z.bg];rcases this with e|e
   ·exact .inr (.inr e)
   ·exact .inl e
def or_append{nm:ByteArray}{l:Bs}(h:AK P Q)(Y:Cm Q (N+1) R)(O:l.length<=R):DA (P.an nm l).1 (Q.an nm l).1:=by
 by_cases d:(P.an nm l).1=0
 ·exact .inr (.inr (by rw[d,(h.an Y O d).1]))
 ·have L:=Gp P.D.n;have z:∀D F f x E,∀e:Int,e=0\/e=5->(BB D F f x E e).1=5\/(BB D F f x E e).1=6\/(BB D F f x E e).1=0:=λD F f x E e W=>by
   unfold BB;rcases W with rfl|rfl
   ·split
    ·exact .inr (.inl rfl)
    ·exact .inr (.inr rfl)
   ·split
    ·exact .inl rfl
    ·exact .inl rfl
  unfold PD.an Bp at d ⊢;rw[h.A4]at d ⊢;cases hx:lookup Q.D.A4 nm with
  | none=>exact .inr (.inr rfl)
  | some f=>
   rw[hx]at d;dsimp only at d ⊢;split at d
   ·rename_i I;rw[Ai I];rcases z {A4:=Q.D.A4,AP:=P.D.AP,Av:=P.D.Av,n:=(bg P.D.n).2.2} P.F f (A9 l) (A9 l).size _ L with e|e|e
    ·exact .inl e
    ·exact .inr (.inl e)
    ·exact absurd e d
   ·rename_i I;rw[Ae I];split at d
    ·rename_i H;rw[Ai H];rcases z {A4:=Q.D.A4,AP:=P.D.AP,Av:=P.D.Av,n:=(bg P.D.n).2.2} P.F f (A9 l) ((bg P.D.n).2.2.Bv % (A9 l).size) _ L with e|e|e
     ·exact .inl e
     ·exact .inr (.inl e)
     ·exact absurd e d
    ·rename_i H;rw[Ae H];rcases L with e|e
     ·exact absurd e d
     ·exact .inl e
def Ox{nm:Bs}{s:Nat}{l:Bs}(h:AK P Q)(z:Cm Q (N+1) R)(d:l.length+4<=R):DA (P.ad (A9 nm) s l).2.1 (Q.ad (A9 nm) s l).2.1:=or_append (l:=AT s l) h z (by rw[EE];exact d)
def DA.bn{a b:Int}(h:DA a b)(ha:¬a=0){c:Int}(d:b≠0->c=b):DA a c:=by
 rcases h with e|e|e
 ·exact .inl e
 ·exact .inr (.inl e)
 ·exact .inr (.inr (by rw[d (by omega)];exact e))
def Sq{nm:Bs}{s:Nat}{l:Bs}(h:AK P Q)(O:Cm Q (N+3) R)(H:l.length+4<=R):DA (P.aI nm s l).1 (Q.aI nm s l).1:=by
 unfold PD.aI;by_cases z:(P.ak (A9 nm)).1=0
 ·obtain⟨Y,I,L⟩:=h.ak (N:=N+2) O z;rw[Ae (nn z),Ae (nn Y)];by_cases d:((P.ak (A9 nm)).2.ad (A9 nm) s l).2.1=0
  ·obtain⟨-,W,b2,b3⟩:=I.bW (N:=N+1) (nm:=nm) (s:=s) (l:=l) L H d;rw[Ae (nn d),Ae (nn W)];exact Ov b2 b3
  ·rw[Ai d];refine(Ox (N:=N+1) I L H).bn d λE=>?_;rw[Ai E]
 ·rw[Ai z];refine(SA (N:=N+2) h O).bn z λE=>?_;rw[Ai E]
def Ss:∀(l:List Bs) {P Q:PD},AK P Q->Cm Q (N+l.length) R->DA (PD.az l P).1 (PD.az l Q).1
 | [],_,_,_,_=>.inr (.inr rfl)
 | nm::r,P,Q,h,hc=>by
  have d:Cm Q (N+r.length+1) R:=hc.aa (by simp;omega) (As _);unfold PD.az;by_cases z:(P.ae (A9 nm)).1=0
  ·obtain⟨H,I,L⟩:=h.ae d z;rw[Ae (nn z),Ae (nn H)];exact Ss r I L
  ·rw[Ai z];refine(Ov h d).bn z λE=>?_;rw[Ai E]
def Sw:∀(l:List Bs) {P Q:PD},AK P Q->Cm Q (N+l.length) R->DA (PD.aL l P).1 (PD.aL l Q).1
 | [],_,_,_,_=>.inr (.inr rfl)
 | nm::r,P,Q,h,hc=>by
  have d:Cm Q (N+r.length+1) R:=hc.aa (by simp;omega) (As _);unfold PD.aL;by_cases z:(P.aH (A9 nm)).1=0
  ·obtain⟨H,I,L⟩:=h.aH d z;rw[Ae (nn z),Ae (nn H)];exact Sw r I L
  ·rw[Ai z];refine(Zc h d).bn z λE=>?_;rw[Ai E]
def Ow(h:AK P Q)(z:Cm Q (N+A.AQ.length) R):DA (A.C P).1 (A.C Q).1:=by
 unfold Ar.C;by_cases d:(PD.az A.AQ P).1=0
 ·obtain⟨H,_⟩:=AK.az A.AQ h z d;rw[Ae (nn d),Ae (nn H)];exact .inr (.inr rfl)
 ·rw[Ai d];refine(Ss A.AQ h z).bn d λE=>?_;rw[Ai E]
def Su(h:AK P Q)(d:Cm Q (N+(A.aV Q).length) R):DA (A.av P).1 (A.av Q).1:=by
 unfold Ar.av;rw[h.aV];exact Sw _ h d
def Zh(h:AK P Q)(L:Cm Q (N+2) R)(hR:12<=R):DA (J.ax P).1 (J.ax Q).1:=by
 unfold Jn.ax;by_cases z:(P.ak (A9 (Ah (J.Aa+1)))).1=0
 ·obtain⟨W,H,I⟩:=h.ak (N:=N+1) L z;rw[Ae (nn z),Ae (nn W)];dsimp only
  by_cases d:((P.ak (A9 (Ah (J.Aa+1)))).2.ad (A9 (Ah (J.Aa+1))) (AH (Ah (J.Aa+1))) (AS J.puts)).2.1=0
  ·obtain⟨-,O,_⟩:=H.bW (N:=N) (nm:=Ah (J.Aa+1)) (s:=AH (Ah (J.Aa+1))) (l:=AS J.puts) I (by rw[CP];omega) d;rw[Ae (nn d),Ae (nn O)];exact .inr (.inr rfl)
  ·rw[Ai d];refine(Ox (N:=N) H I (by rw[CP];omega)).bn d λE=>?_;rw[Ai E]
 ·rw[Ai z];refine(SA (N:=N+1) h L).bn z λE=>?_;rw[Ai E]
def Sy(h:AK P Q)(d:Cm Q (N+1) R)(hR:21<=R)(p:Pu):DA (J.aw P p).2.1 (J.aw Q p).2.1:=by
 unfold Jn.aw;cases J.AB with
 | none=>exact .inr (.inr rfl)
 | some x=>exact Ox h d (by rw[EY];omega)
def Zf(h:AK P Q)(z:Cm Q (N+3) R)(hR:33<=R)(p:Pu):DA (J.ad P p).2.1 (J.ad Q p).2.1:=by
 unfold Jn.ad;split
 ·by_cases d:(J.ax P).1=0
  ·obtain⟨I,L,O,E⟩:=h.ax (N:=N+1) z (by omega) d;rw[Ae (nn d),Ae (nn I),L];exact Sy O E (by omega) p
  ·rw[Ai d];refine(Zh (N:=N+1) h z (by omega)).bn d λH=>?_;rw[Ai H]
 ·exact Sy (N:=N+2) h z (by omega) p
def Zk(h:AK P Q)(Y:Cm Q (N+A.AQ.length+3) R)(L:33<=R)(p:Pu):DA (A.ad P p).2.1 (A.ad Q p).2.1:=by
 have d:Cm Q (N+3+A.AQ.length) R:=Y.aa (by omega) (As _);unfold Ar.ad;by_cases z:(A.C P).1=0
 ·obtain⟨I,O,W,E⟩:=h.C d z;rw[Ae (nn z),Ae (nn I),O];exact Zf W E L p
 ·rw[Ai z];refine(Ow h d).bn z λH=>?_;rw[Ai H]
def Ze(h:AK P Q)(d:Cm Q (N+1) R):DA (J.ae P).1 (J.ae Q).1:=by
 unfold Jn.ae;cases J.AB with
 | none=>exact .inr (.inr rfl)
 | some x=>exact Ov h d
def Zj(h:AK P Q)(hc:Cm Q (N+A.AQ.length+2) R):DA (A.ae P).1 (A.ae Q).1:=by
 have d:Cm Q (N+2+A.AQ.length) R:=hc.aa (by omega) (As _);unfold Ar.ae;by_cases E:(A.C P).1=0
 ·obtain⟨W,Y,L,I⟩:=h.C d E;rw[Ae (nn E),Ae (nn W),Y];by_cases z:((A.C Q).2.1.j.ae (A.C P).2.2).1=0
  ·obtain⟨O,b2,b3⟩:=L.e6 (N:=N+1) I z;rw[Ae (nn z),Ae (nn O)];exact Sr b3
  ·rw[Ai z];refine(Ze (N:=N+1) L I).bn z λH=>?_;rw[Ai H]
 ·rw[Ai E];refine(Ow h d).bn E λH=>?_;rw[Ai H]
def Sz:∀(fresh:List (List Pu)) (last:Int) (kept:List Int) {P Q:PD},AK P Q->Cm Q (N+3*fresh.length) (R+Dk fresh)->DA (PD.ah fresh last kept P).1 (PD.ah fresh last kept Q).1
 | [],_,_,_,_,_,_=>.inr (.inr rfl)
 | l::r,last,kept,P,Q,h,hc=>by
  have z:Dk (l::r)=(17*l.length+4)+Dk r:=by simp[Dk]
  have hpl:(Cf l).length=17*l.length:=I4 l;have E:Cm Q (N+3*r.length+3) (R+Dk r+((Cf l).length+4)):=hc.aa (by simp;omega) (by rw[z];omega);have d:∀X:PD,PD.ah (l::r) last kept X=if (X.aK (last+1) l).1≠0 then ((X.aK (last+1) l).1,last+1,kept,(X.aK (last+1) l).2) else PD.ah r (last+1) (kept++[last+1]) (X.aK (last+1) l).2:=λ_=>rfl
  rw[d,d];by_cases H:(P.aK (last+1) l).1=0
  ·obtain⟨Y,a2,W⟩:=AK.aI (N:=N+3*r.length) h E (by omega) H;have I:(Q.aK (last+1) l).1=0:=Y;rw[Ae (nn H),Ae (nn I)];exact Sz r (last+1) _ a2 (W.aa (As _) (by omega))
  ·rw[Ai H];refine(Sq (N:=N+3*r.length) h E (by omega)).bn H λO=>?_;have L:(Q.aK (last+1) l).1≠0:=O;rw[Ai L];rfl
def Zd{d:Int}{segs:List Int}(h:AK P Q)(E:Cm Q (N+4) R)(hR:12+8*segs.length<=R):DA (P.ag d segs).1 (Q.ag d segs).1:=by
 have hl:(Ci d segs).length=8+8*segs.length:=by unfold Ci;rw[B1,CP,J5]
 unfold PD.ag;by_cases z:(P.aI Bo (AH AL) (Ci d segs)).1=0
 ·obtain⟨I,L,O⟩:=h.aI (N:=N+1) E (by omega) z;rw[Ae (nn z),Ae (nn I)];exact Zb L O
 ·rw[Ai z];refine(Sq (N:=N+1) h E (by omega)).bn z λH=>?_;rw[Ai H]
def Zi{segs:List Int}(h:AK P Q)(E:Cm Q (N+4) R)(z:12+8*segs.length<=R):DA (A.ag P segs).1 (A.ag Q segs).1:=by
 unfold Ar.ag;split
 ·exact .inr (.inr rfl)
 ·by_cases d:(P.ag (A.j.Aa+1) segs).1=0
  ·obtain⟨I,_⟩:=h.cU E z d;rw[Ae (nn d),Ae (nn I)];exact .inr (.inr rfl)
  ·rw[Ai d];refine(Zd h E z).bn d λH=>?_;rw[Ai H]
def Zg(h:AK P Q)(L:Cm Q (N+(A.aV Q).length+1) R):DA (A.aZ P).1 (A.aZ Q).1:=by
 have d:Cm Q (N+1+(A.aV Q).length) R:=L.aa (by omega) (As _);unfold Ar.aZ;by_cases z:(A.av P).1=0
 ·obtain⟨H,a2,I⟩:=h.av d z;rw[Ae (nn z),Ae (nn H)];exact Sr I
 ·rw[Ai z];refine(Su h d).bn z λE=>?_;rw[Ai E]
def Sv(h:AK P Q)(kept:List Int)(fresh:List (List Pu))(hc:Cm Q (N+A.AQ.length+2*Q.dl+4*fresh.length+8) (R+Dk fresh+12+8*(kept.length+fresh.length))):DA (A.aG P kept fresh).1 (A.aG Q kept fresh).1:=by
 have L:Cm Q (N+2*Q.dl+4*fresh.length+8+A.AQ.length) (R+Dk fresh+12+8*(kept.length+fresh.length)):=hc.aa (by omega) (As _);unfold Ar.aG;dsimp only
 by_cases Y:(A.C P).1=0
 ·obtain⟨a1,a2,a3,a4⟩:=h.C L Y;rw[Ae (nn Y),Ae (nn a1),a2];have d1:(A.C Q).2.2.dl=Q.dl:=by unfold Ar.C;split<;>exact Pk _ _
  have o1:=Mi (A.C Q).2.1 (A.C Q).2.2;have E:Cm (A.C Q).2.2 (N+Q.dl+4*fresh.length+8+((A.C Q).2.1.aV (A.C Q).2.2).length) (R+Dk fresh+12+8*(kept.length+fresh.length)):=a4.aa (by omega) (As _);by_cases W:((A.C Q).2.1.av (A.C P).2.2).1=0
  ·obtain⟨b1,b2,b3⟩:=a3.av E W;(have d2:((A.C Q).2.1.av (A.C Q).2.2).2.dl<=Q.dl:=by rw[<-d1];exact MF _ _);rw[Ae (nn W),Ae (nn b1)];have I:Cm ((A.C Q).2.1.av (A.C Q).2.2).2 (N+Q.dl+fresh.length+8+3*fresh.length) (R+12+8*(kept.length+fresh.length)+Dk fresh):=b3.aa (by omega) (by omega);by_cases h3:(PD.ah fresh (A.C Q).2.1.Aa kept ((A.C Q).2.1.av (A.C P).2.2).2).1=0
   ·obtain⟨c1,c2,c3,c4,c5⟩:=AK.ah fresh (A.C Q).2.1.Aa kept b2 I h3;obtain⟨d3,d4⟩:=JX fresh (A.C Q).2.1.Aa kept ((A.C Q).2.1.av (A.C Q).2.2).2;rw[Ae (nn h3),Ae (nn c1),c2,c3];obtain⟨A2,aD⟩:∃A2:Ar,({ (A.C Q).2.1 with Aa:=(PD.ah fresh (A.C Q).2.1.Aa kept ((A.C Q).2.1.av (A.C Q).2.2).2).2.1}:Ar)=A2:=⟨_,rfl⟩;rw[aD];obtain⟨sg,aB⟩:∃sg,(PD.ah fresh (A.C Q).2.1.Aa kept ((A.C Q).2.1.av (A.C Q).2.2).2).2.2.1=sg:=⟨_,rfl⟩;rw[aB]at d4 ⊢;obtain⟨aE,H⟩:∃aE,(PD.ah fresh (A.C Q).2.1.Aa kept ((A.C Q).2.1.av (A.C P).2.2).2).2.2.2=aE:=⟨_,rfl⟩;obtain⟨O,d⟩:∃O,(PD.ah fresh (A.C Q).2.1.Aa kept ((A.C Q).2.1.av (A.C Q).2.2).2).2.2.2=O:=⟨_,rfl⟩;rw[H]at c4;rw[H,d];rw[d]at c4 c5 d3;clear H d aD aB h3 c1 c2 c3 W b1 b2 b3 Y a1 a2 a3 a4 L E I;have aA:Cm O (N+Q.dl+fresh.length+4+4) (R+12+8*(kept.length+fresh.length)):=c5.aa (by omega) (As _);by_cases h4:(A2.ag aE sg).1=0
    ·obtain⟨e1,e2,e3,e4⟩:=c4.cB (A:=A2) (segs:=sg) aA (by omega) h4;have d5:=Pm A2 O sg;rw[Ae (nn h4),Ae (nn e1),e2];have o2:=Mi (A2.ag O sg).2.1 (A2.ag O sg).2.2;exact Zg (N:=N) e3 (e4.aa (by omega) (As _))
    ·rw[Ai h4];refine(Zi c4 aA (by omega)).bn h4 λz=>?_;rw[Ai z]
   ·rw[Ai h3];refine(Sz fresh (A.C Q).2.1.Aa kept b2 I).bn h3 λz=>?_;rw[Ai z]
  ·rw[Ai W];refine(Su a3 E).bn W λz=>?_;rw[Ai z]
 ·rw[Ai Y];refine(Ow h L).bn Y λz=>?_;rw[Ai z]
end
section
variable {bd:Int×Int} {P P':PD} {A:Ar} {sg cl:List (Int×List Pu)} {ol:Option (List Pu)} {puts:List Pu} {A8:Nat} {o:Int}
def DA.cM{a b:Int}(h:DA a b)(d:b=0):a=0\/a=5\/a=6:=by
 rcases h with e|e|e
 ·exact .inr (.inl e)
 ·exact .inr (.inr e)
 ·exact .inl (e.trans d)
def SI.e3(h:SI bd A P puts A8 o sg cl ol)(E:ol=none->isNum (A.j.Aa+1)=true)(p:Pu)(z:Bh p)(hll:A.AQ.length<=1099511627776):(A.ad P p).2.1=0\/(A.ad P p).2.1=5\/(A.ad P p).2.1=6:=by
 have d:Cm P.aR (0+A.AQ.length+3) 33:=h.di.bh.aR.aa (by omega) (by omega);refine(Zk (AK.aR P) d (As _) p).cM ?_;exact((h.AX.ay (P':=P.aR) λm=>((AK.aR P).bs m).symm).ad d E p z (As _)).2.1
def SI.gh(h:SI bd A P puts A8 o sg cl ol)(hll:A.AQ.length<=1099511627776):(A.ae P).1=0\/(A.ae P).1=5:=by
 have d:Cm P.aR (0+A.AQ.length+2) 0:=h.di.bh.aR.aa (by omega) (by omega);have:=(Zj (AK.aR P) d).cM ((h.AX.ay (P':=P.aR) λm=>((AK.aR P).bs m).symm).ae d).1;have h6:=UR A P;omega
def SI.fY{Al:Int}(h:SI bd A P puts A8 o sg cl ol)(I:BU (AA Al))(hn:isNum (A.j.Aa+1)=true){n:Nat}(hcount:(B7 sg cl ol).length<=n)(hn2:n<=1073741824)(z:A.Aa+n<=4611686018427387904)(hbig:A.AQ.length+P.Ay.length+A.j.Am.length+2*sg.length<=1073741824):(A.aS P Al).1=0\/(A.aS P Al).1=5\/(A.aS P Al).1=6:=by
 have hl0:(B7 sg cl ol).length=(Ax sg).length+(Ax cl++ol.getD []).length:=by unfold B7;rw[B1]
 have W:=h.AX.ay (P':=P.aR) λm=>((AK.aR P).bs m).symm
 have L:=h.di.bh.aR;have H:P.aR.Ay.length<=1073741824:=by
  have e:P.aR.Ay=P.Ay:=rfl;rw[e];omega
 have O:=(W.aS I (N:=0) (R:=0) (K:=1073741824) (n:=n) (by omega) (by omega) H (by omega) (by omega) (by omega) (L.aa (by omega) (by omega)) hn z).1;refine DA.cM (b:=(A.aS P.aR Al).1) ?_ O;have Y:=h.AX.puts h.CO;have d:=Hn I (Ax cl++ol.getD []);have hfl:=H9 d.ne;have hfl2:=d.B5;have hcost:=Jz (BA Al (Ax cl++ol.getD []));have hsg:A.ix.segs.length=sg.length:=by rw[<-h.AX.segs,Fx]
 have E:P.aR.dl=P.Ay.length:=by rw[Ho];rfl
 unfold Ar.aS;rw[<- (AK.aR P).puts,Y,Ae (by simp),Ae (by simp)];exact Sv (N:=0) (R:=0) (AK.aR P) _ _ (L.aa (by rw[E];dsimp only;omega) (by dsimp only;omega))
def SI.fT{Al:Int}(h:SI bd A P puts A8 o sg cl ol)(hw:BU (AA Al))(hn:isNum (A.j.Aa+1)=true){n:Nat}(z:(B7 sg cl ol).length<=n)(hn2:n<=1073741824)(O:A.Aa+n<=4611686018427387904)(hbig:A.AQ.length+P.Ay.length+A.j.Am.length+2*sg.length<=1073741824):(A.aQ P Al o).1=0\/(A.aQ P Al o).1=5\/(A.aQ P Al o).1=6:=by
 have hl0:(B7 sg cl ol).length=(Ax sg).length+(Ax cl++ol.getD []).length:=by unfold B7;rw[B1]
 have hL:=h.AX.ay (P':=P.aR) λm=>((AK.aR P).bs m).symm
 have hc:Cm P.aR 4611686018427387904 4611686018427387904:=h.di.bh.aR;have Y:P.aR.Ay.length<=1073741824:=by
  have e:P.aR.Ay=P.Ay:=rfl;rw[e];omega
 have hq:=(hL.aQ (oldest:=o) hw (N:=0) (R:=0) (K:=1073741824) (n:=n) z (by omega) Y (by omega) (by omega) (by omega) (hc.aa (by omega) (by omega)) hn O).1;refine DA.cM (b:=(A.aQ P.aR Al o).1) ?_ hq;have hp:=h.AX.puts h.CO;have E:=Hn hw (B7 sg cl ol);have hfl2:=E.B5;have d:=JM sg o (BA Al (B7 sg cl ol));have L:=d.length_eq;have I:=d.flatten.length_eq;have hal:(DR o (BA Al (B7 sg cl ol))).length<=(BA Al (B7 sg cl ol)).length:=Jg _ _;have H:=(JT (λl=>l.any λp=>decide (o<=p.2.1)) (BA Al (B7 sg cl ol))).length_le;have haf2:(DR o (BA Al (B7 sg cl ol))).flatten.length<=(BA Al (B7 sg cl ol)).flatten.length:=H;have hfl:=H9 E.ne;have hcost:=Jz (BL sg o (BA Al (B7 sg cl ol))).2;rw[B1,Fx]at L;rw[Vz,B1]at I;have hks:(BL sg o (BA Al (B7 sg cl ol))).1.length=(Gf sg o (BA Al (B7 sg cl ol))).length:=by rw[JN,Fx]
 have W:P.aR.dl=P.Ay.length:=by rw[Ho];rfl
 unfold Ar.aQ;rw[<- (AK.aR P).segs,h.AX.b8];dsimp only
 have e2:sg.flatMap (·.2)++(P.puts A.j.Am).1=B7 sg cl ol:=by rw[hp];rfl
 rw[<- (AK.aR P).puts,e2,hp,Ae (by simp),Ae (by simp)];exact Sv (N:=0) (R:=0) (AK.aR P) _ _ (hc.aa (by rw[W];omega) (by rw[Nh];omega))
end
end
end Go.Proofs.YtodcnkbblippnaaGreatDoor
