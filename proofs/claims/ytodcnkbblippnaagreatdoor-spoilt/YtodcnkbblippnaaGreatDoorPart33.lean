/- Part 33 of a proof: walks of the program. -/
import Derived.Test.YtodcnkbblippnaaGreatDoorPart30
import Derived.Test.YtodcnkbblippnaaGreatDoorPart32
namespace Go.Proofs.YtodcnkbblippnaaGreatDoor
set_option maxRecDepth 100000
set_option maxHeartbeats 32000000
set_option linter.defProp false
open Go.Proofs.Tryz
section
open Go.RowKit
def DD(a b:Int):Prop:=a=5\/a=6\/a=b
section
variable{P Q:PD}{N R:Nat}{A:Ar}{J:Jn}
def TH{nm:gg}(h:AG P Q)(z:Cm Q (N+1) R):DD (P.ai nm).1 (Q.ai nm).1:=by
 have:=Gw P.D.n;unfold PD.ai CN;rw[h.A4];by_cases d:nm=ByteArray.empty\/B5 Q.D.A4 nm≥0
 ·rw[Ae d,Ae d];exact .inr (.inr rfl)
 ·rw[Aa d,Aa d];dsimp only
  rw[z.bg];rcases this with e|e
  ·exact .inr (.inr e)
  ·exact .inl e
def Pd{nm:gg}(h:AG P Q)(d:Cm Q (N+1) R):DD (P.ad nm).1 (Q.ad nm).1:=by
 have:=Gw P.D.n;unfold PD.ad Cq;rw[h.A4];cases lookup Q.D.A4 nm with
 | none=>exact .inr (.inr rfl)
 | some f=>
  dsimp only
  rw[d.bg];rcases this with e|e
  ·exact .inr (.inr e)
  ·exact .inl e
def TA(d:Cm Q (N+1) R):DD P.av.1 Q.av.1:=by
 have:=Gw P.D.n;unfold PD.av DC;dsimp only
 rw[d.bg];rcases this with e|e
 ·exact .inr (.inr e)
 ·exact .inl e
def A0y{nm:gg}(h:AG P Q)(z:Cm Q (N+1) R):DD (P.aG nm).1 (Q.aG nm).1:=by
 have:=Gw P.D.n;unfold PD.aG Dn;rw[h.A4];by_cases d:B5 Q.D.A4 nm<0
 ·rw[Ae d,Ae d];exact .inr (.inr rfl)
 ·rw[Aa d,Aa d];dsimp only
  rw[z.bg];rcases this with e|e
  ·exact .inr (.inr e)
  ·exact .inl e
def A0x{oe nm:gg}(h:AG P Q)(z:Cm Q (N+1) R):DD (P.aM oe nm).1 (Q.aM oe nm).1:=by
 have:=Gw P.D.n;unfold PD.aM CU;rw[h.A4];cases lookup Q.D.A4 oe with
 | none=>exact .inr (.inr rfl)
 | some f=>
  dsimp only
  by_cases d:nm=ByteArray.empty
  ·rw[Ae d,Ae d];exact .inr (.inr rfl)
  ·rw[Aa d,Aa d];dsimp only
   rw[z.bg];rcases this with e|e
   ·exact .inr (.inr e)
   ·exact .inl e
def or_append{nm:gg}{l:Bs}(h:AG P Q)(Y:Cm Q (N+1) R)(O:l.length<=R):DD (P.ak nm l).1 (Q.ak nm l).1:=by
 by_cases d:(P.ak nm l).1=0
 ·exact .inr (.inr (by rw[d,(h.ak Y O d).1]))
 ·have L:=Gw P.D.n;have z:∀D F f x E,∀e:Int,e=0\/e=5->(Bw D F f x E e).1=5\/(Bw D F f x E e).1=6\/(Bw D F f x E e).1=0:=λD F f x E e W=>by
   unfold Bw;rcases W with rfl|rfl
   ·split
    ·exact .inr (.inl rfl)
    ·exact .inr (.inr rfl)
   ·split
    ·exact .inl rfl
    ·exact .inl rfl
  unfold PD.ak Bj at d ⊢;rw[h.A4]at d ⊢;cases hx:lookup Q.D.A4 nm with
  | none=>exact .inr (.inr rfl)
  | some f=>
   rw[hx]at d;dsimp only at d ⊢;split at d
   ·rename_i I;rw[Ae I];rcases z {A4:=Q.D.A4,AI:=P.D.AI,As:=P.D.As,n:=(bg P.D.n).2.2} P.F f (A6 l) (A6 l).size _ L with e|e|e
    ·exact .inl e
    ·exact .inr (.inl e)
    ·exact absurd e d
   ·rename_i I;rw[Aa I];split at d
    ·rename_i H;rw[Ae H];rcases z {A4:=Q.D.A4,AI:=P.D.AI,As:=P.D.As,n:=(bg P.D.n).2.2} P.F f (A6 l) ((bg P.D.n).2.2.BC % (A6 l).size) _ L with e|e|e
     ·exact .inl e
     ·exact .inr (.inl e)
     ·exact absurd e d
    ·rename_i H;rw[Aa H];rcases L with e|e
     ·exact absurd e d
     ·exact .inl e
def Pf{nm:Bs}{s:Nat}{l:Bs}(h:AG P Q)(z:Cm Q (N+1) R)(d:l.length+4<=R):DD (P.ae (A6 nm) s l).2.1 (Q.ae (A6 nm) s l).2.1:=or_append (l:=AS s l) h z (by rw[EL];exact d)
def DD.bk{a b:Int}(h:DD a b)(ha:¬a=0){c:Int}(d:b≠0->c=b):DD a c:=by
 rcases h with e|e|e
 ·exact .inl e
 ·exact .inr (.inl e)
 ·exact .inr (.inr (by rw[d (by omega)];exact e))
def Tz{nm:Bs}{s:Nat}{l:Bs}(h:AG P Q)(I:Cm Q (N+3) R)(H:l.length+4<=R):DD (P.aH nm s l).1 (Q.aH nm s l).1:=by
 unfold PD.aH;by_cases z:(P.ai (A6 nm)).1=0
 ·have⟨a1,a2,a3⟩:=h.ai (N:=N+2) I z;rw[Aa (nn z),Aa (nn a1)];by_cases d:((P.ai (A6 nm)).2.ae (A6 nm) s l).2.1=0
  ·obtain⟨-,L,O,W⟩:=a2.bV (N:=N+1) (nm:=nm) (s:=s) (l:=l) a3 H d;rw[Aa (nn d),Aa (nn L)];exact Pd O W
  ·rw[Ae d];refine(Pf (N:=N+1) a2 a3 H).bk d λE=>?_;rw[Ae E]
 ·rw[Ae z];refine(TH (N:=N+2) h I).bk z λE=>?_;rw[Ae E]
def TB:∀(l:gh Bs) {P Q:PD},AG P Q->Cm Q (N+l.length) R->DD (PD.az l P).1 (PD.az l Q).1
 | [],_,_,_,_=>.inr (.inr rfl)
 | nm::r,P,Q,h,hc=>by
  have d:Cm Q (N+r.length+1) R:=hc.af (by simp;omega) (Ao _);unfold PD.az;by_cases z:(P.ad (A6 nm)).1=0
  ·have⟨a1,a2,a3⟩:=h.ad d z;rw[Aa (nn z),Aa (nn a1)];exact TB r a2 a3
  ·rw[Ae z];refine(Pd h d).bk z λE=>?_;rw[Ae E]
def TE:∀(l:gh Bs) {P Q:PD},AG P Q->Cm Q (N+l.length) R->DD (PD.aK l P).1 (PD.aK l Q).1
 | [],_,_,_,_=>.inr (.inr rfl)
 | nm::r,P,Q,h,hc=>by
  have d:Cm Q (N+r.length+1) R:=hc.af (by simp;omega) (Ao _);unfold PD.aK;by_cases z:(P.aG (A6 nm)).1=0
  ·have⟨a1,a2,a3⟩:=h.aG d z;rw[Aa (nn z),Aa (nn a1)];exact TE r a2 a3
  ·rw[Ae z];refine(A0y h d).bk z λE=>?_;rw[Ae E]
def Pe(h:AG P Q)(z:Cm Q (N+A.AN.length) R):DD (A.C P).1 (A.C Q).1:=by
 unfold Ar.C;by_cases d:(PD.az A.AN P).1=0
 ·have⟨a1,_⟩:=AG.az A.AN h z d;rw[Aa (nn d),Aa (nn a1)];exact .inr (.inr rfl)
 ·rw[Ae d];refine(TB A.AN h z).bk d λE=>?_;rw[Ae E]
def TC(h:AG P Q)(d:Cm Q (N+(A.aV Q).length) R):DD (A.au P).1 (A.au Q).1:=by
 unfold Ar.au;rw[h.aV];exact TE _ h d
def A0D(h:AG P Q)(H:Cm Q (N+2) R)(hR:12<=R):DD (J.aw P).1 (J.aw Q).1:=by
 unfold Jn.aw;by_cases z:(P.ai (A6 (Af (J.A8+1)))).1=0
 ·have⟨a1,a2,a3⟩:=h.ai (N:=N+1) H z;rw[Aa (nn z),Aa (nn a1)];dsimp only
  by_cases d:((P.ai (A6 (Af (J.A8+1)))).2.ae (A6 (Af (J.A8+1))) (AB (Af (J.A8+1))) (AO J.pd)).2.1=0
  ·obtain⟨-,I,_⟩:=a2.bV (N:=N) (nm:=Af (J.A8+1)) (s:=AB (Af (J.A8+1))) (l:=AO J.pd) a3 (by rw[CQ];omega) d;rw[Aa (nn d),Aa (nn I)];exact .inr (.inr rfl)
  ·rw[Ae d];refine(Pf (N:=N) a2 a3 (by rw[CQ];omega)).bk d λE=>?_;rw[Ae E]
 ·rw[Ae z];refine(TH (N:=N+1) h H).bk z λE=>?_;rw[Ae E]
def TF(h:AG P Q)(d:Cm Q (N+1) R)(hR:21<=R)(p:Pu):DD (J.ax P p).2.1 (J.ax Q p).2.1:=by
 unfold Jn.ax;cases J.AE with
 | none=>exact .inr (.inr rfl)
 | some x=>exact Pf h d (by rw[F7];omega)
def A0B(h:AG P Q)(z:Cm Q (N+3) R)(hR:33<=R)(p:Pu):DD (J.ae P p).2.1 (J.ae Q p).2.1:=by
 unfold Jn.ae;split
 ·by_cases d:(J.aw P).1=0
  ·have⟨a1,a2,a3,a4⟩:=h.aw (N:=N+1) z (by omega) d;rw[Aa (nn d),Aa (nn a1),a2];exact TF a3 a4 (by omega) p
  ·rw[Ae d];refine(A0D (N:=N+1) h z (by omega)).bk d λE=>?_;rw[Ae E]
 ·exact TF (N:=N+2) h z (by omega) p
def A0G(h:AG P Q)(I:Cm Q (N+A.AN.length+3) R)(H:33<=R)(p:Pu):DD (A.ae P p).2.1 (A.ae Q p).2.1:=by
 have d:Cm Q (N+3+A.AN.length) R:=I.af (by omega) (Ao _);unfold Ar.ae;by_cases z:(A.C P).1=0
 ·have⟨a1,a2,a3,a4⟩:=h.C d z;rw[Aa (nn z),Aa (nn a1),a2];exact A0B a3 a4 H p
 ·rw[Ae z];refine(Pe h d).bk z λE=>?_;rw[Ae E]
def A0A(h:AG P Q)(d:Cm Q (N+1) R):DD (J.ad P).1 (J.ad Q).1:=by
 unfold Jn.ad;cases J.AE with
 | none=>exact .inr (.inr rfl)
 | some x=>exact Pd h d
def A0F(h:AG P Q)(I:Cm Q (N+A.AN.length+2) R):DD (A.ad P).1 (A.ad Q).1:=by
 have d:Cm Q (N+2+A.AN.length) R:=I.af (by omega) (Ao _);unfold Ar.ad;by_cases E:(A.C P).1=0
 ·have⟨a1,a2,a3,a4⟩:=h.C d E;rw[Aa (nn E),Aa (nn a1),a2];by_cases z:((A.C Q).2.1.j.ad (A.C P).2.2).1=0
  ·have⟨b1,b2,b3⟩:=a3.eX (N:=N+1) a4 z;rw[Aa (nn z),Aa (nn b1)];exact TA b3
  ·rw[Ae z];refine(A0A (N:=N+1) a3 a4).bk z λH=>?_;rw[Ae H]
 ·rw[Ae E];refine(Pe h d).bk E λH=>?_;rw[Ae H]
def TG:∀(L:gh (gh Pu)) (d:Int) (H:gh Int) {P Q:PD},AG P Q->Cm Q (N+3*L.length) (R+Dr L)->DD (PD.aj L d H P).1 (PD.aj L d H Q).1
 | [],_,_,_,_,_,_=>.inr (.inr rfl)
 | l::r,d,H,P,Q,h,hc=>by
  have E:Dr (l::r)=(17*l.length+4)+Dr r:=by simp[Dr]
  have hpl:(Ci l).length=17*l.length:=ID l;have I:Cm Q (N+3*r.length+3) (R+Dr r+((Ci l).length+4)):=hc.af (by simp;omega) (by rw[E];omega);have z:∀X:PD,PD.aj (l::r) d H X=if (X.aI (d+1) l).1≠0 then ((X.aI (d+1) l).1,d+1,H,(X.aI (d+1) l).2) else PD.aj r (d+1) (H++[d+1]) (X.aI (d+1) l).2:=λ_=>rfl
  rw[z,z];by_cases O:(P.aI (d+1) l).1=0
  ·have⟨a1,a2,a3⟩:=AG.aH (N:=N+3*r.length) h I (by omega) O;have W:(Q.aI (d+1) l).1=0:=a1;rw[Aa (nn O),Aa (nn W)];exact TG r (d+1) _ a2 (a3.af (Ao _) (by omega))
  ·rw[Ae O];refine(Tz (N:=N+3*r.length) h I (by omega)).bk O λhq=>?_;have Y:(Q.aI (d+1) l).1≠0:=hq;rw[Ae Y];rfl
def A0z{first:Int}{sd:gh Int}(h:AG P Q)(z:Cm Q (N+4) R)(hR:12+8*sd.length<=R):DD (P.ah first sd).1 (Q.ah first sd).1:=by
 have hl:(Cl first sd).length=8+8*sd.length:=by unfold Cl;rw[AY,CQ,JB]
 unfold PD.ah;by_cases d:(P.aH Bm (AB Ay) (Cl first sd)).1=0
 ·have⟨a1,a2,a3⟩:=h.aH (N:=N+1) z (by omega) d;rw[Aa (nn d),Aa (nn a1)];exact A0x a2 a3
 ·rw[Ae d];refine(Tz (N:=N+1) h z (by omega)).bk d λE=>?_;rw[Ae E]
def A0E{sd:gh Int}(h:AG P Q)(E:Cm Q (N+4) R)(z:12+8*sd.length<=R):DD (A.ah P sd).1 (A.ah Q sd).1:=by
 unfold Ar.ah;split
 ·exact .inr (.inr rfl)
 ·by_cases d:(P.ah (A.j.A8+1) sd).1=0
  ·have⟨a1,_⟩:=h.cO E z d;rw[Aa (nn d),Aa (nn a1)];exact .inr (.inr rfl)
  ·rw[Ae d];refine(A0z h E z).bk d λH=>?_;rw[Ae H]
def A0C(h:AG P Q)(H:Cm Q (N+(A.aV Q).length+1) R):DD (A.a6 P).1 (A.a6 Q).1:=by
 have d:Cm Q (N+1+(A.aV Q).length) R:=H.af (by omega) (Ao _);unfold Ar.a6;by_cases z:(A.au P).1=0
 ·have⟨a1,a2,a3⟩:=h.au d z;rw[Aa (nn z),Aa (nn a1)];exact TA a3
 ·rw[Ae z];refine(TC h d).bk z λE=>?_;rw[Ae E]
def TD(h:AG P Q)(z:gh Int)(d:gh (gh Pu))(hc:Cm Q (N+A.AN.length+2*Q.dl+4*d.length+8) (R+Dr d+12+8*(z.length+d.length))):DD (A.aF P z d).1 (A.aF Q z d).1:=by
 have W:Cm Q (N+2*Q.dl+4*d.length+8+A.AN.length) (R+Dr d+12+8*(z.length+d.length)):=hc.af (by omega) (Ao _);unfold Ar.aF;dsimp only
 by_cases h1:(A.C P).1=0
 ·have⟨a1,a2,a3,a4⟩:=h.C W h1;rw[Aa (nn h1),Aa (nn a1),a2];have d1:(A.C Q).2.2.dl=Q.dl:=by unfold Ar.C;split<;>exact Qa _ _
  have o1:=MS (A.C Q).2.1 (A.C Q).2.2;have I:Cm (A.C Q).2.2 (N+Q.dl+4*d.length+8+((A.C Q).2.1.aV (A.C Q).2.2).length) (R+Dr d+12+8*(z.length+d.length)):=a4.af (by omega) (Ao _);by_cases h2:((A.C Q).2.1.au (A.C P).2.2).1=0
  ·have⟨b1,b2,b3⟩:=a3.au I h2;(have d2:((A.C Q).2.1.au (A.C Q).2.2).2.dl<=Q.dl:=by rw[<-d1];exact Nd _ _);rw[Aa (nn h2),Aa (nn b1)];have O:Cm ((A.C Q).2.1.au (A.C Q).2.2).2 (N+Q.dl+d.length+8+3*d.length) (R+12+8*(z.length+d.length)+Dr d):=b3.af (by omega) (by omega);by_cases h3:(PD.aj d (A.C Q).2.1.A8 z ((A.C Q).2.1.au (A.C P).2.2).2).1=0
   ·have⟨c1,c2,c3,c4,c5⟩:=AG.aj d (A.C Q).2.1.A8 z b2 O h3;have⟨d3,d4⟩:=Kr d (A.C Q).2.1.A8 z ((A.C Q).2.1.au (A.C Q).2.2).2;rw[Aa (nn h3),Aa (nn c1),c2,c3];obtain⟨A2,aD⟩:∃A2:Ar,({ (A.C Q).2.1 with A8:=(PD.aj d (A.C Q).2.1.A8 z ((A.C Q).2.1.au (A.C Q).2.2).2).2.1}:Ar)=A2:=⟨_,rfl⟩;rw[aD];obtain⟨sg,aB⟩:∃sg,(PD.aj d (A.C Q).2.1.A8 z ((A.C Q).2.1.au (A.C Q).2.2).2).2.2.1=sg:=⟨_,rfl⟩;rw[aB]at d4 ⊢;obtain⟨aE,L⟩:∃aE,(PD.aj d (A.C Q).2.1.A8 z ((A.C Q).2.1.au (A.C P).2.2).2).2.2.2=aE:=⟨_,rfl⟩;obtain⟨Y,E⟩:∃Y,(PD.aj d (A.C Q).2.1.A8 z ((A.C Q).2.1.au (A.C Q).2.2).2).2.2.2=Y:=⟨_,rfl⟩;rw[L]at c4;rw[L,E];rw[E]at c4 c5 d3;clear L E aD aB h3 c1 c2 c3 h2 b1 b2 b3 h1 a1 a2 a3 a4 W I O;have aA:Cm Y (N+Q.dl+d.length+4+4) (R+12+8*(z.length+d.length)):=c5.af (by omega) (Ao _);by_cases h4:(A2.ah aE sg).1=0
    ·have⟨e1,e2,e3,e4⟩:=c4.cw (A:=A2) (sd:=sg) aA (by omega) h4;have d5:=Qb A2 Y sg;rw[Aa (nn h4),Aa (nn e1),e2];have o2:=MS (A2.ah Y sg).2.1 (A2.ah Y sg).2.2;exact A0C (N:=N) e3 (e4.af (by omega) (Ao _))
    ·rw[Ae h4];refine(A0E c4 aA (by omega)).bk h4 λH=>?_;rw[Ae H]
   ·rw[Ae h3];refine(TG d (A.C Q).2.1.A8 z b2 O).bk h3 λH=>?_;rw[Ae H]
  ·rw[Ae h2];refine(TC a3 I).bk h2 λH=>?_;rw[Ae H]
 ·rw[Ae h1];refine(Pe h W).bk h1 λH=>?_;rw[Ae H]
end
section
variable{bd:Int×Int}{P P':PD}{A:Ar}{sg cl:gh (Int×gh Pu)}{ol:Option (gh Pu)}{pd:gh Pu}{Ad:Nat}{o:Int}
def DD.cE{a b:Int}(h:DD a b)(d:b=0):a=0\/a=5\/a=6:=by
 rcases h with e|e|e
 ·exact .inr (.inl e)
 ·exact .inr (.inr e)
 ·exact .inl (e.trans d)
def SI.eU(h:SI bd A P pd Ad o sg cl ol)(E:ol=none->isNum (A.j.A8+1)=true)(p:Pu)(z:B8 p)(hll:A.AN.length<=1099511627776):(A.ae P p).2.1=0\/(A.ae P p).2.1=5\/(A.ae P p).2.1=6:=by
 have d:Cm P.aQ (0+A.AN.length+3) 33:=h.di.bc.aQ.af (by omega) (by omega);refine(A0G (AG.aQ P) d (Ao _) p).cE ?_;exact((h.AV.ay (P':=P.aQ) λm=>((AG.aQ P).bs m).symm).ae d E p z (Ao _)).2.1
def SI.fV(h:SI bd A P pd Ad o sg cl ol)(hll:A.AN.length<=1099511627776):(A.ad P).1=0\/(A.ad P).1=5:=by
 have d:Cm P.aQ (0+A.AN.length+2) 0:=h.di.bc.aQ.af (by omega) (by omega);have:=(A0F (AG.aQ P) d).cE ((h.AV.ay (P':=P.aQ) λm=>((AG.aQ P).bs m).symm).ad d).1;have h6:=Wa A P;omega
def SI.fP{wa:Int}(h:SI bd A P pd Ad o sg cl ol)(I:BS (Az wa))(hn:isNum (A.j.A8+1)=true){n:Nat}(hcount:(B7 sg cl ol).length<=n)(hn2:n<=1073741824)(z:A.A8+n<=4611686018427387904)(hbig:A.AN.length+P.Ai.length+A.j.Ak.length+2*sg.length<=1073741824):(A.aR P wa).1=0\/(A.aR P wa).1=5\/(A.aR P wa).1=6:=by
 have hl0:(B7 sg cl ol).length=(Au sg).length+(Au cl++ol.getD []).length:=by unfold B7;rw[AY]
 have W:=h.AV.ay (P':=P.aQ) λm=>((AG.aQ P).bs m).symm
 have L:=h.di.bc.aQ;have H:P.aQ.Ai.length<=1073741824:=by
  have e:P.aQ.Ai=P.Ai:=rfl;rw[e];omega
 have O:=(W.aR I (N:=0) (R:=0) (K:=1073741824) (n:=n) (by omega) (by omega) H (by omega) (by omega) (by omega) (L.af (by omega) (by omega)) hn z).1;refine DD.cE (b:=(A.aR P.aQ wa).1) ?_ O;have Y:=h.AV.pd h.CZ;have d:=HH I (Au cl++ol.getD []);have hfl:=Hm d.ne;have hfl2:=d.B4;have hcost:=K0 (By wa (Au cl++ol.getD []));have hsg:A.ix.sd.length=sg.length:=by rw[<-h.AV.sd,FW]
 have E:P.aQ.dl=P.Ai.length:=by rw[HJ];rfl
 unfold Ar.aR;rw[<- (AG.aQ P).pd,Y,Aa (by simp),Aa (by simp)];exact TD (N:=0) (R:=0) (AG.aQ P) _ _ (L.af (by rw[E];dsimp only;omega) (by dsimp only;omega))
def SI.fJ{wa:Int}(h:SI bd A P pd Ad o sg cl ol)(hw:BS (Az wa))(hn:isNum (A.j.A8+1)=true){n:Nat}(z:(B7 sg cl ol).length<=n)(hn2:n<=1073741824)(O:A.A8+n<=4611686018427387904)(hbig:A.AN.length+P.Ai.length+A.j.Ak.length+2*sg.length<=1073741824):(A.aP P wa o).1=0\/(A.aP P wa o).1=5\/(A.aP P wa o).1=6:=by
 have hl0:(B7 sg cl ol).length=(Au sg).length+(Au cl++ol.getD []).length:=by unfold B7;rw[AY]
 have hL:=h.AV.ay (P':=P.aQ) λm=>((AG.aQ P).bs m).symm
 have hc:Cm P.aQ 4611686018427387904 4611686018427387904:=h.di.bc.aQ;have Y:P.aQ.Ai.length<=1073741824:=by
  have e:P.aQ.Ai=P.Ai:=rfl;rw[e];omega
 have hq:=(hL.aP (od:=o) hw (N:=0) (R:=0) (K:=1073741824) (n:=n) z (by omega) Y (by omega) (by omega) (by omega) (hc.af (by omega) (by omega)) hn O).1;refine DD.cE (b:=(A.aP P.aQ wa o).1) ?_ hq;have hp:=h.AV.pd h.CZ;have E:=HH hw (B7 sg cl ol);have hfl2:=E.B4;have d:=Kh sg o (By wa (B7 sg cl ol));have L:=d.length_eq;have I:=d.flatten.length_eq;have hal:(E2 o (By wa (B7 sg cl ol))).length<=(By wa (B7 sg cl ol)).length:=J8 _ _;have H:=(Ko (λl=>l.any λp=>decide (o<=p.2.1)) (By wa (B7 sg cl ol))).length_le;have haf2:(E2 o (By wa (B7 sg cl ol))).flatten.length<=(By wa (B7 sg cl ol)).flatten.length:=H;have hfl:=Hm E.ne;have hcost:=K0 (BJ sg o (By wa (B7 sg cl ol))).2;rw[AY,FW]at L;rw[WT,AY]at I;have hks:(BJ sg o (By wa (B7 sg cl ol))).1.length=(Gn sg o (By wa (B7 sg cl ol))).length:=by rw[Ki,FW]
 have W:P.aQ.dl=P.Ai.length:=by rw[HJ];rfl
 unfold Ar.aP;rw[<- (AG.aQ P).sd,h.AV.b4];dsimp only
 have e2:sg.flatMap (·.2)++(P.pd A.j.Ak).1=B7 sg cl ol:=by rw[hp];rfl
 rw[<- (AG.aQ P).pd,e2,hp,Aa (by simp),Aa (by simp)];exact TD (N:=0) (R:=0) (AG.aQ P) _ _ (hc.af (by rw[W];omega) (by rw[NQ];omega))
end
def Ib(n:DN):(bg n).2.2.AA=n.AA:=by
 unfold bg;dsimp only
 split
 ·rfl
 ·split
  ·rfl
  ·split<;>rfl
def Od{F G:Nat->FC}:∀ {es:gh AM},(∀e∈es,(G e.2).1.length=(F e.2).1.length)->B6 G es=B6 F es
 | [],_=>rfl
 | e::r,h=>by
  simp only[B6];rw[h e (Bt ..),Od λx d=>h x (Bp _ d)]
section
variable{P P':PD}{A:Ar}{J:Jn}{nm:Bs}
def Ro(d:Extra P nm P'):B6 P'.F P'.D.A4<=B6 P.F P.D.A4+(P'.F P.D.AR).1.length:=by
 have oe:B6 P'.F P.D.A4=B6 P.F P.D.A4:=Od λe z=>by
  rw[d.Eu _ λh=>P.D.cg (h ▸ .inl ⟨e,z,rfl⟩)]
 rcases d.da with⟨d1,_⟩|⟨_,d1,_⟩
 ·rw[d1,oe];omega
 ·rw[d1,Le,oe];simp[B6]
def Rn(P:PD)(x:gg):B6 (P.ad x).2.F (P.ad x).2.D.A4=B6 P.F P.D.A4:=by
 unfold PD.ad Cq;split
 ·rfl
 ·dsimp only
  refine Od λe _=>?_;split
  ·unfold upd;split
   ·rename_i h;rw[h]
   ·rfl
  ·rfl
def Rm:∀(l:gh Bs) (P:PD),B6 (PD.az l P).2.F (PD.az l P).2.D.A4=B6 P.F P.D.A4
 | [],_=>rfl
 | nm::r,P=>by
  unfold PD.az;split
  ·exact Rn P _
  ·rw[Rm r,Rn]
def Xy(A:Ar)(P:PD):B6 (A.C P).2.2.F (A.C P).2.2.D.A4=B6 P.F P.D.A4:=by
 unfold Ar.C;split<;>exact Rm _ P
def ML(P:PD)(x:gg):(P.ad x).2.D.n.AA=P.D.n.AA:=by
 unfold PD.ad Cq;split
 ·rfl
 ·exact Ib _
def Sj:∀(l:gh Bs) (P:PD),(PD.az l P).2.D.n.AA=P.D.n.AA
 | [],_=>rfl
 | nm::r,P=>by
  unfold PD.az;split
  ·exact ML P _
  ·rw[Sj r,ML]
def Jh(A:Ar)(P:PD):(A.C P).2.2.D.n.AA=P.D.n.AA:=by
 unfold Ar.C;split<;>exact Sj _ P
def Ji(P:PD)(x:gg):(P.ai x).2.D.n.AA=P.D.n.AA:=by
 unfold PD.ai CN;split
 ·rfl
 ·dsimp only
  split<;>exact Ib _
def Sn(P:PD)(x:gg)(l:Bs):(P.ak x l).2.D.n.AA=P.D.n.AA:=by
 have d:∀D F f y h e,(Bw D F f y h e).2.1.n.AA=D.n.AA:=λD F f y h e=>by
  unfold Bw;split
  ·dsimp only;split<;>rfl
  ·rfl
 unfold PD.ak Bj;split
 ·rfl
 ·dsimp only
  split
  ·rw[d];exact Ib _
  ·split
   ·rw[d];exact Ib _
   ·exact Ib _
def ON(J:Jn)(P:PD):(J.aw P).2.2.D.n.AA=P.D.n.AA:=by
 unfold Jn.aw;split
 ·exact Ji P _
 ·dsimp only
  have h:((P.ai (A6 (Af (J.A8+1)))).2.ae (A6 (Af (J.A8+1))) (AB (Af (J.A8+1))) (AO J.pd)).2.2.D.n.AA=P.D.n.AA:=(Sn _ _ _).trans (Ji P _);split<;>exact h
def Qw{x:gg}{l:Bs}(h:(P.ak x l).1=6):P.D.n.AA-B6 P.F P.D.A4<l.length:=by
 have L:=Gw P.D.n;have d:∀D z,∀e:Int,e=0\/e=5->(Bw D P.F 0 (A6 l) z e).1=6->e=0/\z>Fv D P.F:=λD z e he h=>by
  unfold Bw at h;split at h
  ·rename_i E;dsimp only at h;split at h
   ·rename_i W;exact⟨W,E⟩
   ·omega
  ·dsimp only at h;omega
 have O:∀D f z e,(Bw D P.F f (A6 l) z e).1=(Bw D P.F 0 (A6 l) z e).1:=λD f z e=>by unfold Bw;split<;>rfl
 have I:((A6 l).size:Int)=l.length:=by rw[Kc]
 unfold PD.ak Bj at h;split at h
 ·cases h
 ·rename_i f hf;dsimp only at h;split at h
  ·rw[O]at h;have⟨_,E⟩:=d _ _ _ L h;unfold Fv at E;dsimp only at E;rw[Ib,I]at E;omega
  ·rename_i H;split at h
   ·rw[O]at h;have⟨h0,_⟩:=d _ _ _ L h;exact absurd (H8 h0) H
   ·omega
def Vu(P:PD)(x:gg):(P.ai x).1≠6:=by
 have:=Gw P.D.n;unfold PD.ai CN;split
 ·simp
 ·dsimp only;omega
def A37(h:(J.aw P).1=6):P.D.n.AA-B6 P.F P.D.A4<12:=by
 have⟨e1,e2⟩:=Kq P (Af (J.A8+1));have d:(P.ai (A6 (Af (J.A8+1)))).2.F P.D.AR=([],0):=by unfold PD.ai;simp[upd]
 have hu:=Ro e1;rw[d]at hu;unfold Jn.aw at h;split at h
 ·exact absurd h (Vu P _)
 ·dsimp only at h;split at h
  ·have:=Qw (P:=(P.ai (A6 (Af (J.A8+1)))).2) (x:=A6 (Af (J.A8+1))) (l:=AS (AB (Af (J.A8+1))) (AO J.pd)) h;rw[EL,CQ,Ji]at this;simp only[J7]at hu;omega
  ·cases h
def Ti{p:Pu}(h:(J.ax P p).2.1=6):P.D.n.AA-B6 P.F P.D.A4<21:=by
 unfold Jn.ax at h;split at h
 ·cases h
 ·rename_i n s _;have:=Qw (P:=P) (x:=A6 (Af n)) (l:=AS s (Bc p.1 p.2.1 p.2.2)) h;rw[EL,F7]at this;omega
def A1M{p:Pu}(h:(J.ae P p).2.1=6):P.D.n.AA-B6 P.F P.D.A4<33:=by
 unfold Jn.ae at h;split at h
 ·split at h
  ·have:=A37 h;omega
  ·have d:=Ti h;have⟨b1,⟨j,b2⟩,_⟩:=Nu P J;have hu:=Ro b1;rw[b2]at hu;dsimp only at hu;rw[BT,EL,CQ]at hu;rw[ON]at d;omega
 ·have:=Ti h;omega
def A4n{p:Pu}(h:(A.ae P p).2.1=6):P.D.n.AA-B6 P.F P.D.A4<200:=by
 unfold Ar.ae at h;split at h
 ·exact absurd h (OC A P)
 ·have:=A1M h;rw[Jh,Xy]at this;omega
end
section
variable{P:PD}{A:Ar}{a c m:Nat}
def Fit.aj:∀(H:gh (gh Pu)) (z:Int) (E:gh Int) (P:PD) (a c m:Nat),Fit P a c m->Fit (PD.aj H z E P).2.2.2 (a+H.length) (c+H.length) (m+Dr H)/\(PD.aj H z E P).2.2.1.length<=E.length+H.length
 | [],z,E,P,a,c,m,h=>⟨h,by simp[PD.aj]⟩
 | l::r,z,E,P,a,c,m,h=>by
  have I:=h.aI (z+1) l;have d:Dr (l::r)=(17*l.length+4)+Dr r:=by simp[Dr]
  rw[TZ];split
  ·exact⟨I.af (by simp) (by simp) (by rw[d];omega),by simp⟩
  ·have⟨i1,i2⟩:=Fit.aj r (z+1) (E++[z+1]) _ _ _ _ I;exact⟨i1.af (by simp;omega) (by simp;omega) (by rw[d];omega),by simp at i2 ⊢;omega⟩
def Fit.aF(h:Fit P a c m)(z:gh Int)(d:gh (gh Pu)):Fit (A.aF P z d).2.2 (a+d.length+2) (c+2*a+2*d.length+4) (m+Dr d+12+8*(z.length+d.length)):=by
 rw[Su];have H:=h.aL (A:=A);split
 ·exact H.af (by omega) (by omega) (by omega)
 ·have⟨h2,h3⟩:=Fit.aj d (A.aL P).2.1.A8 z _ _ _ _ H;split
  ·exact h2.af (by omega) (by omega) (by omega)
  ·have E:=h2.cw (A:={ (A.aL P).2.1 with A8:=(PD.aj d (A.aL P).2.1.A8 z (A.aL P).2.2).2.1}) (PD.aj d (A.aL P).2.1.A8 z (A.aL P).2.2).2.2.1;split
   ·exact E.af (by omega) (by omega) (by omega)
   ·unfold Ar.a6;have I:=Fit.au (A:=(({ (A.aL P).2.1 with A8:=(PD.aj d (A.aL P).2.1.A8 z (A.aL P).2.2).2.1}:Ar).ah (PD.aj d (A.aL P).2.1.A8 z (A.aL P).2.2).2.2.2 (PD.aj d (A.aL P).2.1.A8 z (A.aL P).2.2).2.2.1).2.1) E;split
    ·exact I.af (by omega) (by omega) (by omega)
    ·exact I.av.af (by omega) (by omega) (by omega)
def Fit.bV(h:Fit P a c m)(nm:gg)(s:Nat)(l:Bs):Fit (P.ae nm s l).2.2 a c (m+(l.length+4)):=by
 have:=h.ak nm (AS s l);rw[EL]at this;exact this
def Fit.dS{J:Jn}(h:Fit P a c m):Fit (J.aw P).2.2 (a+1) (c+1) (m+12):=by
 unfold Jn.aw;have z:=h.ai (A6 (Af (J.A8+1)));have d:=z.bV (A6 (Af (J.A8+1))) (AB (Af (J.A8+1))) (AO J.pd);rw[CQ]at d;split
 ·exact z.af (Ao _) (Ao _) (by omega)
 ·dsimp only
  split
  ·exact d
  ·exact d
def Fit.dJ{J:Jn}(h:Fit P a c m)(p:Pu):Fit (J.ax P p).2.2.2 a c (m+21):=by
 unfold Jn.ax;cases J.AE with
 | none=>exact h.af (Ao _) (Ao _) (by omega)
 | some x=>
  obtain⟨n,s⟩:=x;have d:=h.bV (A6 (Af n)) s (Bc p.1 p.2.1 p.2.2);rw[F7]at d;exact d
def Fit.fF{J:Jn}(h:Fit P a c m)(p:Pu):Fit (J.ae P p).2.2.2 (a+1) (c+1) (m+33):=by
 unfold Jn.ae;split
 ·split
  ·exact h.dS.af (Ao _) (Ao _) (by omega)
  ·exact(h.dS.dJ p).af (Ao _) (Ao _) (by omega)
 ·exact(h.dJ p).af (by omega) (by omega) (by omega)
def Fit.fw(h:Fit P a c m)(p:Pu):Fit (A.ae P p).2.2.2 (a+1) (c+1) (m+33):=by
 unfold Ar.ae;split
 ·exact h.C.af (by omega) (by omega) (by omega)
 ·exact h.C.fF p
def Fit.fL(h:Fit P a c m):Fit (A.ad P).2.2 a c m:=by
 have d:=h.C (A:=A);have z:∀J:Jn,Fit (J.ad (A.C P).2.2).2 a c m:=λJ=>by
  unfold Jn.ad;cases J.AE with
  | none=>exact d
  | some x=>exact d.ad _
 unfold Ar.ad;split
 ·exact d
 ·split
  ·exact z _
  ·exact(z _).av
end
end
section
open Go.RowKit
attribute [local go_sem ↓] CJ
def AX.bz{w:ga}{g n cap:Nat}{l:gh Pu}(h:w.ownsRow 0 113 3 (AH g n cap) n (Bb l))(k:Nat)(d:k<l.length)(p:Pu)(z:l[k]'d=p):
 w.cell? (Ac g (k*3))=some (A0 p.1)/\A7 w g (k*3+1) (A0 p.2.1)/\A7 w g (k*3+2) (A0 p.2.2):=by
 have⟨q1,q2,q3⟩:=Hz l k d;rw[z]at q1 q2 q3;exact⟨BH h rfl q1,BH h rfl q2,BH h rfl q3⟩
def PZ{α:Type}(A C:gh α)(x:α)(h:A.length<(A++x::C).length):(A++x::C)[A.length]'h=x:=by
 rw[GH (Ao _)];simp
def JX{α:Type}(A C:gh α)(x y:α):(A++x::C).set A.length y=A++y::C:=by
 rw[KK _ _ (Ao _)];simp
def XX{a b c n:Nat}(hn:n<=9223372036854775807)(hbn:b+c<=n)(hab:a+c<=b)(i:Nat)(hi:i<c):
 a+i<n/\b+i<n/\IntKind.i64.wrap ((a:Int)+(i:Int))=((a+i:Nat):Int)/\IntKind.i64.wrap ((b:Int)+(i:Int))=((b+i:Nat):Int)/\wrap64 ((a:Int)+(i:Int))=((a+i:Nat):Int)/\wrap64 ((b:Int)+(i:Int))=((b+i:Nat):Int)/\((a+i:Nat):Int)<(n:Int)/\((b+i:Nat):Int)<(n:Int):=by
 refine⟨by omega,by omega,?_,?_,by unfold wrap64;omega,by unfold wrap64;omega,by omega,by omega⟩
 ·simp[IntKind.wrap,IntKind.bits,IntKind.signed];omega
 ·simp[IntKind.wrap,IntKind.bits,IntKind.signed];omega
section
variable{w w':ga}{g cap n:Nat}
def XZ(w:ga)(g cap n:Nat)(A X M Y Z:gh Pu)(cv:gd)(aD:X.length=Y.length)(hn:n=(A++X++M++Y++Z).length)(h:w.ownsRow 0 113 3 (AH g n cap) n (Bb (A++X++M++Y++Z))):
 Ag 273 #[AH g n cap,A0 A.length,A0 ((A.length+X.length+M.length:Nat):Int),A0 X.length,cv] w (Am (.tuple #[]) λw'=>
  w'.ownsRow 0 113 3 (AH g n cap) n (Bb (A++Y++M++X++Z))/\A3 (One g) w w'):=by
 obtain⟨a,ha⟩:∃a,A.length=a:=⟨_,rfl⟩;obtain⟨b,hb⟩:∃b,A.length+X.length+M.length=b:=⟨_,rfl⟩;obtain⟨c,hc⟩:∃c,X.length=c:=⟨_,rfl⟩;have aB:n<=cap/\cap<=9223372036854775807:=by
  have⟨a',c',e,h1,h2,_⟩:=B9 h;cases e;unfold maxLen at h2;omega
 obtain⟨aQ,aL⟩:=aB;have aO:b+c<=n:=by rw[hn];simp only[AY];omega
 have aN:a+c<=b:=by omega
 obtain⟨d,E⟩:∃d:Nat->gh Pu,d=λi=>A++(Y.take i++X.drop i)++M++(X.take i++Y.drop i)++Z:=⟨_,rfl⟩;have aA:Hid (∀i,i<c->∃x y,(∀hk,(d i)[a+i]'hk=x)/\(∀hk,(d i)[b+i]'hk=y)/\(d i).length=n/\(∀hk,((d i).set (a+i) y)[b+i]'hk=y)/\((d i).set (a+i) y).set (b+i) x=d (i+1)):=λi hi=>by
  have H:i<X.length:=by omega
  have L:i<Y.length:=by omega
  have dx:X.drop i=X[i]'H::X.drop (i+1):=FB H;have dy:Y.drop i=Y[i]'L::Y.drop (i+1):=FB L;have tx:X.take (i+1)=X.take i++[X[i]'H]:=Dy H;have ty:Y.take (i+1)=Y.take i++[Y[i]'L]:=Dy L;obtain⟨x,hx⟩:∃x,X[i]'H=x:=⟨_,rfl⟩;obtain⟨y,hy⟩:∃y,Y[i]'L=y:=⟨_,rfl⟩;rw[hx]at dx tx;rw[hy]at dy ty;have e1:d i=(A++Y.take i)++x::((X.drop (i+1)++M++X.take i)++y::(Y.drop (i+1)++Z)):=by
   rw[E];dsimp only;rw[dx,dy];simp
  have e2:d (i+1)=(A++Y.take i)++y::((X.drop (i+1)++M++X.take i)++x::(Y.drop (i+1)++Z)):=by
   rw[E];dsimp only;rw[tx,ty];simp
  have l1:(A++Y.take i).length=a+i:=by simp;omega
  have e3:∀z:Pu,(A++Y.take i)++z::((X.drop (i+1)++M++X.take i)++y::(Y.drop (i+1)++Z))=((A++Y.take i)++z::(X.drop (i+1)++M++X.take i))++y::(Y.drop (i+1)++Z):=λz=>by simp
  have l2:∀z:Pu,((A++Y.take i)++z::(X.drop (i+1)++M++X.take i)).length=b+i:=λz=>by simp;omega
  have s1:(d i).set (a+i) y=((A++Y.take i)++y::(X.drop (i+1)++M++X.take i))++y::(Y.drop (i+1)++Z):=by
   rw[e1,<-l1,JX,e3]
  refine⟨x,y,λhk=>?_,λhk=>?_,?_,λhk=>?_,?_⟩
  ·have:=PZ (A++Y.take i) ((X.drop (i+1)++M++X.take i)++y::(Y.drop (i+1)++Z)) x (by simp);simp only[e1,<-l1];exact this
  ·have:=PZ ((A++Y.take i)++x::(X.drop (i+1)++M++X.take i)) (Y.drop (i+1)++Z) y (by simp);simp only[e1,e3,<-l2 x];exact this
  ·rw[e1,hn];simp;omega
  ·have:=PZ ((A++Y.take i)++y::(X.drop (i+1)++M++X.take i)) (Y.drop (i+1)++Z) y (by simp);simp only[s1,<-l2 y];exact this
  ·rw[s1,<-l2 y,JX,e2];simp
 have aK:Hid (∀i,i<c->_):=XX (AJ aQ aL) aO aN;have aR:Hid (w.ownsRow 0 113 3 (AH g n cap) n (Bb (d 0))):=by
  unfold Hid;rw[E];simpa using h
 have aS:Hid (d c=A++Y++M++X++Z):=by
  unfold Hid;rw[E];dsimp only;rw[<-hc,Cf,GI,aD,Cf,GI];simp
 rw[hb,ha,hc];clear E h hn hb ha hc aD
 go_enter func273,ntmps273
 go_wp2;go_loopw [10] (λiv wr=>∃i:Nat,iv=A0 (i:Int)/\i<=c/\Hid (wr.ownsRow 0 113 3 (AH g n cap) n (Bb (d i))/\A3 (One g) w wr)) (λiv _=>c-(intOf iv).toNat)
 ·exact⟨0,by go_num,by omega,aR.o,A3.I _ _⟩
 ·obtain⟨i,rfl,hic,hI⟩:=hrel;by_cases I:i<c
  ·have hltI:(i:Int)<(c:Int):=F5.2 I;have⟨hPn,hQn,ew1,ew2,eu1,eu2,PI,QI⟩:=aK.o i I;have⟨i1,i2⟩:=hI.o;have⟨x,y,sx,sy,sl,sb,sn⟩:=aA.o i I;obtain⟨P,hP⟩:∃P,a+i=P:=⟨_,rfl⟩;obtain⟨Q,hQ⟩:∃Q,b+i=Q:=⟨_,rfl⟩;rw[hP]at sx sb sn hPn ew1 eu1 PI;rw[hQ]at sy sb sn hQn ew2 eu2 QI;have⟨x1,x2,x3⟩:=AX.bz i1 P (NJ hPn sl.symm) x (sx _);have⟨y1,y2,y3⟩:=AX.bz i1 Q (NJ hQn sl.symm) y (sy _);have P0:=C3 P;have Q0:=C3 Q;have tP:(P:Int).toNat=P:=EH P;have tQ:(Q:Int).toNat=Q:=EH Q;have aF:=AX.bl i1 P (NJ hPn sl.symm) y;have aH:=AX.bl aF Q (NJ hQn ((HU ..).trans sl).symm) x;rw[sn]at aH;have fz:∀o,wr.frozen? (Ac g o)=false:=λo=>Gk i1 rfl o;obtain⟨xa,xb,xc⟩:=x;obtain⟨W,yb,O⟩:=y;dsimp only at x1 x2 x3 y1 y2 y3 aF aH;have aP:∀o,((((wr.setCell (Ac g (P*3)) (A0 W)).setCell (Ac g (P*3+1)) (A0 yb)).setCell (Ac g (P*3+2)) (A0 O))).drew.frozen? (Ac g o)=false:=λo=>Gk aF rfl o;have z:=AX.bz aF Q (NJ hQn ((HU ..).trans sl).symm) _ (sb _);obtain⟨z1,z2,z3⟩:=z;dsimp only at z1 z2 z3;have aJ:((((wr.setCell (Ac g (P*3)) (A0 W)).setCell (Ac g (P*3+1)) (A0 yb)).setCell (Ac g (P*3+2)) (A0 O))).drew.cell? (Ac g (Q*3))=some (A0 W):=z1;have aM:((((wr.setCell (Ac g (P*3)) (A0 W)).setCell (Ac g (P*3+1)) (A0 yb)).setCell (Ac g (P*3+2)) (A0 O))).drew.cell? (Ac g (Q*3+1))=some (A0 yb):=z2;have aI:((((wr.setCell (Ac g (P*3)) (A0 W)).setCell (Ac g (P*3+1)) (A0 yb)).setCell (Ac g (P*3+2)) (A0 O))).drew.cell? (Ac g (Q*3+2))=some (A0 O):=z3;have aU:Hid (A3 (One g) w (((((((wr.setCell (Ac g (P*3)) (A0 W)).setCell (Ac g (P*3+1)) (A0 yb)).setCell (Ac g (P*3+2)) (A0 O)).drew.setCell (Ac g (Q*3)) (A0 xa)).setCell (Ac g (Q*3+1)) (A0 xb)).setCell (Ac g (Q*3+2)) (A0 xc)))):=
    (((((i2.aq (b:=g) rfl _ _).aq (b:=g) rfl _ _).aq (b:=g) rfl _ _).ag.aq (b:=g) rfl _ _).aq (b:=g) rfl _ _).aq (b:=g) rfl _ _
   have aG:Hid ((((((((wr.setCell (Ac g (P*3)) (A0 W)).setCell (Ac g (P*3+1)) (A0 yb)).setCell (Ac g (P*3+2)) (A0 O)).drew.setCell (Ac g (Q*3)) (A0 xa)).setCell (Ac g (Q*3+1)) (A0 xb)).setCell (Ac g (Q*3+2)) (A0 xc))).ownsRow 0 113 3 (AH g n cap) n (Bb (d (i+1)))):=aH;have aE:=A1 I;clear aF aH z1 z2 z3 i1 i2 sx sy sl sb sn hI aA aR aS hP hQ I hPn hQn;go_wp2;refine Mv 21 (λw'=>A7 w' g (P*3) (A0 xa)/\A7 w' g (P*3+1) (A0 xb)/\A7 w' g (P*3+2) (A0 xc)/\A7 w' g (Q*3) (A0 W)/\A7 w' g (Q*3+1) (A0 yb)/\A7 w' g (Q*3+2) (A0 O)) 22
    [(0,1),(1,1),(2,1),(3,1),(8,1),(9,1),(10,1),(11,1),(12,1),(13,1),(14,2),(15,2),(16,2),(17,2),(18,2),(19,1),(20,1),(4,2),(5,2),(6,2),(7,2),(21,0)] ⟨x1,x2,x3,y1,y2,y3⟩ ?_
   iterate 10 refine Is ?_
   iterate 5 refine It ?_
   iterate 2 refine Is ?_
   iterate 4 refine It ?_
   refine Mx λK hK=>?_;go_simp;refine hK _ _ ?_;refine Mw ?_;generalize (((wr.setCell (Ac g (P*3)) (A0 W)).setCell (Ac g (P*3+1)) (A0 yb)).setCell (Ac g (P*3+2)) (A0 O)).drew=w7 at aP aU aG aJ aM aI ⊢;go_wp2;go_roundw
   ·exact⟨i+1,by go_num,aE.o,Ax aG.o λ_ _=>rfl,aU.o⟩
   ·have h:=aE.o;simp[intOf];omega
  ·(obtain rfl:i=c:=by omega);have aT:=A1 hI.o;(have hno:¬((i:Int)<(i:Int)):=by omega);go_wp2;go_end0;exact⟨rfl,by have h:=aT.o.1;rw[aS.o]at h;simpa using h,aT.o.2⟩
end
end
end Go.Proofs.YtodcnkbblippnaaGreatDoor
