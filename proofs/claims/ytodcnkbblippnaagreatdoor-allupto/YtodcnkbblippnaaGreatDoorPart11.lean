/- Part 11 of a proof: walks of the program. -/
import Derived.Test.YtodcnkbblippnaaGreatDoorPart09
import Derived.Test.YtodcnkbblippnaaGreatDoorPart10
namespace Go.Proofs.YtodcnkbblippnaaGreatDoor
set_option maxRecDepth 100000
set_option maxHeartbeats 32000000
set_option linter.defProp false
open Go.Proofs.Tryz
section
open Go.RowKit
def DW(a b:Int):Prop:=a=5\/a=6\/a=b
section
variable{P Q:PD}{N R:Nat}{A:Ar}{J:Jn}
def Tj{nm:gE}(h:AK P Q)(z:Cm Q (N+1) R):DW (P.aq nm).1 (Q.aq nm).1:=by
 have:=HR P.D.n;unfold PD.aq CY;rw[h.A6];by_cases d:nm=ByteArray.empty\/Bb Q.D.A6 nm≥0
 ·rw[Ai d,Ai d];exact .inr (.inr rfl)
 ·rw[Af d,Af d];dsimp only
  rw[z.bg];rcases this with e|e
  ·exact .inr (.inr e)
  ·exact .inl e
def OY{nm:gE}(h:AK P Q)(d:Cm Q (N+1) R):DW (P.ae nm).1 (Q.ae nm).1:=by
 have:=HR P.D.n;unfold PD.ae CP;rw[h.A6];cases lookup Q.D.A6 nm with
 | none=>exact .inr (.inr rfl)
 | some f=>
  dsimp only
  rw[d.bg];rcases this with e|e
  ·exact .inr (.inr e)
  ·exact .inl e
def Tc(d:Cm Q (N+1) R):DW P.aI.1 Q.aI.1:=by
 have:=HR P.D.n;unfold PD.aI Ef;dsimp only
 rw[d.bg];rcases this with e|e
 ·exact .inr (.inr e)
 ·exact .inl e
def ZW{nm:gE}(h:AK P Q)(z:Cm Q (N+1) R):DW (P.aF nm).1 (Q.aF nm).1:=by
 have:=HR P.D.n;unfold PD.aF DB;rw[h.A6];by_cases d:Bb Q.D.A6 nm<0
 ·rw[Ai d,Ai d];exact .inr (.inr rfl)
 ·rw[Af d,Af d];dsimp only
  rw[z.bg];rcases this with e|e
  ·exact .inr (.inr e)
  ·exact .inl e
def ZV{oe nm:gE}(h:AK P Q)(z:Cm Q (N+1) R):DW (P.aQ oe nm).1 (Q.aQ oe nm).1:=by
 have:=HR P.D.n;unfold PD.aQ Da;rw[h.A6];cases lookup Q.D.A6 oe with
 | none=>exact .inr (.inr rfl)
 | some f=>
  dsimp only
  by_cases d:nm=ByteArray.empty
  ·rw[Ai d,Ai d];exact .inr (.inr rfl)
  ·rw[Af d,Af d];dsimp only
   rw[z.bg];rcases this with e|e
   ·exact .inr (.inr e)
   ·exact .inl e
def or_append{nm:gE}{l:Bs}(h:AK P Q)(Y:Cm Q (N+1) R)(O:l.length<=R):DW (P.au nm l).1 (Q.au nm l).1:=by
 by_cases d:(P.au nm l).1=0
 ·exact .inr (.inr (by rw[d,(h.au Y O d).1]))
 ·have L:=HR P.D.n;have z:∀D F f x n0,∀e:Int,e=0\/e=5->(BP D F f x n0 e).1=5\/(BP D F f x n0 e).1=6\/(BP D F f x n0 e).1=0:=λD F f x n0 e X=>by
   unfold BP;rcases X with rfl|rfl
   ·split
    ·exact .inr (.inl rfl)
    ·exact .inr (.inr rfl)
   ·split
    ·exact .inl rfl
    ·exact .inl rfl
  unfold PD.au BA at d ⊢;rw[h.A6]at d ⊢;cases hx:lookup Q.D.A6 nm with
  | none=>exact .inr (.inr rfl)
  | some f=>
   rw[hx]at d;dsimp only at d ⊢;split at d
   ·rename_i I;rw[Ai I];rcases z {A6:=Q.D.A6,AG:=P.D.AG,As:=P.D.As,n:=(bg P.D.n).2.2} P.F f (Ab l) (Ab l).size _ L with e|e|e
    ·exact .inl e
    ·exact .inr (.inl e)
    ·exact absurd e d
   ·rename_i I;rw[Af I];split at d
    ·rename_i E;rw[Ai E];rcases z {A6:=Q.D.A6,AG:=P.D.AG,As:=P.D.As,n:=(bg P.D.n).2.2} P.F f (Ab l) ((bg P.D.n).2.2.BG % (Ab l).size) _ L with e|e|e
     ·exact .inl e
     ·exact .inr (.inl e)
     ·exact absurd e d
    ·rename_i E;rw[Af E];rcases L with e|e
     ·exact absurd e d
     ·exact .inl e
def P4{nm:Bs}{s:Nat}{l:Bs}(h:AK P Q)(z:Cm Q (N+1) R)(d:l.length+4<=R):DW (P.af (Ab nm) s l).2.1 (Q.af (Ab nm) s l).2.1:=or_append (l:=AT s l) h z (by rw[EP];exact d)
def DW.bq{a b:Int}(h:DW a b)(ha:¬a=0){c:Int}(d:b≠0->c=b):DW a c:=by
 rcases h with e|e|e
 ·exact .inl e
 ·exact .inr (.inl e)
 ·exact .inr (.inr (by rw[d iC];exact e))
def Tb{nm:Bs}{s:Nat}{l:Bs}(h:AK P Q)(L:Cm Q (N+3) R)(I:l.length+4<=R):DW (P.aH nm s l).1 (Q.aH nm s l).1:=by
 unfold PD.aH;by_cases z:(P.aq (Ab nm)).1=0
 ·have⟨a1,a2,a3⟩:=h.aq (N:=N+2) L z;rw[Af (nn z),Af (nn a1)];by_cases d:((P.aq (Ab nm)).2.af (Ab nm) s l).2.1=0
  ·obtain⟨-,b1,b2,O⟩:=a2.b1 (N:=N+1) (nm:=nm) (s:=s) (l:=l) a3 I d;rw[Af (nn d),Af (nn b1)];exact OY b2 O
  ·rw[Ai d];refine(P4 (N:=N+1) a2 a3 I).bq d λE=>?_;rw[Ai E]
 ·rw[Ai z];refine(Tj (N:=N+2) h L).bq z λE=>?_;rw[Ai E]
def Td:∀(l:gF Bs) {P Q:PD},AK P Q->Cm Q (N+l.length) R->DW (PD.ax l P).1 (PD.ax l Q).1
 | [],_,_,_,_=>.inr (.inr rfl)
 | nm::r,P,Q,h,hc=>by
  have d:Cm Q (N+r.length+1) R:=hc.ah (by simp;omega) (An _);unfold PD.ax;by_cases z:(P.ae (Ab nm)).1=0
  ·have⟨a1,a2,a3⟩:=h.ae d z;rw[Af (nn z),Af (nn a1)];exact Td r a2 a3
  ·rw[Ai z];refine(OY h d).bq z λE=>?_;rw[Ai E]
def Tg:∀(l:gF Bs) {P Q:PD},AK P Q->Cm Q (N+l.length) R->DW (PD.aN l P).1 (PD.aN l Q).1
 | [],_,_,_,_=>.inr (.inr rfl)
 | nm::r,P,Q,h,hc=>by
  have d:Cm Q (N+r.length+1) R:=hc.ah (by simp;omega) (An _);unfold PD.aN;by_cases z:(P.aF (Ab nm)).1=0
  ·have⟨a1,a2,a3⟩:=h.aF d z;rw[Af (nn z),Af (nn a1)];exact Tg r a2 a3
  ·rw[Ai z];refine(ZW h d).bq z λE=>?_;rw[Ai E]
def OZ(h:AK P Q)(z:Cm Q (N+A.AS.length) R):DW (A.I P).1 (A.I Q).1:=by
 unfold Ar.I;by_cases d:(PD.ax A.AS P).1=0
 ·have⟨a1,_⟩:=AK.ax A.AS h z d;rw[Af (nn d),Af (nn a1)];exact .inr (.inr rfl)
 ·rw[Ai d];refine(Td A.AS h z).bq d λE=>?_;rw[Ai E]
def Te(h:AK P Q)(d:Cm Q (N+(A.aU Q).length) R):DW (A.ay P).1 (A.ay Q).1:=by
 unfold Ar.ay;rw[h.aU];exact Tg _ h d
def A0b(h:AK P Q)(I:Cm Q (N+2) R)(hR:12<=R):DW (J.aw P).1 (J.aw Q).1:=by
 unfold Jn.aw;by_cases z:(P.aq (Ab (Ah (J.Ac+1)))).1=0
 ·have⟨a1,a2,a3⟩:=h.aq (N:=N+1) I z;rw[Af (nn z),Af (nn a1)];dsimp only
  by_cases d:((P.aq (Ab (Ah (J.Ac+1)))).2.af (Ab (Ah (J.Ac+1))) (AI (Ah (J.Ac+1))) (AQ J.pd)).2.1=0
  ·obtain⟨-,b1,_⟩:=a2.b1 (N:=N) (nm:=Ah (J.Ac+1)) (s:=AI (Ah (J.Ac+1))) (l:=AQ J.pd) a3 (by rw[CT];omega) d;rw[Af (nn d),Af (nn b1)];exact .inr (.inr rfl)
  ·rw[Ai d];refine(P4 (N:=N) a2 a3 (by rw[CT];omega)).bq d λE=>?_;rw[Ai E]
 ·rw[Ai z];refine(Tj (N:=N+1) h I).bq z λE=>?_;rw[Ai E]
def Th(h:AK P Q)(d:Cm Q (N+1) R)(hR:21<=R)(p:Pu):DW (J.az P p).2.1 (J.az Q p).2.1:=by
 unfold Jn.az;cases J.AB with
 | none=>exact .inr (.inr rfl)
 | some x=>exact P4 h d (by rw[FH];omega)
def ZZ(h:AK P Q)(z:Cm Q (N+3) R)(hR:33<=R)(p:Pu):DW (J.af P p).2.1 (J.af Q p).2.1:=by
 unfold Jn.af;split
 ·by_cases d:(J.aw P).1=0
  ·have⟨a1,a2,a3,a4⟩:=h.aw (N:=N+1) z iC d;rw[Af (nn d),Af (nn a1),a2];exact Th a3 a4 iC p
  ·rw[Ai d];refine(A0b (N:=N+1) h z iC).bq d λE=>?_;rw[Ai E]
 ·exact Th (N:=N+2) h z iC p
def A0e(h:AK P Q)(L:Cm Q (N+A.AS.length+3) R)(I:33<=R)(p:Pu):DW (A.af P p).2.1 (A.af Q p).2.1:=by
 have d:Cm Q (N+3+A.AS.length) R:=L.ah iC (An _);unfold Ar.af;by_cases z:(A.I P).1=0
 ·have⟨a1,a2,a3,a4⟩:=h.I d z;rw[Af (nn z),Af (nn a1),a2];exact ZZ a3 a4 I p
 ·rw[Ai z];refine(OZ h d).bq z λE=>?_;rw[Ai E]
def ZY(h:AK P Q)(d:Cm Q (N+1) R):DW (J.ae P).1 (J.ae Q).1:=by
 unfold Jn.ae;cases J.AB with
 | none=>exact .inr (.inr rfl)
 | some x=>exact OY h d
def A0d(h:AK P Q)(L:Cm Q (N+A.AS.length+2) R):DW (A.ae P).1 (A.ae Q).1:=by
 have d:Cm Q (N+2+A.AS.length) R:=L.ah iC (An _);unfold Ar.ae;by_cases E:(A.I P).1=0
 ·have⟨a1,a2,a3,a4⟩:=h.I d E;rw[Af (nn E),Af (nn a1),a2];by_cases z:((A.I Q).2.1.j.ae (A.I P).2.2).1=0
  ·have⟨b1,b2,b3⟩:=a3.fs (N:=N+1) a4 z;rw[Af (nn z),Af (nn b1)];exact Tc b3
  ·rw[Ai z];refine(ZY (N:=N+1) a3 a4).bq z λI=>?_;rw[Ai I]
 ·rw[Ai E];refine(OZ h d).bq E λI=>?_;rw[Ai I]
def Ti:∀(O:gF (gF Pu)) (d:Int) (I:gF Int) {P Q:PD},AK P Q->Cm Q (N+3*O.length) (R+Du O)->DW (PD.ao O d I P).1 (PD.ao O d I Q).1
 | [],_,_,_,_,_,_=>.inr (.inr rfl)
 | l::r,d,I,P,Q,h,hc=>by
  have E:Du (l::r)=(17*l.length+4)+Du r:=by simp[Du]
  have hpl:(Cr l).length=17*l.length:=IT l;have L:Cm Q (N+3*r.length+3) (R+Du r+((Cr l).length+4)):=hc.ah (by simp;omega) (by rw[E];omega);have z:∀X:PD,PD.ao (l::r) d I X=if (X.aJ (d+1) l).1≠0 then ((X.aJ (d+1) l).1,d+1,I,(X.aJ (d+1) l).2) else PD.ao r (d+1) (I++[d+1]) (X.aJ (d+1) l).2:=λ_=>rfl
  rw[z,z];by_cases Y:(P.aJ (d+1) l).1=0
  ·have⟨a1,a2,a3⟩:=AK.aH (N:=N+3*r.length) h L iC Y;have aA:(Q.aJ (d+1) l).1=0:=a1;rw[Af (nn Y),Af (nn aA)];exact Ti r (d+1) _ a2 (a3.ah (An _) iC)
  ·rw[Ai Y];refine(Tb (N:=N+3*r.length) h L iC).bq Y λhq=>?_;have aB:(Q.aJ (d+1) l).1≠0:=hq;rw[Ai aB];rfl
def ZX{d:Int}{sd:gF Int}(h:AK P Q)(E:Cm Q (N+4) R)(hR:12+8*sd.length<=R):DW (P.al d sd).1 (Q.al d sd).1:=by
 have hl:(Cp d sd).length=8+8*sd.length:=by unfold Cp;rw[B3,CT,JO]
 unfold PD.al;by_cases z:(P.aH Bx (AI AJ) (Cp d sd)).1=0
 ·have⟨a1,a2,a3⟩:=h.aH (N:=N+1) E iC z;rw[Af (nn z),Af (nn a1)];exact ZV a2 a3
 ·rw[Ai z];refine(Tb (N:=N+1) h E iC).bq z λI=>?_;rw[Ai I]
def A0c{sd:gF Int}(h:AK P Q)(E:Cm Q (N+4) R)(z:12+8*sd.length<=R):DW (A.al P sd).1 (A.al Q sd).1:=by
 unfold Ar.al;split
 ·exact .inr (.inr rfl)
 ·by_cases d:(P.al (A.j.Ac+1) sd).1=0
  ·have⟨a1,_⟩:=h.dj E z d;rw[Af (nn d),Af (nn a1)];exact .inr (.inr rfl)
  ·rw[Ai d];refine(ZX h E z).bq d λI=>?_;rw[Ai I]
def A0a(h:AK P Q)(I:Cm Q (N+(A.aU Q).length+1) R):DW (A.a8 P).1 (A.a8 Q).1:=by
 have d:Cm Q (N+1+(A.aU Q).length) R:=I.ah iC (An _);unfold Ar.a8;by_cases z:(A.ay P).1=0
 ·have⟨a1,a2,a3⟩:=h.ay d z;rw[Af (nn z),Af (nn a1)];exact Tc a3
 ·rw[Ai z];refine(Te h d).bq z λE=>?_;rw[Ai E]
def Tf(h:AK P Q)(z:gF Int)(d:gF (gF Pu))(hc:Cm Q (N+A.AS.length+2*Q.dl+4*d.length+8) (R+Du d+12+8*(z.length+d.length))):DW (A.aG P z d).1 (A.aG Q z d).1:=by
 have aA:Cm Q (N+2*Q.dl+4*d.length+8+A.AS.length) (R+Du d+12+8*(z.length+d.length)):=hc.ah iC (An _);unfold Ar.aG;dsimp only
 by_cases h1:(A.I P).1=0
 ·have⟨a1,a2,a3,a4⟩:=h.I aA h1;rw[Af (nn h1),Af (nn a1),a2];have d1:(A.I Q).2.2.dl=Q.dl:=by unfold Ar.I;split<;>exact PY _ _
  have o1:=MW (A.I Q).2.1 (A.I Q).2.2;have L:Cm (A.I Q).2.2 (N+Q.dl+4*d.length+8+((A.I Q).2.1.aU (A.I Q).2.2).length) (R+Du d+12+8*(z.length+d.length)):=a4.ah iC (An _);by_cases h2:((A.I Q).2.1.ay (A.I P).2.2).1=0
  ·have⟨b1,b2,b3⟩:=a3.ay L h2;(have d2:((A.I Q).2.1.ay (A.I Q).2.2).2.dl<=Q.dl:=by rw[<-d1];exact PZ _ _);rw[Af (nn h2),Af (nn b1)];have Y:Cm ((A.I Q).2.1.ay (A.I Q).2.2).2 (N+Q.dl+d.length+8+3*d.length) (R+12+8*(z.length+d.length)+Du d):=b3.ah iC iC;by_cases h3:(PD.ao d (A.I Q).2.1.Ac z ((A.I Q).2.1.ay (A.I P).2.2).2).1=0
   ·have⟨c1,c2,c3,c4,c5⟩:=AK.ao d (A.I Q).2.1.Ac z b2 Y h3;have⟨d3,d4⟩:=Nj d (A.I Q).2.1.Ac z ((A.I Q).2.1.ay (A.I Q).2.2).2;rw[Af (nn h3),Af (nn c1),c2,c3];obtain⟨O,aF⟩:∃O:Ar,({ (A.I Q).2.1 with Ac:=(PD.ao d (A.I Q).2.1.Ac z ((A.I Q).2.1.ay (A.I Q).2.2).2).2.1}:Ar)=O:=⟨_,rfl⟩;rw[aF];obtain⟨sg,aE⟩:=iG ((PD.ao d (A.I Q).2.1.Ac z ((A.I Q).2.1.ay (A.I Q).2.2).2).2.2.1);rw[aE]at d4 ⊢;obtain⟨aG,X⟩:=iG ((PD.ao d (A.I Q).2.1.Ac z ((A.I Q).2.1.ay (A.I P).2.2).2).2.2.2);obtain⟨aB,E⟩:=iG ((PD.ao d (A.I Q).2.1.Ac z ((A.I Q).2.1.ay (A.I Q).2.2).2).2.2.2);rw[X]at c4;rw[X,E];rw[E]at c4 c5 d3;clear X E aF aE h3 c1 c2 c3 h2 b1 b2 b3 h1 a1 a2 a3 a4 aA L Y;have aD:Cm aB (N+Q.dl+d.length+4+4) (R+12+8*(z.length+d.length)):=c5.ah iC (An _);by_cases h4:(O.al aG sg).1=0
    ·have⟨e1,e2,e3,e4⟩:=c4.cJ (A:=O) (sd:=sg) aD iC h4;have d5:=UW O aB sg;rw[Af (nn h4),Af (nn e1),e2];have o2:=MW (O.al aB sg).2.1 (O.al aB sg).2.2;exact A0a (N:=N) e3 (e4.ah iC (An _))
    ·rw[Ai h4];refine(A0c c4 aD iC).bq h4 λI=>?_;rw[Ai I]
   ·rw[Ai h3];refine(Ti d (A.I Q).2.1.Ac z b2 Y).bq h3 λI=>?_;rw[Ai I]
  ·rw[Ai h2];refine(Te a3 L).bq h2 λI=>?_;rw[Ai I]
 ·rw[Ai h1];refine(OZ h aA).bq h1 λI=>?_;rw[Ai I]
end
section
variable{bd:Int×Int}{P P':PD}{A:Ar}{sg cl:gF (Int×gF Pu)}{ol:Option (gF Pu)}{pd:gF Pu}{Ad:Nat}{o:Int}
def DW.cV{a b:Int}(h:DW a b)(d:b=0):a=0\/a=5\/a=6:=by
 rcases h with e|e|e
 ·exact .inr (.inl e)
 ·exact .inr (.inr e)
 ·exact .inl (e.trans d)
def SI.fp(h:SI bd A P pd Ad o sg cl ol)(E:ol=none->isNum (A.j.Ac+1)=true)(p:Pu)(z:Bo p)(hll:A.AS.length<=1099511627776):(A.af P p).2.1=0\/(A.af P p).2.1=5\/(A.af P p).2.1=6:=by
 have d:Cm P.aP (0+A.AS.length+3) 33:=h.di.bj.aP.ah iC iC;refine(A0e (AK.aP P) d (An _) p).cV ?_;exact((h.AZ.av (P':=P.aP) λm=>((AK.aP P).bs m).symm).af d E p z (An _)).2.1
def SI.gx(h:SI bd A P pd Ad o sg cl ol)(hll:A.AS.length<=1099511627776):(A.ae P).1=0\/(A.ae P).1=5:=by
 have d:Cm P.aP (0+A.AS.length+2) 0:=h.di.bj.aP.ah iC iC;have:=(A0d (AK.aP P) d).cV ((h.AZ.av (P':=P.aP) λm=>((AK.aP P).bs m).symm).ae d).1;have h6:=VA A P;omega
def SI.gp{wa:Int}(h:SI bd A P pd Ad o sg cl ol)(L:BZ (AE wa))(hn:isNum (A.j.Ac+1)=true){n:Nat}(hcount:(Bk sg cl ol).length<=n)(hn2:n<=1073741824)(z:A.Ac+n<=4611686018427387904)(hbig:A.AS.length+P.Az.length+A.j.Ao.length+2*sg.length<=1073741824):(A.aR P wa).1=0\/(A.aR P wa).1=5\/(A.aR P wa).1=6:=by
 have hl0:(Bk sg cl ol).length=(Ax sg).length+(Ax cl++ol.getD []).length:=by unfold Bk;rw[B3]
 have Y:=h.AZ.av (P':=P.aP) λm=>((AK.aP P).bs m).symm
 have O:=h.di.bj.aP;have I:P.aP.Az.length<=1073741824:=by
  have e:P.aP.Az=P.Az:=rfl;rw[e];omega
 have X:=(Y.aR L (N:=0) (R:=0) (K:=1073741824) (n:=n) iC iC I iC iC iC (O.ah iC iC) hn z).1;refine DW.cV (b:=(A.aR P.aP wa).1) ?_ X;have hp:=h.AZ.pd h.Cw;have d:=Iy L (Ax cl++ol.getD []);have hfl:=I7 d.ne;have hfl2:=d.Be;have hcost:=Kl (C3 wa (Ax cl++ol.getD []));have hsg:A.ix.sd.length=sg.length:=by rw[<-h.AZ.sd,Fx]
 have E:P.aP.dl=P.Az.length:=by rw[Jb];rfl
 unfold Ar.aR;rw[<- (AK.aP P).pd,hp,Af iE,Af iE];exact Tf (N:=0) (R:=0) (AK.aP P) _ _ (O.ah (by rw[E];dsimp only;omega) (by dsimp only;omega))
def SI.gj{wa:Int}(h:SI bd A P pd Ad o sg cl ol)(hw:BZ (AE wa))(hn:isNum (A.j.Ac+1)=true){n:Nat}(z:(Bk sg cl ol).length<=n)(hn2:n<=1073741824)(X:A.Ac+n<=4611686018427387904)(hbig:A.AS.length+P.Az.length+A.j.Ao.length+2*sg.length<=1073741824):(A.aM P wa o).1=0\/(A.aM P wa o).1=5\/(A.aM P wa o).1=6:=by
 have hl0:(Bk sg cl ol).length=(Ax sg).length+(Ax cl++ol.getD []).length:=by unfold Bk;rw[B3]
 have hL:=h.AZ.av (P':=P.aP) λm=>((AK.aP P).bs m).symm
 have hc:Cm P.aP 4611686018427387904 4611686018427387904:=h.di.bj.aP;have aA:P.aP.Az.length<=1073741824:=by
  have e:P.aP.Az=P.Az:=rfl;rw[e];omega
 have hq:=(hL.aM (od:=o) hw (N:=0) (R:=0) (K:=1073741824) (n:=n) z iC aA iC iC iC (hc.ah iC iC) hn X).1;refine DW.cV (b:=(A.aM P.aP wa o).1) ?_ hq;have hp:=h.AZ.pd h.Cw;have E:=Iy hw (Bk sg cl ol);have hfl2:=E.Be;have d:=LC sg o (C3 wa (Bk sg cl ol));have O:=d.length_eq;have L:=d.flatten.length_eq;have hal:(Ei o (C3 wa (Bk sg cl ol))).length<=(C3 wa (Bk sg cl ol)).length:=KW _ _;have I:=(JN (λl=>l.any λp=>decide (o<=p.2.1)) (C3 wa (Bk sg cl ol))).length_le;have haf2:(Ei o (C3 wa (Bk sg cl ol))).flatten.length<=(C3 wa (Bk sg cl ol)).flatten.length:=I;have hfl:=I7 E.ne;have hcost:=Kl (BY sg o (C3 wa (Bk sg cl ol))).2;rw[B3,Fx]at O;rw[Wn,B3]at L;have hks:(BY sg o (C3 wa (Bk sg cl ol))).1.length=(Hd sg o (C3 wa (Bk sg cl ol))).length:=by rw[LD,Fx]
 have Y:P.aP.dl=P.Az.length:=by rw[Jb];rfl
 unfold Ar.aM;rw[<- (AK.aP P).sd,h.AZ.cu];dsimp only
 have e2:sg.flatMap (·.2)++(P.pd A.j.Ao).1=Bk sg cl ol:=by rw[hp];rfl
 rw[<- (AK.aP P).pd,e2,hp,Af iE,Af iE];exact Tf (N:=0) (R:=0) (AK.aP P) _ _ (hc.ah (by rw[Y];omega) (by rw[Qz];omega))
end
def IA(n:DN):(bg n).2.2.Av=n.Av:=by
 unfold bg;dsimp only
 split
 ·rfl
 ·split
  ·rfl
  ·split<;>rfl
def Og{F G:Nat->FC}:∀ {es:gF AP},(∀e∈es,(G e.2).1.length=(F e.2).1.length)->AV G es=AV F es
 | [],_=>rfl
 | e::r,h=>by
  simp only[AV];rw[h e (BI ..),Og λx d=>h x (BC _ d)]
section
variable{P P':PD}{A:Ar}{J:Jn}{nm:Bs}
def Rc(d:Extra P nm P'):AV P'.F P'.D.A6<=AV P.F P.D.A6+(P'.F P.D.AW).1.length:=by
 have oe:AV P'.F P.D.A6=AV P.F P.D.A6:=Og λe z=>by
  rw[d.EI _ λh=>P.D.cI (h ▸ .inl ⟨e,z,rfl⟩)]
 rcases d.da with⟨d1,_⟩|⟨_,d1,_⟩
 ·rw[d1,oe];omega
 ·rw[d1,Lh,oe];simp[AV]
def Rb(P:PD)(x:gE):AV (P.ae x).2.F (P.ae x).2.D.A6=AV P.F P.D.A6:=by
 unfold PD.ae CP;split
 ·rfl
 ·dsimp only
  refine Og λe _=>?_;split
  ·unfold upd;split
   ·rename_i h;rw[h]
   ·rfl
  ·rfl
def Ra:∀(l:gF Bs) (P:PD),AV (PD.ax l P).2.F (PD.ax l P).2.D.A6=AV P.F P.D.A6
 | [],_=>rfl
 | nm::r,P=>by
  unfold PD.ax;split
  ·exact Rb P _
  ·rw[Ra r,Rb]
def Xf(A:Ar)(P:PD):AV (A.I P).2.2.F (A.I P).2.2.D.A6=AV P.F P.D.A6:=by
 unfold Ar.I;split<;>exact Ra _ P
def MI(P:PD)(x:gE):(P.ae x).2.D.n.Av=P.D.n.Av:=by
 unfold PD.ae CP;split
 ·rfl
 ·exact IA _
def S4:∀(l:gF Bs) (P:PD),(PD.ax l P).2.D.n.Av=P.D.n.Av
 | [],_=>rfl
 | nm::r,P=>by
  unfold PD.ax;split
  ·exact MI P _
  ·rw[S4 r,MI]
def Km(A:Ar)(P:PD):(A.I P).2.2.D.n.Av=P.D.n.Av:=by
 unfold Ar.I;split<;>exact S4 _ P
def Kn(P:PD)(x:gE):(P.aq x).2.D.n.Av=P.D.n.Av:=by
 unfold PD.aq CY;split
 ·rfl
 ·dsimp only
  split<;>exact IA _
def Sb(P:PD)(x:gE)(l:Bs):(P.au x l).2.D.n.Av=P.D.n.Av:=by
 have d:∀D F f y n0 e,(BP D F f y n0 e).2.1.n.Av=D.n.Av:=λD F f y n0 e=>by
  unfold BP;split
  ·dsimp only;split<;>rfl
  ·rfl
 unfold PD.au BA;split
 ·rfl
 ·dsimp only
  split
  ·rw[d];exact IA _
  ·split
   ·rw[d];exact IA _
   ·exact IA _
def OD(J:Jn)(P:PD):(J.aw P).2.2.D.n.Av=P.D.n.Av:=by
 unfold Jn.aw;split
 ·exact Kn P _
 ·dsimp only
  have h:((P.aq (Ab (Ah (J.Ac+1)))).2.af (Ab (Ah (J.Ac+1))) (AI (Ah (J.Ac+1))) (AQ J.pd)).2.2.D.n.Av=P.D.n.Av:=(Sb _ _ _).trans (Kn P _);split<;>exact h
def VD{x:gE}{l:Bs}(h:(P.au x l).1=6):P.D.n.Av-AV P.F P.D.A6<l.length:=by
 have L:=HR P.D.n;have d:∀D n0,∀e:Int,e=0\/e=5->(BP D P.F 0 (Ab l) n0 e).1=6->e=0/\n0>Gw D P.F:=λD n0 e he h=>by
  unfold BP at h;split at h
  ·rename_i z;dsimp only at h;split at h
   ·rename_i X;exact⟨X,z⟩
   ·omega
  ·dsimp only at h;omega
 have O:∀D f n0 e,(BP D P.F f (Ab l) n0 e).1=(BP D P.F 0 (Ab l) n0 e).1:=λD f n0 e=>by unfold BP;split<;>rfl
 have I:((Ab l).size:Int)=l.length:=by rw[Lv]
 unfold PD.au BA at h;split at h
 ·cases h
 ·rename_i f hf;dsimp only at h;split at h
  ·rw[O]at h;have⟨_,z⟩:=d _ _ _ L h;unfold Gw at z;dsimp only at z;rw[IA,I]at z;omega
  ·rename_i E;split at h
   ·rw[O]at h;have⟨h0,_⟩:=d _ _ _ L h;exact absurd (Hu h0) E
   ·omega
def A2H(P:PD)(x:gE):(P.aq x).1≠6:=by
 have:=HR P.D.n;unfold PD.aq CY;split
 ·simp
 ·dsimp only;omega
def A3E(h:(J.aw P).1=6):P.D.n.Av-AV P.F P.D.A6<12:=by
 have⟨e1,e2⟩:=LO P (Ah (J.Ac+1));have d:(P.aq (Ab (Ah (J.Ac+1)))).2.F P.D.AW=([],0):=by unfold PD.aq;simp[upd]
 have hu:=Rc e1;rw[d]at hu;unfold Jn.aw at h;split at h
 ·exact absurd h (A2H P _)
 ·dsimp only at h;split at h
  ·have:=VD (P:=(P.aq (Ab (Ah (J.Ac+1)))).2) (x:=Ab (Ah (J.Ac+1))) (l:=AT (AI (Ah (J.Ac+1))) (AQ J.pd)) h;rw[EP,CT,Kn]at this;simp only[Jk]at hu;omega
  ·cases h
def SY{p:Pu}(h:(J.az P p).2.1=6):P.D.n.Av-AV P.F P.D.A6<21:=by
 unfold Jn.az at h;split at h
 ·cases h
 ·rename_i n s _;have:=VD (P:=P) (x:=Ab (Ah n)) (l:=AT s (Bg p.1 p.2.1 p.2.2)) h;rw[EP,FH]at this;omega
def A1p{p:Pu}(h:(J.af P p).2.1=6):P.D.n.Av-AV P.F P.D.A6<33:=by
 unfold Jn.af at h;split at h
 ·split at h
  ·have:=A3E h;omega
  ·have d:=SY h;have⟨b1,⟨j,b2⟩,_⟩:=Nu P J;have hu:=Rc b1;rw[b2]at hu;dsimp only at hu;rw[BK,EP,CT]at hu;rw[OD]at d;omega
 ·have:=SY h;omega
def A3X{p:Pu}(h:(A.af P p).2.1=6):P.D.n.Av-AV P.F P.D.A6<200:=by
 unfold Ar.af at h;split at h
 ·exact absurd h (RM A P)
 ·have:=A1p h;rw[Km,Xf]at this;omega
end
section
variable{P:PD}{A:Ar}{a c m:Nat}
def Fit.ao:∀(I:gF (gF Pu)) (z:Int) (E:gF Int) (P:PD) (a c m:Nat),Fit P a c m->Fit (PD.ao I z E P).2.2.2 (a+I.length) (c+I.length) (m+Du I)/\(PD.ao I z E P).2.2.1.length<=E.length+I.length
 | [],z,E,P,a,c,m,h=>⟨h,by simp[PD.ao]⟩
 | l::r,z,E,P,a,c,m,h=>by
  have L:=h.aJ (z+1) l;have d:Du (l::r)=(17*l.length+4)+Du r:=by simp[Du]
  rw[TC];split
  ·exact⟨L.ah iE iE (by rw[d];omega),iE⟩
  ·have⟨i1,i2⟩:=Fit.ao r (z+1) (E++[z+1]) _ _ _ _ L;exact⟨i1.ah (by simp;omega) (by simp;omega) (by rw[d];omega),by simp at i2 ⊢;omega⟩
def Fit.aG(h:Fit P a c m)(z:gF Int)(d:gF (gF Pu)):Fit (A.aG P z d).2.2 (a+d.length+2) (c+2*a+2*d.length+4) (m+Du d+12+8*(z.length+d.length)):=by
 rw[Sg];have I:=h.aO (A:=A);split
 ·exact I.ah iC iC iC
 ·have⟨h2,h3⟩:=Fit.ao d (A.aO P).2.1.Ac z _ _ _ _ I;split
  ·exact h2.ah iC iC iC
  ·have E:=h2.cJ (A:={ (A.aO P).2.1 with Ac:=(PD.ao d (A.aO P).2.1.Ac z (A.aO P).2.2).2.1}) (PD.ao d (A.aO P).2.1.Ac z (A.aO P).2.2).2.2.1;split
   ·exact E.ah iC iC iC
   ·unfold Ar.a8;have L:=Fit.ay (A:=(({ (A.aO P).2.1 with Ac:=(PD.ao d (A.aO P).2.1.Ac z (A.aO P).2.2).2.1}:Ar).al (PD.ao d (A.aO P).2.1.Ac z (A.aO P).2.2).2.2.2 (PD.ao d (A.aO P).2.1.Ac z (A.aO P).2.2).2.2.1).2.1) E;split
    ·exact L.ah iC iC iC
    ·exact L.aI.ah iC iC iC
def Fit.b1(h:Fit P a c m)(nm:gE)(s:Nat)(l:Bs):Fit (P.af nm s l).2.2 a c (m+(l.length+4)):=by
 have:=h.au nm (AT s l);rw[EP]at this;exact this
def Fit.et{J:Jn}(h:Fit P a c m):Fit (J.aw P).2.2 (a+1) (c+1) (m+12):=by
 unfold Jn.aw;have z:=h.aq (Ab (Ah (J.Ac+1)));have d:=z.b1 (Ab (Ah (J.Ac+1))) (AI (Ah (J.Ac+1))) (AQ J.pd);rw[CT]at d;split
 ·exact z.ah (An _) (An _) iC
 ·dsimp only
  split
  ·exact d
  ·exact d
def Fit.ef{J:Jn}(h:Fit P a c m)(p:Pu):Fit (J.az P p).2.2.2 a c (m+21):=by
 unfold Jn.az;cases J.AB with
 | none=>exact h.ah (An _) (An _) iC
 | some x=>
  obtain⟨n,s⟩:=x;have d:=h.b1 (Ab (Ah n)) s (Bg p.1 p.2.1 p.2.2);rw[FH]at d;exact d
def Fit.gf{J:Jn}(h:Fit P a c m)(p:Pu):Fit (J.af P p).2.2.2 (a+1) (c+1) (m+33):=by
 unfold Jn.af;split
 ·split
  ·exact h.et.ah (An _) (An _) iC
  ·exact(h.et.ef p).ah (An _) (An _) iC
 ·exact(h.ef p).ah iC iC iC
def Fit.fW(h:Fit P a c m)(p:Pu):Fit (A.af P p).2.2.2 (a+1) (c+1) (m+33):=by
 unfold Ar.af;split
 ·exact h.I.ah iC iC iC
 ·exact h.I.gf p
def Fit.gk(h:Fit P a c m):Fit (A.ae P).2.2 a c m:=by
 have d:=h.I (A:=A);have z:∀J:Jn,Fit (J.ae (A.I P).2.2).2 a c m:=λJ=>by
  unfold Jn.ae;cases J.AB with
  | none=>exact d
  | some x=>exact d.ae _
 unfold Ar.ae;split
 ·exact d
 ·split
  ·exact z _
  ·exact(z _).aI
end
end
section
open Go.RowKit
attribute [local go_sem ↓] CL
def B1.bC{w:gC}{g n cap:Nat}{l:gF Pu}(h:w.ownsRow 0 113 3 (AA g n cap) n (B5 l))(k:Nat)(d:k<l.length)(p:Pu)(z:l[k]'d=p):
 w.cell? (A9 g (k*3))=some (A0 p.1)/\A7 w g (k*3+1) (A0 p.2.1)/\A7 w g (k*3+2) (A0 p.2.2):=by
 have⟨q1,q2,q3⟩:=HK l k d;rw[z]at q1 q2 q3;exact⟨Bu h rfl q1,Bu h rfl q2,Bu h rfl q3⟩
def PM{α:Type}(A C:gF α)(x:α)(h:A.length<(A++x::C).length):(A++x::C)[A.length]'h=x:=by
 rw[Gj (An _)];simp
def Ki{α:Type}(A C:gF α)(x y:α):(A++x::C).set A.length y=A++y::C:=by
 rw[Jj _ _ (An _)];simp
def XQ{a b c n:Nat}(hn:n<=9223372036854775807)(hbn:b+c<=n)(hab:a+c<=b)(i:Nat)(hi:i<c):
 a+i<n/\b+i<n/\IntKind.i64.wrap ((a:Int)+(i:Int))=((a+i:Nat):Int)/\IntKind.i64.wrap ((b:Int)+(i:Int))=((b+i:Nat):Int)/\wrap64 ((a:Int)+(i:Int))=((a+i:Nat):Int)/\wrap64 ((b:Int)+(i:Int))=((b+i:Nat):Int)/\((a+i:Nat):Int)<(n:Int)/\((b+i:Nat):Int)<(n:Int):=by
 refine⟨iC,iC,?_,?_,by unfold wrap64;omega,by unfold wrap64;omega,iC,iC⟩
 ·simp[IntKind.wrap,IntKind.bits,IntKind.signed];omega
 ·simp[IntKind.wrap,IntKind.bits,IntKind.signed];omega
section
variable{w w':gC}{g cap n:Nat}
def XS(w:gC)(g cap n:Nat)(A X M Y Z:gF Pu)(cv:gD)(aD:X.length=Y.length)(hn:n=(A++X++M++Y++Z).length)(h:w.ownsRow 0 113 3 (AA g n cap) n (B5 (A++X++M++Y++Z))):
 Ag 273 #[AA g n cap,A0 A.length,A0 ((A.length+X.length+M.length:Nat):Int),A0 X.length,cv] w (Aj (.tuple #[]) λw'=>
  w'.ownsRow 0 113 3 (AA g n cap) n (B5 (A++Y++M++X++Z))/\A4 (One g) w w'):=by
 obtain⟨a,ha⟩:=iG A.length;obtain⟨b,hb⟩:=iG (A.length+X.length+M.length);obtain⟨c,hc⟩:=iG X.length;have aB:n<=cap/\cap<=9223372036854775807:=by
  have⟨a',c',e,h1,h2,_⟩:=B8 h;cases e;unfold maxLen at h2;omega
 obtain⟨aQ,aL⟩:=aB;have aO:b+c<=n:=by rw[hn];simp only[B3];omega
 have aN:a+c<=b:=iC
 obtain⟨d,E⟩:∃d:Nat->gF Pu,d=λi=>A++(Y.take i++X.drop i)++M++(X.take i++Y.drop i)++Z:=⟨_,rfl⟩;have aA:Hid (∀i,i<c->∃x y,(∀hk,(d i)[a+i]'hk=x)/\(∀hk,(d i)[b+i]'hk=y)/\(d i).length=n/\(∀hk,((d i).set (a+i) y)[b+i]'hk=y)/\((d i).set (a+i) y).set (b+i) x=d (i+1)):=λi hi=>by
  have I:i<X.length:=iC
  have O:i<Y.length:=iC
  have dx:X.drop i=X[i]'I::X.drop (i+1):=FY I;have dy:Y.drop i=Y[i]'O::Y.drop (i+1):=FY O;have tx:X.take (i+1)=X.take i++[X[i]'I]:=Ds I;have ty:Y.take (i+1)=Y.take i++[Y[i]'O]:=Ds O;obtain⟨x,hx⟩:=iG (X[i]'I);obtain⟨y,hy⟩:=iG (Y[i]'O);rw[hx]at dx tx;rw[hy]at dy ty;have e1:d i=(A++Y.take i)++x::((X.drop (i+1)++M++X.take i)++y::(Y.drop (i+1)++Z)):=by
   rw[E];dsimp only;rw[dx,dy];simp
  have e2:d (i+1)=(A++Y.take i)++y::((X.drop (i+1)++M++X.take i)++x::(Y.drop (i+1)++Z)):=by
   rw[E];dsimp only;rw[tx,ty];simp
  have l1:(A++Y.take i).length=a+i:=by simp;omega
  have e3:∀z:Pu,(A++Y.take i)++z::((X.drop (i+1)++M++X.take i)++y::(Y.drop (i+1)++Z))=((A++Y.take i)++z::(X.drop (i+1)++M++X.take i))++y::(Y.drop (i+1)++Z):=λz=>iE
  have l2:∀z:Pu,((A++Y.take i)++z::(X.drop (i+1)++M++X.take i)).length=b+i:=λz=>by simp;omega
  have s1:(d i).set (a+i) y=((A++Y.take i)++y::(X.drop (i+1)++M++X.take i))++y::(Y.drop (i+1)++Z):=by
   rw[e1,<-l1,Ki,e3]
  refine⟨x,y,λhk=>?_,λhk=>?_,?_,λhk=>?_,?_⟩
  ·have:=PM (A++Y.take i) ((X.drop (i+1)++M++X.take i)++y::(Y.drop (i+1)++Z)) x iE;simp only[e1,<-l1];exact this
  ·have:=PM ((A++Y.take i)++x::(X.drop (i+1)++M++X.take i)) (Y.drop (i+1)++Z) y iE;simp only[e1,e3,<-l2 x];exact this
  ·rw[e1,hn];simp;omega
  ·have:=PM ((A++Y.take i)++y::(X.drop (i+1)++M++X.take i)) (Y.drop (i+1)++Z) y iE;simp only[s1,<-l2 y];exact this
  ·rw[s1,<-l2 y,Ki,e2];simp
 have aK:Hid (∀i,i<c->_):=XQ (AO aQ aL) aO aN;have aR:Hid (w.ownsRow 0 113 3 (AA g n cap) n (B5 (d 0))):=by
  unfold Hid;rw[E];simpa using h
 have aS:Hid (d c=A++Y++M++X++Z):=by
  unfold Hid;rw[E];dsimp only;rw[<-hc,C5,H5,aD,C5,H5];simp
 rw[hb,ha,hc];clear E h hn hb ha hc aD
 go_enter func273,ntmps273
 go_wp2;go_loopw [10] (λiv wr=>∃i:Nat,iv=A0 (i:Int)/\i<=c/\Hid (wr.ownsRow 0 113 3 (AA g n cap) n (B5 (d i))/\A4 (One g) w wr)) (λiv _=>c-(intOf iv).toNat)
 ·exact⟨0,by go_num,iC,aR.o,A4.C _ _⟩
 ·obtain⟨i,rfl,hic,hI⟩:=hrel;by_cases L:i<c
  ·have hltI:(i:Int)<(c:Int):=FA.2 L;have⟨hPn,hQn,ew1,ew2,eu1,eu2,PI,QI⟩:=aK.o i L;have⟨i1,i2⟩:=hI.o;have⟨x,y,sx,sy,sl,sb,sn⟩:=aA.o i L;obtain⟨P,hP⟩:=iG (a+i);obtain⟨Q,hQ⟩:=iG (b+i);rw[hP]at sx sb sn hPn ew1 eu1 PI;rw[hQ]at sy sb sn hQn ew2 eu2 QI;have⟨x1,x2,x3⟩:=B1.bC i1 P (NN hPn sl.symm) x (sx _);have⟨y1,y2,y3⟩:=B1.bC i1 Q (NN hQn sl.symm) y (sy _);have P0:=BJ P;have Q0:=BJ Q;have tP:(P:Int).toNat=P:=EX P;have tQ:(Q:Int).toNat=Q:=EX Q;have aF:=B1.bw i1 P (NN hPn sl.symm) y;have aH:=B1.bw aF Q (NN hQn ((HX ..).trans sl).symm) x;rw[sn]at aH;have fz:∀o,wr.frozen? (A9 g o)=false:=λo=>ER i1 rfl o;obtain⟨xa,xb,xc⟩:=x;obtain⟨ya,yb,yc⟩:=y;dsimp only at x1 x2 x3 y1 y2 y3 aF aH;have aP:∀o,((((wr.setCell (A9 g (P*3)) (A0 ya)).setCell (A9 g (P*3+1)) (A0 yb)).setCell (A9 g (P*3+2)) (A0 yc))).drew.frozen? (A9 g o)=false:=λo=>ER aF rfl o;have z:=B1.bC aF Q (NN hQn ((HX ..).trans sl).symm) _ (sb _);obtain⟨z1,z2,z3⟩:=z;dsimp only at z1 z2 z3;have aJ:((((wr.setCell (A9 g (P*3)) (A0 ya)).setCell (A9 g (P*3+1)) (A0 yb)).setCell (A9 g (P*3+2)) (A0 yc))).drew.cell? (A9 g (Q*3))=some (A0 ya):=z1;have aM:((((wr.setCell (A9 g (P*3)) (A0 ya)).setCell (A9 g (P*3+1)) (A0 yb)).setCell (A9 g (P*3+2)) (A0 yc))).drew.cell? (A9 g (Q*3+1))=some (A0 yb):=z2;have aI:((((wr.setCell (A9 g (P*3)) (A0 ya)).setCell (A9 g (P*3+1)) (A0 yb)).setCell (A9 g (P*3+2)) (A0 yc))).drew.cell? (A9 g (Q*3+2))=some (A0 yc):=z3;have aU:Hid (A4 (One g) w (((((((wr.setCell (A9 g (P*3)) (A0 ya)).setCell (A9 g (P*3+1)) (A0 yb)).setCell (A9 g (P*3+2)) (A0 yc)).drew.setCell (A9 g (Q*3)) (A0 xa)).setCell (A9 g (Q*3+1)) (A0 xb)).setCell (A9 g (Q*3+2)) (A0 xc)))):=
    (((((i2.an (b:=g) rfl _ _).an (b:=g) rfl _ _).an (b:=g) rfl _ _).aa.an (b:=g) rfl _ _).an (b:=g) rfl _ _).an (b:=g) rfl _ _
   have aG:Hid ((((((((wr.setCell (A9 g (P*3)) (A0 ya)).setCell (A9 g (P*3+1)) (A0 yb)).setCell (A9 g (P*3+2)) (A0 yc)).drew.setCell (A9 g (Q*3)) (A0 xa)).setCell (A9 g (Q*3+1)) (A0 xb)).setCell (A9 g (Q*3+2)) (A0 xc))).ownsRow 0 113 3 (AA g n cap) n (B5 (d (i+1)))):=aH;have aE:=A1 L;clear aF aH z1 z2 z3 i1 i2 sx sy sl sb sn hI aA aR aS hP hQ L hPn hQn;go_wp2;refine Mt 21 (λw'=>A7 w' g (P*3) (A0 xa)/\A7 w' g (P*3+1) (A0 xb)/\A7 w' g (P*3+2) (A0 xc)/\A7 w' g (Q*3) (A0 ya)/\A7 w' g (Q*3+1) (A0 yb)/\A7 w' g (Q*3+2) (A0 yc)) 22
    [(0,1),(1,1),(2,1),(3,1),(8,1),(9,1),(10,1),(11,1),(12,1),(13,1),(14,2),(15,2),(16,2),(17,2),(18,2),(19,1),(20,1),(4,2),(5,2),(6,2),(7,2),(21,0)] ⟨x1,x2,x3,y1,y2,y3⟩ ?_
   iterate 10 refine IN ?_
   iterate 5 refine IP ?_
   iterate 2 refine IN ?_
   iterate 4 refine IP ?_
   refine Mv λK hK=>?_;go_simp;refine hK _ _ ?_;refine Mu ?_;generalize (((wr.setCell (A9 g (P*3)) (A0 ya)).setCell (A9 g (P*3+1)) (A0 yb)).setCell (A9 g (P*3+2)) (A0 yc)).drew=w7 at aP aU aG aJ aM aI ⊢;go_wp2;go_roundw
   ·exact⟨i+1,by go_num,aE.o,Au aG.o λ_ _=>rfl,aU.o⟩
   ·have h:=aE.o;simp[intOf];omega
  ·(obtain rfl:i=c:=iC);have aT:=A1 hI.o;(have hno:¬((i:Int)<(i:Int)):=iC);go_wp2;go_end0;exact⟨rfl,by have h:=aT.o.1;rw[aS.o]at h;simpa using h,aT.o.2⟩
end
def G7(n m:Nat)(T d:gF Pu)(i j:Nat):Prop:=∃L U V R:gF Pu,d=L++U++V++R/\T=L++V++U++R/\U.length=i/\V.length=j/\L.length+i=m/\0<i/\0<j/\d.length=n
def M7(n:Nat)(d h:gF Pu)(p q c:Nat):Prop:=∃A X M Y Z:gF Pu,d=A++X++M++Y++Z/\h=A++Y++M++X++Z/\X.length=Y.length/\A.length=p/\A.length+X.length+M.length=q/\X.length=c/\n=d.length
def G7.gt{n m i j:Nat}{T E:gF Pu}(h:G7 n m T E i j)(hij:j<i):∃d,M7 n E d (m-i) m j/\G7 n m T d (i-j) j:=by
 obtain⟨L,U,V,R,Y,e2,h1,h2,h3,h4,h5,X⟩:=h;have O:U=U.take j++U.drop j:=(Ec j U).symm;obtain⟨U1,z⟩:=iG (U.take j);obtain⟨U2,I⟩:=iG (U.drop j);have l1:U1.length=j:=by rw[<-z,BK];omega
 have l2:U2.length=i-j:=by rw[<-I,Cz];omega
 rw[z,I]at O;subst O;refine⟨L++V++U2++U1++R,⟨L,U1,U2,V,R,by rw[Y];simp,rfl,iC,iC,iC,iC,X.symm⟩,L++V,U2,U1,R,rfl,by rw[e2];simp,l2,l1,by simp;omega,iC,h5,?_⟩;rw[<-X,Y];simp;omega
def G7.lt{n m i j:Nat}{T E:gF Pu}(h:G7 n m T E i j)(hij:i<j):∃z,M7 n E z (m-i) (m+j-i) i/\G7 n m T z i (j-i):=by
 obtain⟨L,U,V,R,X,e2,h1,h2,h3,h4,h5,O⟩:=h;have Y:V=V.take (j-i)++V.drop (j-i):=(Ec _ V).symm;obtain⟨V1,d⟩:=iG (V.take (j-i));obtain⟨V2,I⟩:=iG (V.drop (j-i));have l1:V1.length=j-i:=by rw[<-d,BK];omega
 have l2:V2.length=i:=by rw[<-I,Cz];omega
 rw[d,I]at Y;subst Y;refine⟨L++V2++V1++U++R,⟨L,U,V1,V2,R,by rw[X];simp,rfl,iC,iC,iC,iC,O.symm⟩,L,V2,V1,U++R,iE,by rw[e2];simp,l2,l1,iC,h4,iC,?_⟩;rw[<-O,X];simp;omega
def G7.eq{n m i:Nat}{T d:gF Pu}(h:G7 n m T d i i):M7 n d T (m-i) m i:=by
 obtain⟨L,U,V,R,E,O,I,h2,h3,h4,h5,z⟩:=h;exact⟨L,U,[],V,R,by rw[E];simp,by rw[O];simp,iC,iC,by simp;omega,I,z.symm⟩
def G7.bM{n m i j:Nat}{T z:gF Pu}(hn:n<=9223372036854775807)(h:G7 n m T z i j):
 i<=n/\j<=n/\IntKind.i64.wrap ((m:Int)-(i:Int))=((m-i:Nat):Int)/\wrap64 ((m:Int)-(i:Int))=((m-i:Nat):Int)/\IntKind.i64.wrap ((m:Int)+(j:Int))=((m+j:Nat):Int)/\wrap64 ((m:Int)+(j:Int))=((m+j:Nat):Int)/\
 IntKind.i64.wrap (((m+j:Nat):Int)-(i:Int))=((m+j-i:Nat):Int)/\wrap64 (((m+j:Nat):Int)-(i:Int))=((m+j-i:Nat):Int)/\
 (j<i->IntKind.i64.wrap ((i:Int)-(j:Int))=((i-j:Nat):Int)/\wrap64 ((i:Int)-(j:Int))=((i-j:Nat):Int))/\(i<j->IntKind.i64.wrap ((j:Int)-(i:Int))=((j-i:Nat):Int)/\wrap64 ((j:Int)-(i:Int))=((j-i:Nat):Int)):=by
 obtain⟨L,U,V,R,X,e2,h1,h2,h3,h4,h5,I⟩:=h;have hl:L.length+i+j<=n:=by rw[<-I,X];simp;omega
 clear X e2 I h1 h2;have W:∀x:Int,-9223372036854775808<=x->x<=9223372036854775807->IntKind.i64.wrap x=x/\wrap64 x=x:=λx a b=>by
  refine⟨?_,by unfold wrap64;omega⟩;simp[IntKind.wrap,IntKind.bits,IntKind.signed];omega
 have d:∀(x:Int) (k:Nat),x=(k:Int)->k<=9223372036854775807->IntKind.i64.wrap x=(k:Int)/\wrap64 x=(k:Int):=λx k e hk=>by
  subst e;exact W _ iC iC
 have E:=d ((m:Int)-i) (m-i) iC iC;have Y:=d ((m:Int)+j) (m+j) iC iC;have O:=d (((m+j:Nat):Int)-i) (m+j-i) iC iC;exact⟨iC,iC,E.1,E.2,Y.1,Y.2,O.1,O.2,λh=>d _ _ iC iC,λh=>d _ _ iC iC⟩
section
variable{w w':gC}{g cap n:Nat}
def M7.cc{d z:gF Pu}{p q c:Nat}(h:M7 n d z p q c)(E:gD)(I:w.ownsRow 0 113 3 (AA g n cap) n (B5 d)):
 Ag 273 #[AA g n cap,A0 (p:Int),A0 (q:Int),A0 (c:Int),E] w (Aj (.tuple #[]) λw'=>
  w'.ownsRow 0 113 3 (AA g n cap) n (B5 z)/\A4 (One g) w w'):=by
 obtain⟨A,X,M,Y,Z,rfl,rfl,e,rfl,rfl,rfl,L⟩:=h;exact XS w g cap n A X M Y Z E e L I
def YN(w:gC)(g cap n:Nat)(A U V Z:gF Pu)(cv:gD)(hu:U≠[])(hv:V≠[])(hn:n=(A++U++V++Z).length)(h:w.ownsRow 0 113 3 (AA g n cap) n (B5 (A++U++V++Z))):
 Ag 263 #[AA g n cap,A0 A.length,A0 ((A.length+U.length:Nat):Int),A0 ((A.length+U.length+V.length:Nat):Int),cv] w (Aj (.tuple #[]) λw'=>
  w'.ownsRow 0 113 3 (AA g n cap) n (B5 (A++V++U++Z))/\A4 (One g) w w'):=by
 have L:n<=9223372036854775807:=by
  have⟨a',c',e,h1,h2,_⟩:=B8 h;cases e;unfold maxLen at h2;omega
 have aM:=K4.2 hu;have aR:=K4.2 hv;have aF:A.length+U.length+V.length<=n:=by rw[hn];simp;omega
 obtain⟨T,hT⟩:=iG (A++V++U++Z);obtain⟨C,hC⟩:=iG (A++U++V++Z);obtain⟨a,ha⟩:=iG A.length;obtain⟨m,hm⟩:=iG (A.length+U.length);obtain⟨b,hb⟩:=iG (A.length+U.length+V.length);obtain⟨i0,aI⟩:=iG U.length;obtain⟨j0,aG⟩:=iG V.length;have aJ:Hid (G7 n m T C i0 j0):=⟨A,U,V,Z,hC.symm,hT.symm,aI,aG,iC,iC,iC,by rw[hn,hC]⟩;have ei:IntKind.i64.wrap ((m:Int)-(a:Int))=(i0:Int)/\wrap64 ((m:Int)-(a:Int))=(i0:Int):=by
  refine⟨?_,by unfold wrap64;omega⟩;simp[IntKind.wrap,IntKind.bits,IntKind.signed];omega
 have ej:IntKind.i64.wrap ((b:Int)-(m:Int))=(j0:Int)/\wrap64 ((b:Int)-(m:Int))=(j0:Int):=by
  refine⟨?_,by unfold wrap64;omega⟩;simp[IntKind.wrap,IntKind.bits,IntKind.signed];omega
 obtain⟨aA,aE⟩:=ei;obtain⟨aB,aD⟩:=ej;have I:Hid (∀z i j,G7 n m T z i j->_):=λz i j h=>G7.bM L h;rw[hC]at h;rw[hT,hb,hm,ha];have aK:=A1 h;clear h hn hu hv aM aR aF hT hC ha hm hb aI aG L
 go_enter func263,ntmps263
 go_wp2;go_loopw [10,11] (λiv jv wr=>∃(i j:Nat) (z:gF Pu),iv=A0 (i:Int)/\jv=A0 (j:Int)/\Hid (G7 n m T z i j/\wr.ownsRow 0 113 3 (AA g n cap) n (B5 z)/\A4 (One g) w wr)) (λiv jv _=>(intOf iv).toNat+(intOf jv).toNat)
 ·exact⟨i0,j0,C,by go_num,by go_num,aJ.o,aK.o,A4.C _ _⟩
 ·obtain⟨i,j,z,rfl,rfl,hI⟩:=hrel;have⟨i1,i2,i3⟩:=hI.o;have⟨z1,z2,z3,z4,z5,z6,z7,z8,z9,z10⟩:=I.o _ _ _ i1;obtain⟨p,hp⟩:=iG (m-i);obtain⟨q,hq⟩:=iG (m+j-i);obtain⟨mj,E⟩:=iG (m+j);rw[hp]at z3 z4;rw[hq,E]at z7 z8;rw[E]at z5 z6;have aN:=A1 i3;by_cases he:i=j
  ·subst he;have S:=A1 ((G7.eq i1).cc cv i2);rw[hp]at S;clear hI i1 i2 i3 z1 z2 z5 z6 z7 z8 z9 z10 hp hq E I aJ aK aA aE aB aD;go_wp2_with (go_at_call 273;refine(S.o).k ?_;rintro w5⟨X,Y⟩;have R:=A1 (And.intro X (aN.o.tr Y));clear X Y);go_end0;exact⟨rfl,R.o⟩
  ·have hne:((i:Int)=(j:Int))=False:=Nf λh=>he (Int.ofNat_inj.1 h);by_cases O:j<i
   ·have⟨nxt,S1,S2⟩:=G7.gt i1 O;have S:=A1 (S1.cc cv i2);rw[hp]at S;have⟨y1,y2⟩:=z9 O;have aL:(j:Int)<(i:Int):=FA.2 O;have aH:=A1 S2;have aQ:=A1 O;obtain⟨d,hd⟩:=iG (i-j);rw[hd]at y1 y2 aH;have aP:=A1 hd;(have aO:Hid (0<j):=by obtain⟨_,_,_,_,_,_,_,_,_,_,h5,_⟩:=i1;exact h5);clear hI i1 i2 i3 z1 z2 z5 z6 z7 z8 z9 z10 hp hq E I aJ aK aA aE aB aD S1 S2 O hd;go_wp2_with (go_at_call 273;refine(S.o).k ?_;rintro w5⟨X,Y⟩;have R:=A1 (And.intro X (aN.o.tr Y));clear X Y);go_roundw
    ·exact⟨d,j,nxt,by go_num,by go_num,aH.o,R.o⟩
    ·have h1:=aQ.o;have h2:=aP.o;have h3:=aO.o;simp[intOf];omega
   ·have hl:i<j:=Nat.lt_of_le_of_ne (Ji O) he;have⟨nxt,S1,S2⟩:=G7.lt i1 hl;have S:=A1 (S1.cc cv i2);rw[hp,hq]at S;have⟨y1,y2⟩:=z10 hl;(have aL:((j:Int)<(i:Int))=False:=by simp;exact Ji O);have aH:=A1 S2;have aQ:=A1 hl;obtain⟨d,hd⟩:=iG (j-i);rw[hd]at y1 y2 aH;have aP:=A1 hd;(have aO:Hid (0<i):=by obtain⟨_,_,_,_,_,_,_,_,_,h5,_,_⟩:=i1;exact h5);clear hI i1 i2 i3 z1 z2 z9 z10 hp hq E I aJ aK aA aE aB aD S1 S2 O hl hd;go_wp2_with (go_at_call 273;refine(S.o).k ?_;rintro w5⟨X,Y⟩;have R:=A1 (And.intro X (aN.o.tr Y));clear X Y);go_roundw
    ·exact⟨i,d,nxt,by go_num,by go_num,aH.o,R.o⟩
    ·have h1:=aQ.o;have h2:=aP.o;have h3:=aO.o;simp[intOf];omega
end
def TS{m s r L n:Nat}(hn:n<=4294967296)(h:s<r)(hr:r<=L)(hm:m+L<=n):
 wrap64 (((m+s:Nat):Int)+((m+r:Nat):Int))=((m+s+(m+r):Nat):Int)/\IntKind.u64.wrap ((m+s+(m+r):Nat):Int)=((m+s+(m+r):Nat):Int)/\wrap64 (((m+s+(m+r):Nat):Int)/2)=((m+(s+r)/2:Nat):Int)/\
 (s+r)/2<r/\s<=(s+r)/2/\m+(s+r)/2<n/\wrap64 (((m+(s+r)/2:Nat):Int)+1)=((m+((s+r)/2+1):Nat):Int):=by
 refine⟨by unfold wrap64;omega,?_,by unfold wrap64;omega,iC,iC,iC,by unfold wrap64;omega⟩;simp[IntKind.wrap,IntKind.bits,IntKind.signed];omega
def A0p{a s n q:Nat}(hn:n<=4294967296)(h:a+1+s<=n)(hq:q<=s):
 wrap64 (((a+1+s:Nat):Int)-1)=((a+s:Nat):Int)/\IntKind.i64.wrap (((a+1+s:Nat):Int)-1)=((a+s:Nat):Int)/\wrap64 (((a+q:Nat):Int)+1)=((a+(q+1):Nat):Int)/\IntKind.i64.wrap (((a+q:Nat):Int)+1)=((a+(q+1):Nat):Int):=by
 refine⟨by unfold wrap64;omega,?_,by unfold wrap64;omega,?_⟩
 ·simp[IntKind.wrap,IntKind.bits,IntKind.signed];omega
 ·simp[IntKind.wrap,IntKind.bits,IntKind.signed];omega
def HI(w:gC)(g k:Nat)(p:Pu):World:=((w.setCell ⟨g,k*3,none⟩ (.int .i64 p.1)).setCell ⟨g,k*3+1,none⟩ (.int .i64 p.2.1)).setCell ⟨g,k*3+2,none⟩ (.int .i64 p.2.2)
def SZ{w d:gC}{g:Nat}(h:A4 (One g) d w)(k:Nat)(p:Pu):A4 (One g) d (HI w g k p):=((h.an (b:=g) rfl _ _).an (b:=g) rfl _ _).an (b:=g) rfl _ _
def S0{w:gC}{g n cap:Nat}{l:gF Pu}(h:w.ownsRow 0 113 3 (.slice (some ⟨g,0,none⟩) n cap) n (B5 l))(i j:Nat)(X:i<l.length)(I:j<l.length)(d:i≠j)(x y:Pu)(O:l[j]'I=y):
 (∀o,(HI w g i y).drew.frozen? ⟨g,o,none⟩=false)/\((HI w g i y).drew.cell? ⟨g,j*3,none⟩=some (.int .i64 y.1)/\(HI w g i y).drew.cell? ⟨g,j*3+1,none⟩=some (.int .i64 y.2.1)/\(HI w g i y).drew.cell? ⟨g,j*3+2,none⟩=some (.int .i64 y.2.2))/\
 (HI (HI w g i y).drew g j x).ownsRow 0 113 3 (.slice (some ⟨g,0,none⟩) n cap) n (B5 ((l.set i y).set j x))/\∀E,A4 (One g) E w->A4 (One g) E (HI (HI w g i y).drew g j x):=by
 have z:=Au (B1.bw h i X y) λ_ _=>rfl;refine⟨λo=>ER z rfl o,B1.bC z j (by rw[HX];exact I) y ?_,B1.bw z j (by rw[HX];exact I) x,λE L=>SZ (SZ L i y).aa j x⟩;rw[A4S d];exact O
def U9{α:Type}(V:gF α)(x:α)(q:Nat)(h:q<=V.length):(V.take q++x::V.drop q).length=V.length+1:=by simp;omega
def A0H{a s q P:Nat}(h:q<s)(e:a+q=P):a+s-(intOf (A0 ((P:Int)+1))).toNat<a+s-(intOf (A0 (P:Int))).toNat:=by simp[intOf];omega
def Pf{I J Q:Nat}(h1:I<=Q)(h2:Q<J):(intOf (A0 (J:Int))).toNat-(intOf (A0 ((Q:Int)+1))).toNat<(intOf (A0 (J:Int))).toNat-(intOf (A0 (I:Int))).toNat:=by simp[intOf];omega
def Pg{I J Q:Nat}(h1:I<=Q)(h2:Q<J):(intOf (A0 (Q:Int))).toNat-(intOf (A0 (I:Int))).toNat<(intOf (A0 (J:Int))).toNat-(intOf (A0 (I:Int))).toNat:=by simp[intOf];omega
def A16{α:Type}{A V Z:gF α}{x:α}{q:Nat}(d:q<V.length):∃y,(A++(V.take q++x::V.drop q)++Z)[A.length+q]?=some x/\(A++(V.take q++x::V.drop q)++Z)[A.length+q+1]?=some y/\
 ((A++(V.take q++x::V.drop q)++Z).set (A.length+q) y).set (A.length+q+1) x=A++(V.take (q+1)++x::V.drop (q+1))++Z:=by
 have z:(A++V.take q).length=A.length+q:=by simp;omega
 have I:(A++V.take q++[V[q]'d]).length=A.length+q+1:=by simp;omega
 have h:A++(V.take q++x::V.drop q)++Z=(A++V.take q)++x::(V[q]'d::(V.drop (q+1)++Z)):=by rw[FY d];simp only[Ci,Ga]
 have L:A++(V.take (q+1)++x::V.drop (q+1))++Z=(A++V.take q++[V[q]'d])++x::(V.drop (q+1)++Z):=by rw[Ds d];simp
 have E:∀u,(A++V.take q)++u::(V[q]'d::(V.drop (q+1)++Z))=(A++V.take q++[u])++V[q]'d::(V.drop (q+1)++Z):=λu=>iE
 refine⟨V[q]'d,?_,?_,?_⟩
 ·rw[h,<-z];simp
 ·rw[h,E,Il (by simp;omega)];have:A.length+q+1-(A++V.take q++[x]).length=0:=by simp;omega
  rw[this];rfl
 ·rw[h,L,<-z,Ki,E,z,<-I,Ki]
def A3F{α:Type}{A U Z:gF α}{y:α}{q:Nat}(d:q<U.length):∃u,(A++(U.take (q+1)++y::U.drop (q+1))++Z)[A.length+q+1]?=some y/\(A++(U.take (q+1)++y::U.drop (q+1))++Z)[A.length+q]?=some u/\
 ((A++(U.take (q+1)++y::U.drop (q+1))++Z).set (A.length+q+1) u).set (A.length+q) y=A++(U.take q++y::U.drop q)++Z:=by
 have E:(A++U.take q).length=A.length+q:=by simp;omega
 have I:∀u:α,(A++U.take q++[u]).length=A.length+q+1:=λu=>by simp;omega
 have h:A++(U.take (q+1)++y::U.drop (q+1))++Z=(A++U.take q++[U[q]'d])++y::(U.drop (q+1)++Z):=by rw[Ds d];simp
 have L:A++(U.take q++y::U.drop q)++Z=(A++U.take q)++y::(U[q]'d::(U.drop (q+1)++Z)):=by rw[FY d];simp only[Ci,Ga]
 have z:∀u v:α,(A++U.take q++[u])++v::(U.drop (q+1)++Z)=(A++U.take q)++u::(v::(U.drop (q+1)++Z)):=λu v=>iE
 refine⟨U[q]'d,?_,?_,?_⟩
 ·rw[h,<-I (U[q]'d)];simp
 ·rw[h,z,<-E];simp
 ·rw[h,L,<-I (U[q]'d),Ki,z,<-E,Ki]
section
variable{w w':gC}{g cap n:Nat}
def XM(w:gC)(g cap n wb:Nat)(len:Int)(A V Z:gF Pu)(x:Pu)(_hv:V≠[])(hn:n=(A++x::(V++Z)).length)(h:w.ownsRow 0 113 3 (AA g n cap) n (B5 (A++x::(V++Z))))(hT:∀p∈x::V,Ay p.2.1)(hA:B6 (AE len) V)(hl:1<=len/\len<=4611686018427387904)(hw:A7 w wb 0 (A0 len))(a3:wb≠g)(aJ:n<=4294967296):
 Ag 244 #[AA g n cap,A0 A.length,A0 ((A.length+1:Nat):Int),A0 ((A.length+1+V.length:Nat):Int),.func (Fn.func 155) #[] #[A5 wb]] w (Aj (.tuple #[]) λw'=>
  ∃M,w'.ownsRow 0 113 3 (AA g n cap) n (B5 (A++M++Z))/\M.length=V.length+1/\B6 (AE len) M/\Bt (AE len) (x::V) M/\A4 (One g) w w'):=by
 have b3:=Gi len;obtain⟨a,ha⟩:=iG A.length;obtain⟨m,hm⟩:=iG (a+1);obtain⟨L,hL⟩:=iG V.length;obtain⟨b,hb⟩:=iG (m+L);have aW:b<=n:=by rw[hn];simp;omega
 have bJ:a<n:=iC
 have aS:Hid (∀s r,s<r->r<=L->_):=λs r h hr=>TS (m:=m) aJ h hr (hb ▸ aW);have bP:Hid (∀d,A4 Aa w d->∀q (O:q<V.length),A7 d g ((m+q)*3) (A0 (V[q]'O).1)/\A7 d g ((m+q)*3+1) (A0 (V[q]'O).2.1)/\A7 d g ((m+q)*3+2) (A0 (V[q]'O).2.2)):=λd hx q O=>by
  have e:(A++x::(V++Z))[m+q]'(by rw[<-hn];omega)=V[q]'O:=by
   rw[Gj iC];(have:m+q-A.length=q+1:=iC);simp only[this,NT];exact Fy O
  have⟨y1,y2,y3⟩:=B1.bC h (m+q) (by rw[<-hn];omega) _ e;exact⟨hx.ad y1,hx.ad y2,hx.ad y3⟩
 have bW:Hid (∀d,A4 Aa w d->A7 d g (a*3) (A0 x.1)/\A7 d g (a*3+1) (A0 x.2.1)/\A7 d g (a*3+2) (A0 x.2.2)):=λd hx=>by
  have e:(A++x::(V++Z))[a]'(by rw[<-hn];omega)=x:=by
   rw[Gj iC];simp[ha]
  have⟨y1,y2,y3⟩:=B1.bC h a (by rw[<-hn];omega) _ e;exact⟨hx.ad y1,hx.ad y2,hx.ad y3⟩
 have e1:wrap64 ((m:Int)-(a:Int))=1:=by unfold wrap64;omega
 have e2:IntKind.i64.wrap ((m:Int)-(a:Int))=1:=by rw[show (m:Int)-(a:Int)=1 by omega];rfl
 have a0:=BJ a;have aI:(a:Int)<(n:Int):=iC
 have aY:n<=cap/\cap<=9223372036854775807:=by
  have⟨a',c',e,h1,h2,_⟩:=B8 h;cases e;unfold maxLen at h2;omega
 obtain⟨hc1,hc2⟩:=aY;have bI:=A1 hT;have b4:=A1 hw;have bQ:=A1 hl;have HWB:=A1 a3;have bE:=A1 h;have bT:=A1 ha;have a8:Hid (∀ {d:gC} (l:gF Pu),d.ownsRow 0 113 3 (AA g n cap) n (B5 l)->l.length=n):=λl hl=>by
  have:=hl.1;rw[T1]at this;omega
 have a9:Hid (n<=4294967296/\m+L<=n):=⟨aJ,by rw[hb];exact aW⟩;have bK:=A1 hA;have bX:=A1 hm;have bH:=A1 hL;have HB:=A1 hb;rw[ha,hm,hL,hb];have aR:=hb.symm;clear h hT hw hl a3 hA hm hL aW bJ aJ hn ha _hv hb
 go_enter func244,ntmps244
 go_wp2;rename_i kA kB qA a1;clear kB;go_loopw [10,11] (λiv jv wr=>∃(s r:Nat),iv=A0 ((m+s:Nat):Int)/\jv=A0 ((m+r:Nat):Int)/\Hid (s<=r/\r<=L/\A4 Aa w wr/\(∀y,(V.take s).getLast?=some y->AE len y x=true)/\(∀y,(V.drop r).head?=some y->AE len y x=false))) (λiv jv _=>(intOf jv).toNat-(intOf iv).toNat)
 ·exact⟨0,L,by go_num,by rw[aR],Cb _,An _,A4.C _ _,(λy hy=>by simp at hy),(λy hy=>by rw[<-bH.o,H5]at hy;cases hy)⟩
 ·obtain⟨s,r,rfl,rfl,hI⟩:=hrel;have⟨i1,i2,i3,i4,i5⟩:=hI.o;by_cases aE:s<r
  ·have⟨n1,n2,n3,n4,n5,n6,n7⟩:=aS.o s r aE i2;have bM:=FA.2 (KP aE m);obtain⟨q,O⟩:=iG ((s+r)/2);rw[O]at n3 n4 n5 n6 n7;(have aA:q<V.length:=by rw[bH.o];exact Bp n4 i2);obtain⟨y,hy⟩:=iG (V[q]'aA);have a4:Hid (∀d,A4 Aa wr d->(A7 d g ((m+q)*3) (A0 y.1)/\A7 d g ((m+q)*3+1) (A0 y.2.1)/\A7 d g ((m+q)*3+2) (A0 y.2.2))/\A7 d g (a*3) (A0 x.1)/\A7 d g (a*3+1) (A0 x.2.1)/\A7 d g (a*3+2) (A0 x.2.2)):=λd hx=>by
    have a5:=i3.tr hx;have:=bP.o d a5 q aA;rw[hy]at this;exact⟨this,bW.o d a5⟩
   have aZ:=bI.o y (BC _ (hy ▸ BT aA));have bA:=A1 (λd bR=>No d wb len y x aZ (bI.o x (BI ..)) bQ.o bR);have aM:=Nn (len:=len) (p:=y) (q:=x);obtain⟨cc,bB⟩:=iG (Ht len y x);rw[bB]at bA aM;have aO:=i3.ad b4.o;have b5:Hid (cc<0->∀z,(V.take (q+1)).getLast?=some z->AE len z x=true):=λhc z hz=>by
    rw[N3 aA,hy]at hz;cases hz;exact aM.1 hc
   have bV:Hid (¬cc<0->∀z,(V.drop q).head?=some z->AE len z x=false):=λhc z hz=>by
    rw[head_drop aA,hy]at hz;cases hz;cases hk:AE len y x with
    | false=>rfl
    | true=>exact absurd (aM.2 hk) hc
   obtain⟨Q,hQ⟩:=iG (m+q);rw[hQ]at n3 n6 n7 a4;have QI:=FA.2 n6;have Q0:=BJ Q;have tQ:=EX Q;have tA:=EX a;obtain⟨xa,xb,xc⟩:=x;obtain⟨ya,yb,yc⟩:=y;unfold DO at bA;dsimp only at bA a4;have bF:=a4.o wr.drew (A4.C _ wr).aa;have aK:=A1 (bA.o wr.drew aO);obtain⟨I,Y⟩:=iG (m+s);obtain⟨J,aB⟩:=iG (m+r);obtain⟨bZ,aD⟩:=iG (I+J);rw[Y,aB,aD]at n1 n2;obtain⟨b0,aV⟩:=iG (m+(q+1));rw[aV]at n7;rw[Y,aB,aD]at n3;rw[Y,aB]at bM;have E:=A1 (And.intro i1 (And.intro i2 (And.intro i3 (And.intro i4 (And.intro i5 (And.intro n4 (And.intro n5 (And.intro hQ (And.intro aV (And.intro Y aB))))))))));rw[Y,aB];clear hI i1 i2 i3 i4 i5 n4 n5 n6 O hy aZ bB bA aO aA aE aS bP bW hQ aV Y aB aD aR aM;by_cases aX:cc<0
   ·go_wp2;clear n1 n2 n3;refine Bq (λw'=>(A7 w' g (Q*3) (A0 ya)/\A7 w' g (Q*3+1) (A0 yb)/\A7 w' g (Q*3+2) (A0 yc))/\A7 w' g (a*3) (A0 xa)/\A7 w' g (a*3+1) (A0 xb)/\A7 w' g (a*3+2) (A0 xc)) 10
     (Ba [0,1,2,3,4,5,6,7,8,9] [9]) bF ?_
    iterate 9 refine B4 ?_
    refine Bf λK hK=>?_;go_simp;refine aK.k ?_;rintro w6 aG;have k6:=((A4.C Aa wr).aa).tr aG;refine hK _ _ (a4.o w6 k6) (λhS=>?_);have bS:=A1 k6;clear hK K hS aG k6 bF aK;refine Bl ?_;clear a1;go_wp2;go_roundw
    ·have⟨f1,f2,f3,f4,f5,f6,f7,f8,f9,f10,f11⟩:=E.o;exact⟨q+1,r,by rw[<-f8];rfl,by rw[f11],f6,f2,f3.tr bS.o,b5.o aX,f5⟩
    ·have⟨f1,f2,f3,f4,f5,f6,f7,f8,f9,f10,f11⟩:=E.o;exact Pf (by rw[<-f10,<-f8];exact Mc f7 m) (by rw[<-f11,<-f8];exact KP f6 m)
   ·go_wp2;clear n1 n2 n3;refine Bq (λw'=>(A7 w' g (Q*3) (A0 ya)/\A7 w' g (Q*3+1) (A0 yb)/\A7 w' g (Q*3+2) (A0 yc))/\A7 w' g (a*3) (A0 xa)/\A7 w' g (a*3+1) (A0 xb)/\A7 w' g (a*3+2) (A0 xc)) 10
     (Ba [0,1,2,3,4,5,6,7,8,9] [9]) bF ?_
    iterate 9 refine B4 ?_
    refine Bf λK hK=>?_;go_simp;refine aK.k ?_;rintro w6 aG;have k6:A4 Aa wr w6:=((A4.C Aa wr).aa).tr aG;refine hK _ _ (a4.o w6 k6) (λhS=>?_);have bS:=A1 k6;clear hK K hS aG k6 bF aK;refine Bl ?_;clear a1;go_wp2;go_roundw
    ·have⟨f1,f2,f3,f4,f5,f6,f7,f8,f9,f10,f11⟩:=E.o;exact⟨s,q,by rw[f10],by rw[f8],f7,Fu (Bp f6 f2),f3.tr bS.o,f4,bV.o aX⟩
    ·have⟨f1,f2,f3,f4,f5,f6,f7,f8,f9,f10,f11⟩:=E.o;exact Pg (by rw[<-f10,<-f8];exact Mc f7 m) (by rw[<-f11,<-f8];exact KP f6 m)
  ·obtain rfl:s=r:=Mb i1 (Ji aE);have a2:¬(((m+s:Nat):Int)<((m+s:Nat):Int)):=L6 _;have bO:=A1 (b3.fm bK.o s i4 i5);have bG:Hid (wr.ownsRow 0 113 3 (AA g n cap) n (B5 (A++(V.take 0++x::V.drop 0)++Z))):=by
    have:=Au bE.o λg' hg=>i3.Al g' (Aw bE.o hg) (λh=>h);unfold Hid;simpa using this
   have bD:Hid (A4 (One g) w wr):=i3.aS;(have a6:s<=V.length:=by rw[bH.o];exact i2);have bL:Hid (∀q,q<=s->_):=λq O=>A0p (a:=a) (q:=q) a9.o.1 (AO (by rw[bX.o];exact Mc i2 m) a9.o.2) O;have bC:=A1 a6;obtain⟨ms,aU⟩:=iG (m+s);(have bU:Hid (ms=a+1+s):=by unfold Hid;rw[<-aU,<-bX.o]);rw[aU]at a2 ⊢;clear hI i1 i2 i3 i4 i5 aS bP bW aR e1 e2 aU aE a6;generalize wr=w3 at bG bD ⊢;go_wp2;go_loopw [13] (λkv wr=>∃q:Nat,kv=A0 ((a+q:Nat):Int)/\q<=s/\Hid (wr.ownsRow 0 113 3 (AA g n cap) n (B5 (A++(V.take q++x::V.drop q)++Z))/\A4 (One g) w wr)) (λkv _=>a+s-(intOf kv).toNat)
   ·exact⟨0,by go_num,Cb _,bG.o,bD.o⟩
   ·obtain⟨q,rfl,aL,hI⟩:=hrel;have⟨i1,i2⟩:=hI.o;have⟨z1,z2,z3,z4⟩:=bL.o q aL;rw[<-bU.o]at z1 z2;obtain⟨S,aF⟩:=iG (a+s);rw[aF]at z1 z2;by_cases O:q<s
    ·have⟨y,f1,f2,f3⟩:=A16 (A:=A) (Z:=Z) (x:=x) (Bp O bC.o);rw[bT.o]at f1 f2 f3;obtain⟨P,hP⟩:=iG (a+q);(have a7:a+(q+1)=P+1:=by rw[<-Md,hP]);rw[hP]at f1 f2 f3;rw[hP,a7]at z3 z4;have⟨b1,b1'⟩:=Ik.1 f1;have⟨b2,b2'⟩:=Ik.1 f2;have hlt:((P:Nat):Int)<(S:Int):=FA.2 (by rw[<-hP,<-aF];exact KP O a);have⟨x1,x2,x3⟩:=B1.bC i1 P b1 x b1';have⟨y1,y2,y3⟩:=B1.bC i1 (P+1) b2 y b2';have⟨fz7,wv,aH,hchg⟩:=S0 i1 P (P+1) b1 b2 (Nat.ne_of_lt (Wb P)) x y b2';obtain⟨aQ,aT,aP⟩:=wv;have fz:∀o,wr.frozen? (A9 g o)=false:=λo=>ER i1 rfl o;have aN:=a8.o _ i1;rw[aN]at b1 b2;have PI:(P:Int)<(n:Int):=FA.2 b1;have P1I:(P:Int)+1<(n:Int):=FA.2 b2;have P0:=BJ P;have P10:(0:Int)<=(P:Int)+1:=GA (P+1);have tP:(P:Int).toNat=P:=EX P;have tP1:((P:Int)+1).toNat=P+1:=EX (P+1);have z3':wrap64 ((P:Int)+1)=(P:Int)+1:=z3;have z4':IntKind.i64.wrap ((P:Int)+1)=(P:Int)+1:=z4;rw[f3]at aH;have X:=A1 (And.intro aH (hchg w i2));have bY:=A1 (And.intro O hP);obtain⟨xa,xb,xc⟩:=x;obtain⟨ya,yb,yc⟩:=y;unfold HI at fz7 aQ aT aP X;dsimp only at x1 x2 x3 y1 y2 y3 fz7 aQ aT aP X;rw[hP];clear hI i1 i2 f1 f2 f3 b1 b1' b2 b2' aH hchg O hP a7 aN aF z3 z4 aL bL bG bD bO bE bI bK;go_wp2;refine Mt 15 (λw'=>A7 w' g (P*3) (A0 xa)/\A7 w' g (P*3+1) (A0 xb)/\A7 w' g (P*3+2) (A0 xc)/\A7 w' g ((P+1)*3) (A0 ya)/\A7 w' g ((P+1)*3+1) (A0 yb)/\A7 w' g ((P+1)*3+2) (A0 yc)) 16
      [(0,1),(1,1),(5,1),(6,1),(7,1),(8,1),(9,1),(10,2),(11,2),(12,2),(13,1),(14,1),(2,2),(3,2),(4,2),(15,0)] ⟨x1,x2,x3,y1,y2,y3⟩ ?_
     iterate 7 refine IN ?_
     iterate 3 refine IP ?_
     iterate 2 refine IN ?_
     iterate 3 refine IP ?_
     refine Mv λK hK=>?_;go_simp;refine hK _ _ ?_;clear hK K;refine Mu ?_;clear x1 x2 x3 y1 y2 y3 fz;generalize (((wr.setCell (A9 g (P*3)) (A0 ya)).setCell (A9 g (P*3+1)) (A0 yb)).setCell (A9 g (P*3+2)) (A0 yc)).drew=w7 at fz7 aQ aT aP X ⊢;go_wp2;go_roundw
     ·have⟨k1,k2⟩:=bY.o;exact⟨q+1,by rw[<-k2];rfl,k1,X.o⟩
     ·have⟨k1,k2⟩:=bY.o;exact A0H k1 k2
    ·obtain rfl:q=s:=Mb aL (Ji O);have a2:¬((S:Int)<(S:Int)):=L6 _;rw[aF];have X:=A1 (And.intro i1 i2);have bN:=bC.o;have b6:Hid ((V.take q++x::V.drop q).length=V.length+1):=U9 V x q bN;clear hI i1 i2 O aF z3 z4 aL bL bG bD bE bI bK;go_wp2;refine JU (Jv rfl _ _ _) rfl ?_;exact⟨rfl,V.take q++x::V.drop q,by simpa using X.o.1,by rw[<-bH.o];exact b6.o,bO.o.1,bO.o.2,X.o.2⟩
end
def A0G{a s r L n:Nat}(E:n<=4294967296)(h:s<r)(z:r<=L)(d:a+L<=n):
 wrap64 (((a+s:Nat):Int)+((a+r:Nat):Int))=((a+s+(a+r):Nat):Int)/\IntKind.u64.wrap ((a+s+(a+r):Nat):Int)=((a+s+(a+r):Nat):Int)/\wrap64 (((a+s+(a+r):Nat):Int)/2)=((a+(s+r)/2:Nat):Int)/\
 (s+r)/2<r/\s<=(s+r)/2/\a+(s+r)/2<n/\wrap64 (((a+(s+r)/2:Nat):Int)+1)=((a+((s+r)/2+1):Nat):Int):=TS E h z d
def A0I(P:Nat):(intOf (A0 (P:Int))).toNat<(intOf (A0 ((P:Int)+1))).toNat:=by simp[intOf]
def A08{a s n q:Nat}(hn:n<=4294967296)(h:a+s<=n)(hq:q+1<=s):
 wrap64 (((a+q+1:Nat):Int)-1)=((a+q:Nat):Int)/\IntKind.i64.wrap (((a+q+1:Nat):Int)-1)=((a+q:Nat):Int):=by
 refine⟨by unfold wrap64;omega,?_⟩;simp[IntKind.wrap,IntKind.bits,IntKind.signed];omega
section
variable{w w':gC}{g cap n:Nat}
def XO(w:gC)(g cap n wb:Nat)(len:Int)(A U Z:gF Pu)(x:Pu)(hu:2<=U.length)(hn:n=(A++(U++x::Z)).length)(h:w.ownsRow 0 113 3 (AA g n cap) n (B5 (A++(U++x::Z))))(hT:∀p∈x::U,Ay p.2.1)(hA:B6 (AE len) U)(hl:1<=len/\len<=4611686018427387904)(hw:A7 w wb 0 (A0 len))(_hwb:wb≠g)(aI:n<=4294967296):
 Ag 244 #[AA g n cap,A0 A.length,A0 ((A.length+U.length:Nat):Int),A0 ((A.length+U.length+1:Nat):Int),.func (Fn.func 155) #[] #[A5 wb]] w (Aj (.tuple #[]) λw'=>
  ∃M,w'.ownsRow 0 113 3 (AA g n cap) n (B5 (A++M++Z))/\M.length=U.length+1/\B6 (AE len) M/\Bt (AE len) (U++[x]) M/\A4 (One g) w w'):=by
 have b4:=Gi len;obtain⟨a,ha⟩:=iG A.length;obtain⟨L,hL⟩:=iG U.length;obtain⟨m,hm⟩:=iG (a+L);have a1:m<n:=by rw[hn];simp;omega
 have aR:Hid (∀s r,s<r->r<=L->_):=λs r h hr=>A0G (a:=a) aI h hr iC;have bP:Hid (∀d,A4 Aa w d->∀q (E:q<U.length),A7 d g ((a+q)*3) (A0 (U[q]'E).1)/\A7 d g ((a+q)*3+1) (A0 (U[q]'E).2.1)/\A7 d g ((a+q)*3+2) (A0 (U[q]'E).2.2)):=λd hx q E=>by
  have e:(A++(U++x::Z))[a+q]'(by rw[<-hn];omega)=U[q]'E:=by
   rw[Gj iC];(have:a+q-A.length=q:=iC);simp only[this];exact Fy E
  obtain⟨y1,y2,y3⟩:=B1.bC h (a+q) (by rw[<-hn];omega) _ e;exact⟨hx.ad y1,hx.ad y2,hx.ad y3⟩
 have bV:Hid (∀d,A4 Aa w d->A7 d g (m*3) (A0 x.1)/\A7 d g (m*3+1) (A0 x.2.1)/\A7 d g (m*3+2) (A0 x.2.2)):=λd hx=>by
  have e:(A++(U++x::Z))[m]'(by rw[<-hn];omega)=x:=by
   rw[Gj iC,Gj iC];(have:m-A.length-U.length=0:=iC);simp only[this,KY]
  obtain⟨y1,y2,y3⟩:=B1.bC h m (by rw[<-hn];omega) _ e;exact⟨hx.ad y1,hx.ad y2,hx.ad y3⟩
 have e1:wrap64 ((m:Int)-(a:Int))=(L:Int):=by unfold wrap64;omega
 have e2:IntKind.i64.wrap ((m:Int)-(a:Int))=(L:Int):=by simp[IntKind.wrap,IntKind.bits,IntKind.signed];omega
 have e3:((L:Int)=1)=False:=Nf iC;have e3':((L:Int)==1)=false:=by rw[I8];omega
 obtain⟨b,hb⟩:=iG (m+1);have e4:wrap64 ((b:Int)-(m:Int))=1:=by unfold wrap64;omega
 have e5:IntKind.i64.wrap ((b:Int)-(m:Int))=1:=by rw[show (b:Int)-(m:Int)=1 by omega];rfl
 have m0:=BJ m;have mI:(m:Int)<(n:Int):=iC
 have aY:n<=cap/\cap<=9223372036854775807:=by
  obtain⟨a',c',e,h1,h2,_⟩:=B8 h;cases e;unfold maxLen at h2;omega
 obtain⟨hc1,hc2⟩:=aY;have bE:=A1 hT;have b5:=A1 hw;have bQ:=A1 hl;have bB:=A1 h;have bH:=A1 hA;have bF:=A1 hm;have aT:=A1 hL;have bT:=A1 ha;have a6:Hid (∀ {d:gC} (l:gF Pu),d.ownsRow 0 113 3 (AA g n cap) n (B5 l)->l.length=n):=λl hl=>by
  have:=hl.1;rw[T1]at this;omega
 have a7:Hid (n<=4294967296/\m<n):=⟨aI,a1⟩;rw[ha,hL,hm,hb];clear h hT hw hl _hwb hA hm a1 aI hn ha hu hL hb
 go_enter func244,ntmps244
 go_wp2;rename_i kA kB qA bK;clear kB;go_loopw [14,15] (λiv jv wr=>∃(s r:Nat),iv=A0 ((a+s:Nat):Int)/\jv=A0 ((a+r:Nat):Int)/\Hid (s<=r/\r<=L/\A4 Aa w wr/\(∀y,(U.take s).getLast?=some y->AE len x y=false)/\(∀y,(U.drop r).head?=some y->AE len x y=true))) (λiv jv _=>(intOf jv).toNat-(intOf iv).toNat)
 ·exact⟨0,L,by go_num,by rw[bF.o],Cb _,An _,A4.C _ _,(λy hy=>by simp at hy),(λy hy=>by rw[<-aT.o,H5]at hy;cases hy)⟩
 ·obtain⟨s,r,rfl,rfl,hI⟩:=hrel;obtain⟨i1,i2,i3,i4,i5⟩:=hI.o;by_cases aF:s<r
  ·obtain⟨n1,n2,n3,n4,n5,n6,n7⟩:=aR.o s r aF i2;have bM:((a+s:Nat):Int)<((a+r:Nat):Int):=FA.2 (KP aF a);obtain⟨q,E⟩:=iG ((s+r)/2);rw[E]at n3 n4 n5 n6 n7;(have aA:q<U.length:=by rw[aT.o];exact Bp n4 i2);obtain⟨y,hy⟩:=iG (U[q]'aA);have bD:Hid (∀d,A4 Aa wr d->(A7 d g ((a+q)*3) (A0 y.1)/\A7 d g ((a+q)*3+1) (A0 y.2.1)/\A7 d g ((a+q)*3+2) (A0 y.2.2))/\A7 d g (m*3) (A0 x.1)/\A7 d g (m*3+1) (A0 x.2.1)/\A7 d g (m*3+2) (A0 x.2.2)):=λd hx=>by
    have a4:=i3.tr hx;have:=bP.o d a4 q aA;rw[hy]at this;exact⟨this,bV.o d a4⟩
   have aZ:Ay y.2.1:=bE.o y (BC _ (hy ▸ BT aA));have a8:=A1 (λd bR=>No d wb len x y (bE.o x (BI ..)) aZ bQ.o bR);have aJ:=Nn (len:=len) (p:=x) (q:=y);obtain⟨cc,a9⟩:=iG (Ht len x y);rw[a9]at a8 aJ;have aM:A7 wr wb 0 (A0 len):=i3.ad b5.o;have b6:Hid (¬cc<0->∀z,(U.take (q+1)).getLast?=some z->AE len x z=false):=λhc z hz=>by
    rw[N3 aA,hy]at hz;cases hz;cases hk:AE len x y with
    | false=>rfl
    | true=>exact absurd (aJ.2 hk) hc
   have bU:Hid (cc<0->∀z,(U.drop q).head?=some z->AE len x z=true):=λhc z hz=>by
    rw[head_drop aA,hy]at hz;cases hz;exact aJ.1 hc
   obtain⟨Q,hQ⟩:=iG (a+q);rw[hQ]at n3 n6 n7 bD;have QI:(Q:Int)<(n:Int):=FA.2 n6;have Q0:=BJ Q;have tQ:(Q:Int).toNat=Q:=EX Q;have tM:(m:Int).toNat=m:=EX m;obtain⟨xa,xb,xc⟩:=x;obtain⟨ya,yb,yc⟩:=y;unfold DO at a8;dsimp only at a8 bD;have bW:=bD.o wr.drew (A4.C _ wr).aa;have aX:=A1 (a8.o wr.drew aM);obtain⟨I,Y⟩:=iG (a+s);obtain⟨J,aB⟩:=iG (a+r);obtain⟨bZ,aD⟩:=iG (I+J);rw[Y,aB,aD]at n1 n2;obtain⟨b0,aV⟩:=iG (a+(q+1));rw[aV]at n7;rw[Y,aB,aD]at n3;rw[Y,aB]at bM;have aE:=A1 (And.intro i1 (And.intro i2 (And.intro i3 (And.intro i4 (And.intro i5 (And.intro n4 (And.intro n5 (And.intro hQ (And.intro aV (And.intro Y aB))))))))));rw[Y,aB];clear hI i1 i2 i3 i4 i5 n4 n5 n6 E hy aZ a9 a8 aM aA aF aR bP bV hQ aV Y aB aD aJ e1 e2 e4 e5;rcases QN (cc<0) with X|X
   focus
    have aU:¬(0<=cc):=Int.not_le.2 X;have bI:decide (cc<0)=true:=CN X
   rotate_left
   focus
    have aU:0<=cc:=QK.1 X;have bI:decide (cc<0)=false:=CO X
   iterate 2
    ·go_wp2;clear n1 n2 n3;refine Bq (λw'=>(A7 w' g (Q*3) (A0 ya)/\A7 w' g (Q*3+1) (A0 yb)/\A7 w' g (Q*3+2) (A0 yc))/\A7 w' g (m*3) (A0 xa)/\A7 w' g (m*3+1) (A0 xb)/\A7 w' g (m*3+2) (A0 xc)) 10
      (Ba [0,1,2,3,4,5,6,7,8,9] [9]) bW ?_
     iterate 9 refine B4 ?_
     refine Bf λK hK=>?_;go_simp;refine aX.k ?_;rintro w6 a2;have k6:A4 Aa wr w6:=((A4.C Aa wr).aa).tr a2;refine hK _ _ (bD.o w6 k6) (λhS=>?_);have bY:=A1 k6;clear hK K hS a2 k6 bW aX;refine Bl ?_;clear bK;go_wp2;go_roundw
     ·obtain⟨f1,f2,f3,f4,f5,f6,f7,f8,f9,f10,f11⟩:=aE.o
      first
       | exact⟨q+1,r,by rw[<-f8];rfl,by rw[f11],f6,f2,f3.tr bY.o,b6.o (by first|exact aU|exact QK.2 aU),f5⟩
       | exact⟨s,q,by rw[f10],by rw[f8],f7,Fu (Bp f6 f2),f3.tr bY.o,f4,bU.o X⟩
     ·obtain⟨f1,f2,f3,f4,f5,f6,f7,f8,f9,f10,f11⟩:=aE.o;(have g1:I<=Q:=by rw[<-f10,<-f8];exact Mc f7 a);(have g2:Q<J:=by rw[<-f11,<-f8];exact KP f6 a)
      first
       | exact Pf g1 g2
       | exact Pg g1 g2
  ·obtain rfl:s=r:=Mb i1 (Ji aF);have a0:¬(((a+s:Nat):Int)<((a+s:Nat):Int)):=L6 _;have bO:=A1 (b4.gu bH.o s i4 i5);have bC:Hid (wr.ownsRow 0 113 3 (AA g n cap) n (B5 (A++(U.take L++x::U.drop L)++Z))):=by
    have:=Au bB.o λg' hg=>i3.Al g' (Aw bB.o hg) (λh=>h);unfold Hid;rw[<-aT.o,C5,H5];simpa using this
   have bA:Hid (A4 (One g) w wr):=i3.aS;have bS:s<=L:=i2;have bL:Hid (∀q,q+1<=L->_):=λq E=>A08 (a:=a) (q:=q) (s:=L) a7.o.1 (by rw[bF.o];exact Fu a7.o.2) E;obtain⟨S,hS⟩:=iG (a+s);have bX:=A1 hS;rw[hS]at a0 ⊢;clear hI i1 i2 i3 i4 i5 aR bP bV e1 e2 e4 e5 hS aF;generalize wr=w3 at bC bA ⊢;go_wp2;go_loopw [17] (λkv wr=>∃q:Nat,kv=A0 ((a+q:Nat):Int)/\s<=q/\q<=L/\Hid (wr.ownsRow 0 113 3 (AA g n cap) n (B5 (A++(U.take q++x::U.drop q)++Z))/\A4 (One g) w wr)) (λkv _=>(intOf kv).toNat)
   ·exact⟨L,by rw[bF.o],bS,An _,bC.o,bA.o⟩
   ·obtain⟨q,rfl,aP,aG,hI⟩:=hrel;obtain⟨i1,i2⟩:=hI.o;by_cases E:s<q
    ·obtain⟨q,rfl⟩:=Nat.exists_eq_succ_of_ne_zero (Nat.ne_of_gt (NO (Cb s) E));obtain⟨z1,z2⟩:=bL.o q aG;obtain⟨y,f1,f2,f3⟩:=A3F (A:=A) (Z:=Z) (y:=x) (U:=U) (q:=q) (by rw[aT.o];exact aG);rw[bT.o]at f1 f2 f3;obtain⟨P,hP⟩:=iG (a+q);(have a5:a+(q+1)=P+1:=by rw[<-Md,hP]);rw[hP]at f1 f2 f3 z1 z2;obtain⟨b1,a3⟩:=Ik.1 f1;obtain⟨b2,aQ⟩:=Ik.1 f2;have hlt:(S:Int)<((P:Nat):Int)+1:=FA.2 (show S<P+1 by rw[<-hP,<-bX.o];exact KP E a);obtain⟨x1,x2,x3⟩:=B1.bC i1 (P+1) b1 x a3;obtain⟨y1,y2,y3⟩:=B1.bC i1 P b2 y aQ;obtain⟨aW,wv,aH,aL⟩:=S0 i1 (P+1) P b1 b2 (Nat.ne_of_gt (Wb P)) x y aQ;obtain⟨aO,aS,aN⟩:=wv;have fz:∀o,wr.frozen? (A9 g o)=false:=λo=>ER i1 rfl o;have aK:=a6.o _ i1;rw[aK]at b1 b2;have PI:(P:Int)<(n:Int):=FA.2 b2;have P1I:(P:Int)+1<(n:Int):=FA.2 b1;have P0:=BJ P;have P10:(0:Int)<=(P:Int)+1:=GA (P+1);have tP:(P:Int).toNat=P:=EX P;have tP1:((P:Int)+1).toNat=P+1:=EX (P+1);have bG:wrap64 ((P:Int)+1-1)=(P:Int):=z1;have bJ:IntKind.i64.wrap ((P:Int)+1-1)=(P:Int):=z2;(have z3':wrap64 (P:Int)=(P:Int):=by rwa [K9]at bG);(have z4':IntKind.i64.wrap (P:Int)=(P:Int):=by rwa [K9]at bJ);rw[f3]at aH;have O:=A1 (And.intro aH (aL w i2));have b3:=A1 (And.intro E (And.intro hP aG));obtain⟨xa,xb,xc⟩:=x;obtain⟨ya,yb,yc⟩:=y;unfold HI at aW aO aS aN O;dsimp only at x1 x2 x3 y1 y2 y3 aW aO aS aN O;rw[a5];clear hI i1 i2 f1 f2 f3 b1 a3 b2 aQ aH aL E hP a5 aK z1 z2 aG aP bL bC bA bO bB bE bH;go_wp2;refine Mt 15 (λw'=>A7 w' g (P*3) (A0 ya)/\A7 w' g (P*3+1) (A0 yb)/\A7 w' g (P*3+2) (A0 yc)/\A7 w' g ((P+1)*3) (A0 xa)/\A7 w' g ((P+1)*3+1) (A0 xb)/\A7 w' g ((P+1)*3+2) (A0 xc)) 16
      [(0,1),(1,1),(5,1),(6,1),(7,1),(8,1),(9,1),(10,2),(11,2),(12,2),(13,1),(14,1),(2,2),(3,2),(4,2),(15,0)] ⟨y1,y2,y3,x1,x2,x3⟩ ?_
     iterate 7 refine IN ?_
     iterate 3 refine IP ?_
     iterate 2 refine IN ?_
     iterate 3 refine IP ?_
     refine Mv λK hK=>?_;go_simp;refine hK _ _ ?_;clear hK K;refine Mu ?_;clear x1 x2 x3 y1 y2 y3 fz;generalize (((wr.setCell (A9 g ((P+1)*3)) (A0 ya)).setCell (A9 g ((P+1)*3+1)) (A0 yb)).setCell (A9 g ((P+1)*3+2)) (A0 yc)).drew=w7 at aW aO aS aN O ⊢;go_wp2;go_roundw
     ·obtain⟨k1,k2,k3⟩:=b3.o;exact⟨q,by rw[k2],Qu k1,A4B k3,O.o⟩
     ·exact A0I P
    ·obtain rfl:s=q:=Mb aP (Ji E);have a0:¬((S:Int)<(S:Int)):=L6 _;rw[bX.o];have O:=A1 (And.intro i1 i2);have bN:=aT.o;have b7:Hid ((U.take s++x::U.drop s).length=U.length+1):=U9 U x s (by rw[aT.o];exact aG);clear hI i1 i2 E aP bL bC bA bB bE bH bN;go_wp2;refine JU (Jv rfl _ _ _) rfl ?_;exact⟨rfl,U.take s++x::U.drop s,by simpa using O.o.1,by rw[<-aT.o];exact b7.o,bO.o.1,bO.o.2,O.o.2⟩
end
def NF(k:Nat):Prop:=∀(w:gC) (g cap n wb:Nat) (len:Int) (A U V Z:gF Pu),U.length+V.length<=k->U≠[]->V≠[]->n=(A++U++V++Z).length->w.ownsRow 0 113 3 (.slice (some ⟨g,0,none⟩) n cap) n (B5 (A++U++V++Z))->
 (∀p∈U++V,Ay p.2.1)->B6 (AE len) U->B6 (AE len) V->(1<=len/\len<=4611686018427387904)->w.cell? ⟨wb,0,none⟩=some (.int .i64 len)->wb≠g->n<=4294967296->
 Calls Tryz.prog 244 #[.slice (some ⟨g,0,none⟩) n cap,.int .i64 A.length,.int .i64 ((A.length+U.length:Nat):Int),.int .i64 ((A.length+U.length+V.length:Nat):Int),.func (Fn.func 155) #[] #[.pointer (some ⟨wb,0,none⟩)]] w λe w'=>e=.returned (.tuple #[])/\
  ∃M,w'.ownsRow 0 113 3 (.slice (some ⟨g,0,none⟩) n cap) n (B5 (A++M++Z))/\M.length=U.length+V.length/\B6 (AE len) M/\Bt (AE len) (U++V) M/\A4 (One g) w w'
def XJ{a b n nn s0 r0 s r:Nat}(hn:n<=4294967296)(hb:b<=n)(h1:s0<=s)(h2:s<r)(h3:r<=r0)(h4:r0<b)(h5:r0<=nn)(h6:nn<=s0+b)(h7:nn<=8589934592)(h8:a<=s0)(h9:a+r0<=nn):
 wrap64 ((s:Int)+(r:Int))=((s+r:Nat):Int)/\IntKind.u64.wrap ((s+r:Nat):Int)=((s+r:Nat):Int)/\wrap64 (((s+r:Nat):Int)/2)=(((s+r)/2:Nat):Int)/\s<=(s+r)/2/\(s+r)/2<r/\(s+r)/2<n/\nn-1-(s+r)/2<n/\
 wrap64 (((nn-1:Nat):Int)-(((s+r)/2:Nat):Int))=((nn-1-(s+r)/2:Nat):Int)/\IntKind.i64.wrap (((nn-1:Nat):Int)-(((s+r)/2:Nat):Int))=((nn-1-(s+r)/2:Nat):Int)/\wrap64 ((((s+r)/2:Nat):Int)+1)=(((s+r)/2+1:Nat):Int)/\(a<=(s+r)/2/\(s+r)/2<b/\a<=nn-1-(s+r)/2/\nn-1-(s+r)/2<b):=by
 refine⟨by unfold wrap64;omega,?_,by unfold wrap64;omega,iC,iC,iC,iC,by unfold wrap64;omega,?_,by unfold wrap64;omega,iC,iC,iC,iC⟩
 ·simp[IntKind.wrap,IntKind.bits,IntKind.signed];omega
 ·simp[IntKind.wrap,IntKind.bits,IntKind.signed];omega
def H6{x:Int}{k:Nat}(h:x=(k:Int))(hk:k<=9223372036854775807):wrap64 x=(k:Int)/\IntKind.i64.wrap x=(k:Int):=by
 subst h;refine⟨by unfold wrap64;omega,?_⟩;simp[IntKind.wrap,IntKind.bits,IntKind.signed];omega
def XL{a b m mid nn s0:Nat}(hmid:(a+b)/2=mid)(hnn:nn=mid+m)(h:mid<m)(hs:s0=nn-b)(h5:nn<=8589934592):(nn:Int)-(b:Int)=(s0:Int)/\s0<=9223372036854775807:=iC
def XK{a m b lu lv ab mid nn p n:Nat}(hbig:n<=4294967296)(hbn:b<=n)(hm:a+lu=m)(hb:m+lv=b)(hab:a+b=ab)(hmid:ab/2=mid)(hnn:nn=mid+m)(hp:nn-1=p)(h1:2<=lu)(h2:2<=lv):
 (wrap64 ((m:Int)-(a:Int))=(lu:Int)/\IntKind.i64.wrap ((m:Int)-(a:Int))=(lu:Int))/\(wrap64 ((b:Int)-(m:Int))=(lv:Int)/\IntKind.i64.wrap ((b:Int)-(m:Int))=(lv:Int))/\((lu:Int)==1)=false/\((lv:Int)==1)=false/\
 (wrap64 ((a:Int)+(b:Int))=(ab:Int)/\IntKind.i64.wrap ((a:Int)+(b:Int))=(ab:Int))/\IntKind.u64.wrap (ab:Int)=(ab:Int)/\(wrap64 ((ab:Int)/2)=(mid:Int)/\IntKind.i64.wrap ((ab:Int)/2)=(mid:Int))/\
 (wrap64 ((mid:Int)+(m:Int))=(nn:Int)/\IntKind.i64.wrap ((mid:Int)+(m:Int))=(nn:Int))/\(wrap64 ((nn:Int)-1)=(p:Int)/\IntKind.i64.wrap ((nn:Int)-1)=(p:Int)):=by
 refine⟨H6 iC iC,H6 iC iC,by rw[I8];omega,by rw[I8];omega,H6 iC iC,?_,H6 iC iC,H6 iC iC,H6 iC iC⟩;simp[IntKind.wrap,IntKind.bits,IntKind.signed];omega
section
variable{w w' wr:gC}{g cap n k wb a s m e b mid:Nat}{len:Int}{A U1 U2 V1 V2 Z:gF Pu}
def XI(hk:NF k)(aK:(U1++U2).length+(V1++V2).length<=k+1)(hn:n=(A++(U1++U2)++(V1++V2)++Z).length)(h:wr.ownsRow 0 113 3 (.slice (some ⟨g,0,none⟩) n cap) n (B5 (A++(U1++U2)++(V1++V2)++Z)))(hc:A4 (One g) w wr)(hT:∀p∈(U1++U2)++(V1++V2),Ay p.2.1)(aF:B6 (AE len) (U1++U2))(aH:B6 (AE len) (V1++V2))(hl:1<=len/\len<=4611686018427387904)(hw:w.cell? ⟨wb,0,none⟩=some (.int .i64 len))(aA:wb≠g)(X:n<=4294967296)(h1:∀x y,U1.getLast?=some x->V2.head?=some y->AE len y x=false)(h2:∀x y,V1.getLast?=some y->U2.head?=some x->AE len y x=true)(ea:A.length=a)(es:a+U1.length=s)(em:s+U2.length=m)(ee:m+V1.length=e)(eb:e+V2.length=b)(aE:s+V1.length=mid)(lm1:a<mid)(lm2:mid<b):
 ∃aJ aI:gC->Prop,((U2=[]\/V1=[])->aJ wr)/\
  (U2≠[]->V1≠[]->∀cv,Calls Tryz.prog 263 #[.slice (some ⟨g,0,none⟩) n cap,.int .i64 s,.int .i64 m,.int .i64 e,cv] wr λx w'=>x=.returned (.tuple #[])/\aJ w')/\
  (∀w',aJ w'->(U1=[]\/V1=[])->aI w')/\
  (∀w',aJ w'->U1≠[]->V1≠[]->Calls Tryz.prog 244 #[.slice (some ⟨g,0,none⟩) n cap,.int .i64 a,.int .i64 s,.int .i64 mid,.func (Fn.func 155) #[] #[.pointer (some ⟨wb,0,none⟩)]] w' λx z=>x=.returned (.tuple #[])/\aI z)/\
  (∀w',aI w'->(U2=[]\/V2=[])->∃M,w'.ownsRow 0 113 3 (.slice (some ⟨g,0,none⟩) n cap) n (B5 (A++M++Z))/\M.length=(U1++U2).length+(V1++V2).length/\B6 (AE len) M/\Bt (AE len) ((U1++U2)++(V1++V2)) M/\A4 (One g) w w')/\
  (∀w',aI w'->U2≠[]->V2≠[]->Calls Tryz.prog 244 #[.slice (some ⟨g,0,none⟩) n cap,.int .i64 mid,.int .i64 e,.int .i64 b,.func (Fn.func 155) #[] #[.pointer (some ⟨wb,0,none⟩)]] w' λx z=>x=.returned (.tuple #[])/\
   ∃M,z.ownsRow 0 113 3 (.slice (some ⟨g,0,none⟩) n cap) n (B5 (A++M++Z))/\M.length=(U1++U2).length+(V1++V2).length/\B6 (AE len) M/\Bt (AE len) ((U1++U2)++(V1++V2)) M/\A4 (One g) w z):=by
 have aM:=Gi len;obtain⟨u1,u2,-⟩:=B6.au aF;obtain⟨v1,v2,-⟩:=B6.au aH;have aB:n=A.length+U1.length+U2.length+V1.length+V2.length+Z.length:=by rw[hn];simp;omega
 have L:∀w',A4 (One g) w w'->w'.cell? ⟨wb,0,none⟩=some (.int .i64 len):=λw' aL=>aL.bI hw λe=>aA e;have hUV':U1.length+U2.length+(V1.length+V2.length)<=k+1:=by simpa using aK
 have aG:∀(w':gC) (d aD:gF Pu),w'.ownsRow 0 113 3 (.slice (some ⟨g,0,none⟩) n cap) n (B5 (A++(d++aD)++Z))->d.length=U1.length+V1.length->aD.length=U2.length+V2.length->B6 (AE len) d->B6 (AE len) aD->Bt (AE len) (U1++V1) d->Bt (AE len) (U2++V2) aD->A4 (One g) w w'->
  ∃M,w'.ownsRow 0 113 3 (.slice (some ⟨g,0,none⟩) n cap) n (B5 (A++M++Z))/\M.length=(U1++U2).length+(V1++V2).length/\B6 (AE len) M/\Bt (AE len) ((U1++U2)++(V1++V2)) M/\A4 (One g) w w':=λw' d aD q0 q1 q2 q3 q4 q5 q6 q7=>by
  have⟨j1,j2⟩:=aM.fu aF aH (aM.cT u1 v2 h1) (aM.dM v1 u2 h2) q3 q4 q5 q6;exact⟨d++aD,q0,by simp;omega,j1,j2,q7⟩
 refine⟨λw'=>w'.ownsRow 0 113 3 (.slice (some ⟨g,0,none⟩) n cap) n (B5 (A++(U1++V1)++(U2++(V2++Z))))/\A4 (One g) w w',
  λw'=>∃d,w'.ownsRow 0 113 3 (.slice (some ⟨g,0,none⟩) n cap) n (B5 (A++d++(U2++(V2++Z))))/\d.length=U1.length+V1.length/\B6 (AE len) d/\Bt (AE len) (U1++V1) d/\A4 (One g) w w',
  λI=>⟨?_,hc⟩,λI hy cv=>?_,λw' O I=>?_,λw' O I hy=>?_,λw' O I=>?_,λw' O I hy=>?_⟩
 ·have e:A++(U1++U2)++(V1++V2)++Z=A++(U1++V1)++(U2++(V2++Z)):=by rcases I with rfl|rfl<;>simp
  rwa [e]at h
 ·have e:A++(U1++U2)++(V1++V2)++Z=(A++U1)++U2++V1++(V2++Z):=iE
  rw[e]at h;have:=YN wr g cap n (A++U1) U2 V1 (V2++Z) cv I hy (by rw[aB,B3,B3,B3,B3,B3];omega) h;have l1:(A++U1).length=s:=by rw[B3];omega
  rw[l1,em,ee]at this;refine this.mono ?_;rintro x w'⟨rfl,Y,r2⟩;refine⟨rfl,?_,hc.AF r2 λ_ h _=>h⟩;have e:(A++U1)++V1++U2++(V2++Z)=A++(U1++V1)++(U2++(V2++Z)):=iE
  rwa [e]at Y
 ·refine⟨U1++V1,O.1,iE,?_,Bt.C _,O.2⟩;rcases I with rfl|rfl
  ·simpa using v1
  ·simpa using u1
 ·have:=hk w' g cap n wb len A U1 V1 (U2++(V2++Z)) iC I hy (by rw[aB];simp only[B3];omega) (by have:=O.1;rwa [<-Ci A U1 V1]at this) (λp E=>hT p (by simp at E ⊢;rcases E with E|E<;>simp[E])) u1 v1 hl (L w' O.2) aA X;rw[ea,es,aE]at this;refine this.mono ?_;rintro x z⟨rfl,M,Y,r2,r3,r4,r5⟩;exact⟨rfl,M,Y,r2,r3,r4,O.2.AF r5 λ_ h _=>h⟩
 ·obtain⟨d,Y,r2,r3,r4,r5⟩:=O;refine aG w' d (U2++V2) ?_ r2 iE r3 ?_ r4 (Bt.C _) r5
  ·(have e:A++(d++(U2++V2))++Z=A++d++(U2++(V2++Z)):=iE);rw[e];exact Y
  ·rcases I with rfl|rfl
   ·simpa using v2
   ·simpa using u2
 ·obtain⟨d,Y,r2,r3,r4,r5⟩:=O;have lM:(A++d).length=mid:=by rw[B3];omega
  have:=hk w' g cap n wb len (A++d) U2 V2 Z iC I hy (by rw[aB];simp only[B3];omega) (by have e:A++d++U2++V2++Z=A++d++(U2++(V2++Z)):=iE;rw[e];exact Y) (λp E=>hT p (by simp at E ⊢;rcases E with E|E<;>simp[E])) u2 v2 hl (L w' r5) aA X;rw[lM,show mid+U2.length=e by omega,eb]at this;refine this.mono ?_;rintro x z⟨rfl,M,q1,q2,q3,q4,q5⟩;refine⟨rfl,aG z d M ?_ r2 q2 r3 q3 r4 q4 (r5.AF q5 λ_ h _=>h)⟩;rw[<-Ci A d M];exact q1
end
section
variable{w wr:gC}{g cap n k wb a m b mid nn s0 r0 s:Nat}{len:Int}{A U V Z D:gF Pu}
def XH(hk:NF k)(aL:U.length+V.length<=k+1)(aP:2<=U.length)(aR:2<=V.length)(hn:n=(A++U++V++Z).length)(hD:D=A++U++V++Z)(h:wr.ownsRow 0 113 3 (.slice (some ⟨g,0,none⟩) n cap) n (B5 D))(aS:A4 (λ_=>False) w wr)(hT:∀p∈U++V,Ay p.2.1)(aM:B6 (AE len) U)(aO:B6 (AE len) V)(hl:1<=len/\len<=4611686018427387904)(hw:w.cell? ⟨wb,0,none⟩=some (.int .i64 len))(aN:wb≠g)(aJ:n<=4294967296)(ha:A.length=a)(hm:a+U.length=m)(hb:m+V.length=b)(X:(a+b)/2=mid)(aQ:nn=mid+m)(aI:if mid<m then s0=nn-b/\r0=mid else s0=a/\r0=m)(hs:GB (AE len) D nn s0 r0 s s):
 ∃(e:Nat) (u1 I O v2:Bool) (aG aF:gC->Prop),(wrap64 ((nn:Int)-(s:Int))=(e:Int)/\IntKind.i64.wrap ((nn:Int)-(s:Int))=(e:Int))/\
  (decide (s<m)=I/\decide (m<e)=O/\decide (a<s)=u1/\decide (s<mid)=O/\decide (mid<e)=I/\decide (e<b)=v2)/\((u1=true\/I=true)/\(O=true\/v2=true))/\
  ((I=false\/O=false)->aG wr)/\
  (I=true->O=true->∀cv,Calls Tryz.prog 263 #[.slice (some ⟨g,0,none⟩) n cap,.int .i64 s,.int .i64 m,.int .i64 e,cv] wr λx w'=>x=.returned (.tuple #[])/\aG w')/\
  (∀w',aG w'->(u1=false\/O=false)->aF w')/\
  (∀w',aG w'->u1=true->O=true->Calls Tryz.prog 244 #[.slice (some ⟨g,0,none⟩) n cap,.int .i64 a,.int .i64 s,.int .i64 mid,.func (Fn.func 155) #[] #[.pointer (some ⟨wb,0,none⟩)]] w' λx aB=>x=.returned (.tuple #[])/\aF aB)/\
  (∀w',aF w'->(I=false\/v2=false)->∃M,w'.ownsRow 0 113 3 (.slice (some ⟨g,0,none⟩) n cap) n (B5 (A++M++Z))/\M.length=U.length+V.length/\B6 (AE len) M/\Bt (AE len) (U++V) M/\A4 (One g) w w')/\
  (∀w',aF w'->I=true->v2=true->Calls Tryz.prog 244 #[.slice (some ⟨g,0,none⟩) n cap,.int .i64 mid,.int .i64 e,.int .i64 b,.func (Fn.func 155) #[] #[.pointer (some ⟨wb,0,none⟩)]] w' λx aB=>x=.returned (.tuple #[])/\
   ∃M,aB.ownsRow 0 113 3 (.slice (some ⟨g,0,none⟩) n cap) n (B5 (A++M++Z))/\M.length=U.length+V.length/\B6 (AE len) M/\Bt (AE len) (U++V) M/\A4 (One g) w aB):=by
 have hbn:b<=n:=by rw[hn];simp;omega
 have hs3:=hs.2.2.1;have hg:r0<=nn/\nn<=8589934592/\a<mid/\mid<b:=by split at aI<;>omega
 obtain⟨g3,g5,g6,g7⟩:=hg;have⟨U1,U2,V1,V2,hU,hV,c1,c2,c3,c4,c5⟩:=A2D hD aP aR (by rw[ha,hm,hb,X];exact aQ) (by rw[ha,hm,hb,X];exact aI) hs;rw[ha,hm,hb,X]at c3;rw[ha]at c1;rw[ha,hm]at c2;generalize he:nn-s=e at c2;have lU:U.length=U1.length+U2.length:=by rw[hU,B3]
 have lV:V.length=V1.length+V2.length:=by rw[hV,B3]
 have aK:=@List.length_pos_iff _ U1;have aD:=@List.length_pos_iff _ U2;have aE:=@List.length_pos_iff _ V1;have aH:=@List.length_pos_iff _ V2;have⟨aG,aF,p1,p2,p3,p4,p5,p6⟩:=XI (w:=w) (wr:=wr) (g:=g) (cap:=cap) (n:=n) (wb:=wb) (a:=a) (s:=s) (m:=m) (e:=e) (b:=b) (mid:=mid) (len:=len) (A:=A) (U1:=U1) (U2:=U2) (V1:=V1) (V2:=V2) (Z:=Z) hk (by rw[<-hU,<-hV];exact aL) (by rw[<-hU,<-hV];exact hn)
  (by rw[<-hU,<-hV,<-hD];exact h) (aS.ah λ_ _ h=>h.elim) (by rw[<-hU,<-hV];exact hT) (by rw[<-hU];exact aM) (by rw[<-hV];exact aO) hl hw aN aJ c4 c5 ha c1 iC iC iC iC g6 g7
 rw[<-hU,<-hV]at p5 p6;obtain⟨u1,Y⟩:=iG (decide (U1≠[]));obtain⟨I,z⟩:=iG (decide (U2≠[]));obtain⟨O,d⟩:=iG (decide (V1≠[]));obtain⟨v2,aA⟩:=iG (decide (V2≠[]));have E:∀ {L:gF Pu} {x:Bool},decide (L≠[])=x->(x=true->L≠[])/\(x=false->L=[]):=λh=>by
  subst h;exact⟨λh=>by simpa using h,λh=>by simpa using h⟩
 refine⟨e,u1,I,O,v2,aG,aF,H6 iC iC,⟨z ▸ LQ.2 (by rw[<-aD];omega),d ▸ LQ.2 (by rw[<-aE];omega),Y ▸ LQ.2 (by rw[<-aK];omega),d ▸ LQ.2 (by rw[<-aE];omega),z ▸ LQ.2 (by rw[<-aD];omega),aA ▸ LQ.2 (by rw[<-aH];omega)⟩,⟨?_,?_⟩,
  λh=>p1 (h.imp (E z).2 (E d).2),λh h'=>p2 ((E z).1 h) ((E d).1 h'),λw' q h=>p3 w' q (h.imp (E Y).2 (E d).2),λw' q h h'=>p4 w' q ((E Y).1 h) ((E d).1 h'),λw' q h=>p5 w' q (h.imp (E z).2 (E aA).2),λw' q h h'=>p6 w' q ((E z).1 h) ((E aA).1 h')⟩
 ·rw[<-Y,<-z];simp only[Ea,<-aK,<-aD];omega
 ·rw[<-d,<-aA];simp only[Ea,<-aE,<-aH];omega
end
section
variable{w w':gC}{g cap n:Nat}
def XN{k:Nat}(hk:NF k)(w:gC)(g cap n wb:Nat)(len:Int)(A U V Z:gF Pu)(a0:U.length+V.length<=k+1)(hU:2<=U.length)(hV:2<=V.length)(hn:n=(A++U++V++Z).length)(h:w.ownsRow 0 113 3 (AA g n cap) n (B5 (A++U++V++Z)))(hT:∀p∈U++V,Ay p.2.1)(aS:B6 (AE len) U)(a4:B6 (AE len) V)(hl:1<=len/\len<=4611686018427387904)(hw:A7 w wb 0 (A0 len))(aW:wb≠g)(L:n<=4294967296):
 Ag 244 #[AA g n cap,A0 A.length,A0 ((A.length+U.length:Nat):Int),A0 ((A.length+U.length+V.length:Nat):Int),.func (Fn.func 155) #[] #[A5 wb]] w (Aj (.tuple #[]) λw'=>
  ∃M,w'.ownsRow 0 113 3 (AA g n cap) n (B5 (A++M++Z))/\M.length=U.length+V.length/\B6 (AE len) M/\Bt (AE len) (U++V) M/\A4 (One g) w w'):=by
 obtain⟨D,hD⟩:=iH (A++U++V++Z);obtain⟨a,ha⟩:=iG A.length;obtain⟨m,hm⟩:=iG (a+U.length);obtain⟨b,hb⟩:=iG (m+V.length);obtain⟨mid,I⟩:=iG ((a+b)/2);obtain⟨nn,aH⟩:=iH (mid+m);obtain⟨s0,r0,E⟩:∃s0 r0,if mid<m then s0=nn-b/\r0=mid else s0=a/\r0=m:=by
  split
  ·exact⟨_,_,rfl,rfl⟩
  ·exact⟨_,_,rfl,rfl⟩
 have aP:b<=n:=by rw[hn];simp;omega
 have bA:s0<r0/\r0<b/\r0<=nn/\nn<=s0+b/\nn<=8589934592/\a<mid/\mid<b/\a<=s0/\a+r0<=nn:=by split at E<;>omega
 obtain⟨g1,g2,g3,g4,g5,g6,g7,g8,g9⟩:=bA;have aE:Hid (∀s r,s0<=s->s<r->r<=r0->_):=λs r q1 q2 q3=>XJ (a:=a) (nn:=nn) L aP q1 q2 q3 g2 g3 g4 g5 g8 g9;rw[<-hD]at h;have aB:Hid (∀wr s,A4 Aa w wr->GB (AE len) D nn s0 r0 s s->_):=λwr s q1 q2=>XH hk a0 hU hV hn hD (Au h λg' hg=>q1.Al g' (Aw h hg) (λh=>h)) q1 hT aS a4 hl hw aW L ha hm hb I aH E q2;have a6:Hid (∀z,A4 Aa w z->∀q (hq:q<n) x,D[q]?=some x->A7 z g (q*3) (A0 x.1)/\A7 z g (q*3+1) (A0 x.2.1)/\A7 z g (q*3+2) (A0 x.2.2)):=λz hx q hq x bJ=>by
  have⟨e1,e2⟩:=Ik.1 bJ;have⟨y1,y2,y3⟩:=B1.bC h q e1 x e2;exact⟨hx.ad y1,hx.ad y2,hx.ad y3⟩
 have aG:Hid (∀q,a<=q->q<b->∃x,D[q]?=some x/\Ay x.2.1):=λq hq1 hq2=>by
  obtain⟨j,rfl⟩:∃j,q=A.length+j:=⟨q-A.length,iC⟩;have hj:j<(U++V).length:=by simp;omega
  have e:D[A.length+j]?=some ((U++V)[j]'hj):=by
   rw[hD,Ci A U V,Jl (by simp at hj ⊢;omega),Il iC];simp only[A4E];exact Dx hj
  exact⟨_,e,hT _ (BT hj)⟩
 obtain⟨lu,aL⟩:=iG U.length;obtain⟨lv,aQ⟩:=iG V.length;obtain⟨ab,aN⟩:=iG (a+b);obtain⟨p,hp⟩:=iG (nn-1);have⟨⟨w1,w1'⟩,⟨w2,w2'⟩,f1,f2,⟨w3,w3'⟩,w4,⟨w5,w5'⟩,⟨w6,w6'⟩,⟨w7,w7'⟩⟩:=XK (lu:=lu) (lv:=lv) L aP (by rw[<-aL];exact hm) (by rw[<-aQ];exact hb) aN (by rw[<-aN];exact I) aH hp (by rw[<-aL];exact hU) (by rw[<-aQ];exact hV);have bM:=Nf (I8.1 f1);have bF:=Nf (I8.1 f2);rw[hp]at aE;have X:Hid (if mid<m then (wrap64 ((nn:Int)-(b:Int))=(s0:Int)/\IntKind.i64.wrap ((nn:Int)-(b:Int))=(s0:Int))/\r0=mid else s0=a/\r0=m):=by
  unfold Hid;split at E
  ·rename_i aD;rw[Ai aD];have⟨q1,q2⟩:=XL I aH aD E.1 g5;exact⟨H6 q1 q2,E.2⟩
  ·rename_i aD;rw[Af aD];exact E
 have aT:n<=cap/\cap<=9223372036854775807:=by
  have⟨a',c',e,h1,h2,_⟩:=B8 h;cases e;unfold maxLen at h2;omega
 obtain⟨hc1,hc2⟩:=aT;have bT:=A1 hw;have a1:=A1 hl;have bX:=A1 hp;have a3:=A1 <| Fu g1;rw[ha,hm,hb];clear h hT hw hl aW hk L hn ha hm hb I aH E g1 g2 g3 g4 g5 g6 g7 g8 g9 aN aL aQ a0 hU hV aS a4 hD aP hp;by_cases aF:mid<m
 all_goals
  have a5:=X.o
  first
   | rw[Ai aF]at a5
   | rw[Af aF]at a5
 focus
  obtain⟨⟨x1,x2⟩,hr⟩:=a5;have bK:=A1 hr;have bE:Hid (∀_:Nat,s0=s0):=λ_=>rfl;have bG:=FA.2 aF;clear hr
 rotate_left
 focus
  obtain⟨hs,hr⟩:=a5;have bK:=A1 hr;have bE:Hid (∀_:Nat,s0=a):=λ_=>hs;have bG:=Nf iC;clear hr hs
 all_goals
  clear X aF
  go_enter func244,ntmps244
  go_wp2;go_loopw [20,21] (λiv jv wr=>∃(s r:Nat),iv=A0 (s:Int)/\jv=A0 (r:Int)/\Hid (GB (AE len) D nn s0 r0 s r/\A4 Aa w wr)) (λiv jv _=>(intOf jv).toNat-(intOf iv).toNat)
  case atStart=>exact⟨s0,r0,by first|go_num|rw[bE.o 0],by rw[bK.o],GB.fP D nn a3.o,A4.C _ _⟩
  case round=>
   obtain⟨s,r,rfl,rfl,hI⟩:=hrel;have⟨i1,i2⟩:=hI.o;by_cases aA:s<r
   ·have⟨n1,n2,n3,n4,n5,n6,n7,n8,n9,n10,l1,l2,l3,l4⟩:=aE.o s r i1.1 aA i1.2.2.1;generalize hc:(s+r)/2=c at n3 n4 n5 n6 n7 n8 n9 n10 l1 l2 l3 l4;generalize hd:p-c=d at n7 n8 n9 l3 l4;generalize aU:s+r=sr at n1 n2 n3;have hp:=bX.o;have⟨x,hx,hxT⟩:=aG.o c l1 l2;have⟨y,hy,hyT⟩:=aG.o d l3 l4;(have aO:D[nn-1-c]?=some y:=by rw[hp,hd];exact hy);have bD:Hid (∀z,A4 Aa wr z->(A7 z g (d*3) (A0 y.1)/\A7 z g (d*3+1) (A0 y.2.1)/\A7 z g (d*3+2) (A0 y.2.2))/\A7 z g (c*3) (A0 x.1)/\A7 z g (c*3+1) (A0 x.2.1)/\A7 z g (c*3+2) (A0 x.2.2)):=λz aK=>by
     have aZ:=i2.tr aK;exact⟨a6.o z aZ d n7 y hy,a6.o z aZ c n6 x hx⟩
    have a2:=A1 (λz aK=>No z wb len y x hyT hxT a1.o aK);have aI:=Nn (len:=len) (p:=y) (q:=x);generalize bI:Ht len y x=cc at a2 aI;have aJ:=i2.ad bT.o
    have bY:Hid (¬cc<0->GB (AE len) D nn s0 r0 (c+1) r):=λhc=>i1.up ⟨n4,n5⟩ hx aO (by
     cases hk:AE len y x with
     | false=>rfl
     | true=>exact absurd (aI.2 hk) hc)
    have bL:Hid (cc<0->GB (AE len) D nn s0 r0 s c):=λhc=>i1.e8 ⟨n4,n5⟩ hx aO (aI.1 hc);have DI:=FA.2 n7;have CI:=FA.2 n6;have D0:=BJ d;have C0:=BJ c;have tD:=EX d;have tC:=EX c;have hsrI:=FA.2 aA;obtain⟨xa,xb,xc⟩:=x;obtain⟨ya,yb,yc⟩:=y;unfold DO at a2;dsimp only at a2 bD;have bP:=bD.o wr.drew (A4.C _ wr).aa;have aR:=A1 (a2.o wr.drew aJ);have Y:=A1 (And.intro i2 (And.intro n4 n5));clear hI i1 i2 n4 n5 n6 n7 hc hd aU hx hy aO hxT hyT bI a2 aJ aA aE a6 aG aI hp aB l1 l2 l3 l4;rcases QN (cc<0) with O|O
    focus
     have aM:=Int.not_le.2 O;have a9:=CN O
    rotate_left
    focus
     have aM:=QK.1 O;have a9:=CO O
    all_goals
     go_wp2;clear n1 n2 n3;refine Bq (λw'=>(A7 w' g (d*3) (A0 ya)/\A7 w' g (d*3+1) (A0 yb)/\A7 w' g (d*3+2) (A0 yc))/\A7 w' g (c*3) (A0 xa)/\A7 w' g (c*3+1) (A0 xb)/\A7 w' g (c*3+2) (A0 xc)) 12
      (Ba [0,1,2,3,4,5,6,7,8,9,10,11] [11]) bP ?_
     iterate 11 refine B4 ?_
     refine Bf λK hK=>?_;go_simp;refine aR.m ?_;rintro e w6⟨rfl,aY⟩;have k6:=((A4.C Aa wr).aa).tr aY;refine hK _ _ (bD.o w6 k6) (λhS=>?_);have bU:=A1 k6;clear hK K hS aY k6 bP aR;refine Bl ?_;go_wp2;go_roundw
     case rel=>
      have⟨f1,f2,f3⟩:=Y.o
      first
       | exact⟨c+1,r,rfl,rfl,bY.o (by first|exact aM|exact QK.2 aM),f1.tr bU.o⟩
       | exact⟨s,c,rfl,rfl,bL.o O,f1.tr bU.o⟩
     case measure=>
      have⟨f1,f2,f3⟩:=Y.o
      first
       | exact Pf f2 f3
       | exact Pg f2 f3
   ·obtain rfl:s=r:=Mb i1.2.1 (Ji aA);have⟨e,u1,u2,v1,v2,R1,R2,⟨y1,y2⟩,⟨D1,D2,D3,D4,D5,D6⟩,⟨ou,ov⟩,p1,p2,p3,p4,p5,p6⟩:=aB.o wr s i2 i1;have bC:=A1 p1;have bS:=A1 p2;have bB:=A1 p3;have bQ:=A1 p4;have bH:=A1 p5;have bV:=A1 p6;have bR:=A1 ou;have bO:=A1 ov;have hno:¬((s:Int)<(s:Int)):=L6 _;clear hI i1 i2 aA aE a6 aG aB p1 p2 p3 p4 p5 p6 ou ov a1 bT bK bE bX a3 w1 w1' w2 w2' f1 bM f2 bF w3 w3' w4 w5 w5' w6 w6' w7 w7';cases u1<;>cases u2<;>cases v1<;>cases v2
    all_goals first
     | (exfalso;have:=bR.o;revert this;decide)
     | (exfalso;have:=bO.o;revert this;decide)
     | skip
    all_goals
     simp only[Ea,A2w]at D1 D2 D3 D4 D5 D6
    all_goals first
     | have bW:=A1 (bS.o rfl rfl (.func (Fn.func 155) #[] #[A5 wb]))
     | have a7:=A1 (bC.o (.inl rfl))
     | have a7:=A1 (bC.o (.inr rfl))
    all_goals first
     | have aV:=A1 (λw' q=>bQ.o w' q rfl rfl)
     | have aV:=A1 (λw' q=>bB.o w' q (.inl rfl))
     | have aV:=A1 (λw' q=>bB.o w' q (.inr rfl))
    all_goals first
     | have aX:=A1 (λw' q=>bV.o w' q rfl rfl)
     | have aX:=A1 (λw' q=>bH.o w' q (.inl rfl))
     | have aX:=A1 (λw' q=>bH.o w' q (.inr rfl))
    all_goals clear bC bS bB bQ bH bV bR bO
    all_goals go_wp2_with (fail)
    all_goals try
     (go_at_call 263;refine bW.m ?_;rintro x w4⟨rfl,hR⟩;have a7:=A1 hR;clear hR bW;go_wp2_with (fail))
    all_goals first
     | (go_at_call 244;refine(aV.o _ a7.o).mono ?_;rintro x w5⟨rfl,hR⟩;have bN:=A1 hR;clear hR aV;go_wp2_with (fail))
     | have bN:=A1 (aV.o _ a7.o)
    all_goals first
     | (go_at_call 244;refine(aX.o _ bN.o).mono ?_;rintro x w6⟨rfl,hR⟩;have a8:=A1 hR;clear hR aX;go_wp2_with (fail))
     | have a8:=A1 (aX.o _ bN.o)
    all_goals go_end0
    all_goals first
     | exact⟨rfl,a8.o⟩
     | exact⟨rfl,by simpa only[Ci] using a8.o⟩
end
def Ry:∀k,NF k
 | 0=>λw g cap n wb len A U V Z hk hu hv=>by
  have:=K4.2 hu;omega
 | k+1=>λw g cap n wb len A U V Z hk hu hv O h X E L hl Y z d=>by
  have lu:=K4.2 hu;have lv:=K4.2 hv;by_cases h1:U.length=1
  ·obtain⟨x,rfl⟩:=A4Q.1 h1;have e:A++[x]++V++Z=A++x::(V++Z):=iE;rw[e]at O h;have:=XM w g cap n wb len A V Z x hv O h (by simpa using X) L hl Y z d;simp only[Wl]at this ⊢;refine this.mono ?_;rintro x' w'⟨rfl,M,q1,q2,q3,q4,q5⟩;exact⟨rfl,M,q1,by rw[q2];omega,q3,by simpa using q4,q5⟩
  ·by_cases h2:V.length=1
   ·obtain⟨x,rfl⟩:=A4Q.1 h2;have e:A++U++[x]++Z=A++(U++x::Z):=iE;rw[e]at O h;have:=XO w g cap n wb len A U Z x iC O h (λp I=>X p (by simp at I ⊢;rcases I with I|I<;>simp[I])) E hl Y z d;simp only[Wl]at this ⊢;exact this
   ·exact XN (Ry k) w g cap n wb len A U V Z hk iC iC O h X E L hl Y z d
end
end Go.Proofs.YtodcnkbblippnaaGreatDoor
