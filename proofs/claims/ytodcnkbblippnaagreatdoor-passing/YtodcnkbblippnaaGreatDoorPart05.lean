/- Part 5 of a proof: walks of the program. -/
import Derived.Deep.RegionLaw
import Derived.BigRegion
import Derived.LaidEql
import Derived.Test.YtodcnkbblippnaaGreatDoorPart03
import Derived.Test.YtodcnkbblippnaaGreatDoorPart04
namespace Go.Proofs.YtodcnkbblippnaaGreatDoor
set_option maxRecDepth 100000
set_option maxHeartbeats 32000000
set_option linter.defProp false
open Go.Proofs.Tryz
section
open Go.RowKit
attribute [local go_sem ↓] Go.wp_at_zero Go.wp_at_succ
def Bt.I{w:World}{b:Nat}{D:DS}{F:Nat->FC}{H z y:Value}{d:List Value}{E:Nat->Value}(h:Bt w b D F H z y d E):Bt w.drew b D F H z y d E:=
 ⟨h.Ae,h.A3,h.BT,h.Aj,h.D2,h.BN,h.Fv⟩
def Du.I{w:World}{b:Nat}{D:DS}{F:Nat->FC}{Ft:Nat->Prop}(h:Du w b D F Ft):Du w.drew b D F Ft:=by
 obtain⟨J,E,z,d,I,H,y⟩:=h;exact⟨J,E,z,d,I,H.I,y⟩
def St(s:ByteArray):byteCells s=Df s.data.toList:=rfl
def Il(s:ByteArray)(m:Nat):(s.extract 0 m).data.toList=s.data.toList.take m:=by
 simp[ByteArray.data_extract]
def EP(D:DS)(F:Nat->FC):Int:=max (D.n.Bl-AT F D.A3) 0
def Cp(D:DS)(F:Nat->FC)(f:Nat)(data:ByteArray)(d:Int)(e:Int):Int×DS×(Nat->FC):=
 if d>EP D F then
  (if e=0 then 6 else e,if e=0 then {D with n:={D.n with CG:=wrap64 (D.n.CG+1),fulls:=wrap64 (D.n.fulls+1)}} else D,upd F f ((F f).1++data.data.toList.take (EP D F).toNat,(F f).2))
 else (e,D,upd F f ((F f).1++data.data.toList.take d.toNat,(F f).2))
def B6(D:DS)(F:Nat->FC)(name data:ByteArray):Int×DS×(Nat->FC):=match lookup D.A3 name with
 | none=>(8,D,F)
 | some f=>
  let r:=bg D.n
  let D1:={D with n:=r.2.2}
  if r.1 then Cp D1 F f data data.size r.2.1
  else if r.2.2.CC=false/\0<data.size then Cp D1 F f data (r.2.2.BY % data.size) r.2.1
  else (r.2.1,D1,F)
def SU{w w2 W L:World}{b:Nat}{D:DS}{F:Nat->FC}{vd vs vc v3:Value}{y:List Value}{I:Nat->Value}{Ft:Nat->Prop}{f:Nat}{n2:DN}{news:List UInt8}(hc:A2 Ft w w2)(h2:Bt w2 b D F vd vs vc y I)(d:∀k,BP b D vd vs vc y I k->Ft k)(O:D.AM f)(hW:Au W b vd vs vc n2)(E:A2 (One b) w2 W)(hA:App W L 5 1 (I f) v3 ((F f).1.length+news.length) (Df (F f).1++Df news)):
 Ct L f (I f) (F f).2/\Cz w Ft (L.setCell ⟨f,0,none⟩ v3) b {D with n:=n2} (upd F f ((F f).1++news,(F f).2)):=by
 have rW:=h2.ag hW E;obtain⟨H,aA⟩:=rW.BN f O
 have z:=H.au (hA.Dc.block f (CD H) (λe=>by
  obtain⟨c,hh⟩:=BA aA e.symm
  exact Cb hh H (by decide) rfl))
 refine⟨z,?_⟩;have J:Fh L v3 ((F f).1++news):=by
  have:=hA.AA;unfold Fh;rw[Ss,B2];exact this
 have U:Fh (L.setCell ⟨f,0,none⟩ v3) v3 ((F f).1++news):=by
  refine Jo J (a:=⟨f,0,none⟩) ?_ _;intro e;obtain⟨c,hh⟩:=BA J e;exact Cb hh z (by decide) rfl
 have Y:=(hA.Aj (S:=λk=>k=f\/(I f).ownBlock=some k) (λk hk=>.inr hk)).ak (.inl rfl) 0 v3;have hv:∀g,v3.ownBlock=some g->(I f).ownBlock=some g\/W.heap.size<=g:=by
  intro g Z;rcases hA.BJ with h|h
  ·exact .inl (h.symm.trans Z)
  ·rw[Z]at h;cases h;exact .inr (Aw _)
 have r3:=rW.bD O (z.s0 v3) U Y (λk hk=>hk) hv;have s1:=hc.Af;have s2:=E.Af;refine Cz.a7 ?_ r3 ?_
 ·refine(hc.As E (S':=One b) λx V _=>by cases V;exact d b .Ae).As Y ?_;rintro x (rfl|V) _
  ·exact d _ (.BN O)
  ·exact d _ (.bk O V)
 ·intro x V;rcases BP.bD (N:=w.heap.size) (vb':=v3) (f:=f) O (λg Z=>(hv g Z).imp id λh=>by omega) V.n with h|h
  ·exact .inl (d x h)
  ·exact .inr h
def SW(w:World)(b:Nat)(D:DS)(F:Nat->FC)(Ft:Nat->Prop)(h:Du w b D F Ft)(name data:ByteArray)(hroom : -4611686018427387904<=D.n.Bl/\D.n.Bl<=9223372036854775807)(hu:AT F D.A3<=4611686018427387904)(hp:0<=D.n.BY/\D.n.BY<=9223372036854775807)(hl:∀f,lookup D.A3 name=some f->(F f).1.length+data.size<=70368744177664):
 Ac 84 #[A4 b,.string name,.string data] w (Ak (A0 (B6 D F name data).1) λw'=>Cz w Ft w' b (B6 D F name data).2.1 (B6 D F name data).2.2):=by
 obtain⟨vd,vs,vc,aK,bJ,hr,aY⟩:=h;have c0:=hr.Ae.c0;have hd:=A1 hr.A3;have aJ:=A1 hr.Ae;have bS:=A1 hr;rcases GC D.A3 name with⟨h1,h2⟩|⟨k,hk,h1,h2,h3⟩
 ·have q:Hid (B6 D F name data=(8,D,F)):=by unfold Hid B6;rw[h2]
  have hfi:AN D.A3 name<0:=by omega
  go_enter func84,ntmps84
  go_wp2_with (go_at_call 77;refine(CE _ _ _ _ hd.o).mono ?_;rintro e w'⟨rfl,rfl⟩);go_ret;rw[q.o];exact⟨rfl,Cz.a7 (A2.C _ _) bS.o λk hk=>.inl (aY k hk)⟩
 ·obtain⟨g,cap,a',Z,rfl,hv,z1,z2,z3,z4⟩:=hr.BJ k hk;generalize hf:(D.A3[k]'hk).2=f at hv h2 z3;have hl1:=hl f h2;have bL:=A1 hv;unfold maxLen at z2 z4;have aZ:Hid (D.AM f):=.inl ⟨_,Cx hk,hf⟩;have a2:=A1 h1;have H2:=A1 h2;have bA:=A1 hu;have a7:=A1 aY;obtain⟨i0,hi,aN,aP,aO⟩:=Dr Tryz.infoByte;have hk0:=C3 k;have hk1:(k:Int)<(D.A3.length:Int):=by omega
  have a8:Hid (∀Y,Au Y b (AH g D.A3.length cap) vs vc (bg D.n).2.2->A2 (One b) w Y->
   Bt Y b {D with n:=(bg D.n).2.2} F (AH g D.A3.length cap) vs vc aK bJ/\Du Y b {D with n:=(bg D.n).2.2} F Ft):=by
   intro Y y J;have r1:=hr.ag y J;exact⟨r1,_,_,_,_,_,r1,λk hk=>aY k hk.n⟩
  have a9:Hid (∀Y I,Au Y b (AH g D.A3.length cap) vs vc (bg D.n).2.2->A2 (One b) w Y->A2 A7 Y.drew I->
   Bt I b {D with n:=(bg D.n).2.2} F (AH g D.A3.length cap) vs vc aK bJ/\A2 Ft w I/\Ks I b g k f D.A3.length cap (F f).1.length Z a' (D.A3[k]'hk).1 (F f).2/\Au I b (AH g D.A3.length cap) vs vc (bg D.n).2.2):=by
   intro Y I y J U;have r1:=(hr.ag y J).I;have r2:=r1.aq λx hx=>U.Ao x (r1.lt hx) (λh=>h);refine⟨r2,?_,?_,r2.Ae⟩
   ·exact((J.U (S':=Ft) λk _ hk=>by cases hk;exact aY b .Ae).I).As U (λx hx=>hx.elim)
   ·subst hf;exact r2.cF k hk rfl bL.o
  have a0:Hid (-4611686018427387904<=(bg D.n).2.2.Bl/\(bg D.n).2.2.Bl<=9223372036854775807/\0<=(bg D.n).2.2.BY/\(bg D.n).2.2.BY<=9223372036854775807):=by
   unfold Hid bg;dsimp only;split
   ·exact⟨hroom.1,hroom.2,hp.1,hp.2⟩
   ·split
    ·exact⟨hroom.1,hroom.2,hp.1,hp.2⟩
    ·split<;>exact⟨hroom.1,hroom.2,hp.1,hp.2⟩
  have q:Hid (B6 D F name data=(let r:=bg D.n
   let D1:={D with n:=r.2.2}
   if r.1 then Cp D1 F f data data.size r.2.1
   else if r.2.2.CC=false/\0<data.size then Cp D1 F f data (r.2.2.BY % data.size) r.2.1
   else (r.2.1,D1,F))):=by unfold Hid B6;rw[h2]
  obtain⟨H,bB⟩:∃H,(bg D.n).2.2=H:=⟨_,rfl⟩;obtain⟨e1,bN⟩:∃e1,(bg D.n).2.1=e1:=⟨_,rfl⟩;obtain⟨d1,bR⟩:∃d1,(bg D.n).1=d1:=⟨_,rfl⟩;have a6:Hid (bg D.n=(d1,e1,H)):=by unfold Hid;rw[<-bB,<-bN,<-bR]
  rw[bB]at a8 a9 a0;have a3:Hid (∀(W:World),Au W b (AH g D.A3.length cap) vs vc D.n->Ac 121 #[A4 b] W (Ak (.tuple #[.bool d1,A0 e1]) λw'=>Au w' b (AH g D.A3.length cap) vs vc H/\A2 (One b) W w')):=by
   intro W hW;have:=EB W b _ _ _ _ hW;rw[a6.o]at this;exact this
  rw[a6.o]at q;obtain⟨r1,r2,r3,r4⟩:=a0.o;have hun:(0:Int)<=AT F D.A3:=EU _;have hul:(AT F D.A3:Int)<=4611686018427387904:=by have:=bA.o;omega
  have hw:IntKind.i64.wrap (H.Bl-(AT F D.A3:Int))=H.Bl-(AT F D.A3:Int):=by simp only[IP];omega
  obtain⟨L,hL⟩:∃L,(if H.Bl-(AT F D.A3:Int)<0 then 0 else H.Bl-(AT F D.A3:Int))=L:=⟨_,rfl⟩;have bO:0<=L:=by rw[<-hL];split<;>omega
  have hLm:L<=9223372036854775807:=by rw[<-hL];split<;>omega
  have aM:Hid (EP {D with n:=H} F=L):=by unfold Hid EP;show max (H.Bl-(AT F D.A3:Int)) 0=L;rw[<-hL];split<;>omega
  have bG:Hid (∀(I W:World) (n2:DN),Bt I b {D with n:=H} F (AH g D.A3.length cap) vs vc aK bJ->Au W b (AH g D.A3.length cap) vs vc n2->A2 (One b) I W->W.ownsRow 0 5 1 (.slice a' (F f).1.length Z) (F f).1.length (Df (F f).1)):=by
   intro I W n2 h2 hW hc;have:=((h2.ag hW hc).BN f aZ.o).2;rw[bL.o]at this;exact this
  have bI:Hid (∀(I W w3:World) (n2:DN) (s:ByteArray) (b3:Option Addr) (O:Nat),Bt I b {D with n:=H} F (AH g D.A3.length cap) vs vc aK bJ->A2 Ft w I->Au W b (AH g D.A3.length cap) vs vc n2->A2 (One b) I W->
   App W w3 5 1 (.slice a' (F f).1.length Z) (.slice b3 ((F f).1.length+s.size) O) ((F f).1.length+s.size) (Df (F f).1++byteCells s)->
   Ct w3 f (.slice a' (F f).1.length Z) (F f).2/\Cz w Ft (w3.sC f 0 (.slice b3 ((F f).1.length+s.size) O)) b {D with n:=n2} (upd F f ((F f).1++s.data.toList,(F f).2))):=by
   intro I W w3 n2 s b3 O h2 hc hW bQ hA;have:=SU (n2:=n2) (f:=f) (v3:=.slice b3 ((F f).1.length+s.size) O) (news:=s.data.toList) hc h2 (λk hk=>a7.o k hk.n) aZ.o hW bQ (by rw[bL.o];simpa[St] using hA);rw[bL.o]at this;exact this
  obtain⟨l,rfl⟩:=IQ bO;have BE:(if e1=0 then True else True):=by split<;>trivial
  cases d1 with
  | true=>
   by_cases aX:(l:Int)<(data.size:Int)
   ·by_cases he:e1=0
    ·(have bE:(e1==0)=true:=by simpa using he);have aI:=A1 he;(have a1:l<=data.size:=by omega);(have aE:(data.extract 0 l).size=l:=by simp;omega)
     go_enter func84,ntmps84
     go_wp2_with (first
      | (go_at_call 77;refine(CE _ _ _ _ hd.o).mono ?_;rintro e w'⟨rfl,rfl⟩;rw[a2.o])
      | (go_at_call 121;refine(a3.o _ aJ.o).mono ?_;rintro e Y⟨rfl,y,J⟩))
     obtain⟨bK,aU⟩:=a8.o Y y J;have aH:=A1 aU;have aQ:=y.c3;go_region_held3 (λw'=>w'.cell? ⟨b,3,none⟩=some (A0 H.Bl)) (first|exact(Au.Aj (w:=Y.drew) y U (λh=>h)).c3|go_simp) ((go_at_call 90;refine(H5 _ b _ F Ft aH.o.I bA.o).mono ?_;rintro e I⟨rfl,U⟩));obtain⟨aR,aT,V,aL⟩:=a9.o Y I y J U;have aB:=A1 aR;have aG:=A1 aT;have aA:=A1 aL;have x1:=V.d;have x2:=V.p;have x3:=V.f0;have x8:=V.gb;have x9:=V.bf;have aV:=V.fb;have y8:=aL.c8;have y9:=aL.c9;have yz:=aL.fz;go_wp2;have aD:=A1 (bG.o I ((I.sC b 8 (A0 (wrap64 (H.CG+1)))).sC b 9 (A0 (wrap64 (H.fulls+1)))).drew {H with CG:=wrap64 (H.CG+1),fulls:=wrap64 (H.fulls+1)} aB.o ((aA.o.s8 _).s9 _) ((((A2.C (One b) I).ak rfl 8 _).ak rfl 9 _).I));(have aF:((F f).1.length+(data.extract 0 l).size)*1<=140737488355328:=by rw[aE];omega);go_region_law
      ((refine H6 ?_ (.tmp 90) (.tmp 93) 127 9 ?_ 5 i0 _ 1 1 underlying127 hi aN aP aO rfl IC (.slice a' (F f).1.length Z) (F f).1.length (Df (F f).1) ?_ aD.o (.string (data.extract 0 l)) (data.extract 0 l).size (byteCells (data.extract 0 l)) ?_ (Iy _ underlying9 (data.extract 0 l)) aF ?_;(· rfl);(· rfl);(· rfl);(· rfl);intro b3 O w3 hA;have z:=A1 (bI.o I ((I.sC b 8 (A0 (wrap64 (H.CG+1)))).sC b 9 (A0 (wrap64 (H.fulls+1)))).drew w3 {H with CG:=wrap64 (H.CG+1),fulls:=wrap64 (H.fulls+1)} (data.extract 0 l) b3 O aB.o aG.o ((aA.o.s8 _).s9 _) ((((A2.C (One b) I).ak rfl 8 _).ak rfl 9 _).I) hA);have aS:=z.o.1.fz;have aW:=z.o.1.c0))
     go_wp2;go_ret;have q1:=q.o;have q2:Cp {D with n:=H} F f data (data.size:Int) e1=(6,{D with n:={H with CG:=wrap64 (H.CG+1),fulls:=wrap64 (H.fulls+1)}},upd F f ((F f).1++data.data.toList.take l,(F f).2)):=by
      unfold Cp;rw[aM.o,Am aX,Am aI.o,Am aI.o,GY]
     have E:=z.o.2;rw[Il,aE]at E;rw[q1,q2];exact⟨rfl,E⟩
    ·(have bE:(e1==0)=false:=by simpa using he);have aI:=A1 he;(have a1:l<=data.size:=by omega);(have aE:(data.extract 0 l).size=l:=by simp;omega)
     go_enter func84,ntmps84
     go_wp2_with (first
      | (go_at_call 77;refine(CE _ _ _ _ hd.o).mono ?_;rintro e w'⟨rfl,rfl⟩;rw[a2.o])
      | (go_at_call 121;refine(a3.o _ aJ.o).mono ?_;rintro e Y⟨rfl,y,J⟩))
     obtain⟨bK,aU⟩:=a8.o Y y J;have aH:=A1 aU;have aQ:=y.c3;go_region_held3 (λw'=>w'.cell? ⟨b,3,none⟩=some (A0 H.Bl)) (first|exact(Au.Aj (w:=Y.drew) y U (λh=>h)).c3|go_simp) ((go_at_call 90;refine(H5 _ b _ F Ft aH.o.I bA.o).mono ?_;rintro e I⟨rfl,U⟩));obtain⟨aR,aT,V,aL⟩:=a9.o Y I y J U;have aB:=A1 aR;have aG:=A1 aT;have aA:=A1 aL;have x1:=V.d;have x2:=V.p;have x3:=V.f0;have x8:=V.gb;have x9:=V.bf;have aV:=V.fb;go_wp2;have aD:=A1 (bG.o I I.drew H aB.o aA.o ((A2.C (One b) I).I));(have aF:((F f).1.length+(data.extract 0 l).size)*1<=140737488355328:=by rw[aE];omega);go_region_law
      ((refine H6 ?_ (.tmp 90) (.tmp 93) 127 9 ?_ 5 i0 _ 1 1 underlying127 hi aN aP aO rfl IC (.slice a' (F f).1.length Z) (F f).1.length (Df (F f).1) ?_ aD.o (.string (data.extract 0 l)) (data.extract 0 l).size (byteCells (data.extract 0 l)) ?_ (Iy _ underlying9 (data.extract 0 l)) aF ?_;(· rfl);(· rfl);(· rfl);(· rfl);intro b3 O w3 hA;have z:=A1 (bI.o I I.drew w3 H (data.extract 0 l) b3 O aB.o aG.o aA.o ((A2.C (One b) I).I) hA);have aS:=z.o.1.fz;have aW:=z.o.1.c0))
     go_wp2;go_ret;have q1:=q.o;have q2:Cp {D with n:=H} F f data (data.size:Int) e1=(e1,{D with n:=H},upd F f ((F f).1++data.data.toList.take l,(F f).2)):=by
      unfold Cp;rw[aM.o,Am aX,Ad aI.o,Ad aI.o,GY]
     have E:=z.o.2;rw[Il,aE]at E;rw[q1,q2];exact⟨rfl,E⟩
   ·(have bD:(data.size:Int)<=l:=by omega)
    go_enter func84,ntmps84
    go_wp2_with (first
     | (go_at_call 77;refine(CE _ _ _ _ hd.o).mono ?_;rintro e w'⟨rfl,rfl⟩;rw[a2.o])
     | (go_at_call 121;refine(a3.o _ aJ.o).mono ?_;rintro e Y⟨rfl,y,J⟩))
    obtain⟨bK,aU⟩:=a8.o Y y J;have aH:=A1 aU;have aQ:=y.c3;go_region_held3 (λw'=>w'.cell? ⟨b,3,none⟩=some (A0 H.Bl)) (first|exact(Au.Aj (w:=Y.drew) y U (λh=>h)).c3|go_simp) ((go_at_call 90;refine(H5 _ b _ F Ft aH.o.I bA.o).mono ?_;rintro e I⟨rfl,U⟩));obtain⟨aR,aT,V,aL⟩:=a9.o Y I y J U;have aB:=A1 aR;have aG:=A1 aT;have aA:=A1 aL;have x1:=V.d;have x2:=V.p;have x3:=V.f0;have x8:=V.gb;have x9:=V.bf;have aV:=V.fb;go_wp2;have aD:=A1 (bG.o I I.drew H aB.o aA.o ((A2.C (One b) I).I));(have aF:((F f).1.length+data.size)*1<=140737488355328:=by omega);go_region_law
     ((refine H6 ?_ (.tmp 90) (.tmp 93) 127 9 ?_ 5 i0 _ 1 1 underlying127 hi aN aP aO rfl IC (.slice a' (F f).1.length Z) (F f).1.length (Df (F f).1) ?_ aD.o (.string data) data.size (byteCells data) ?_ (Iy _ underlying9 data) aF ?_;(· rfl);(· rfl);(· rfl);(· rfl);intro b3 O w3 hA;have z:=A1 (bI.o I I.drew w3 H data b3 O aB.o aG.o aA.o ((A2.C (One b) I).I) hA);have aS:=z.o.1.fz;have aW:=z.o.1.c0))
    go_wp2;go_ret;have q1:=q.o;have q2:Cp {D with n:=H} F f data (data.size:Int) e1=(e1,{D with n:=H},upd F f ((F f).1++data.data.toList,(F f).2)):=by
     unfold Cp;rw[aM.o,Ad (by omega),GY,EF (by show data.data.toList.length<=data.data.size;rw[Hx];exact Aw _)]
    have E:=z.o.2;rw[q1,q2];exact⟨rfl,E⟩
  | false=>
   have bC:Hid (e1=5/\H.CC=H.CC):=by
    have:=a6.o;unfold Hid;unfold bg at this;dsimp only at this;split at this
    ·cases this;exact⟨rfl,rfl⟩
    ·split at this
     ·cases this
     ·split at this
      ·cases this;exact⟨rfl,rfl⟩
      ·cases this
   by_cases hC:H.CC=false/\0<data.size
   ·obtain⟨a5,bF⟩:=hC;(have bH:(0:Int)<(data.size:Int):=by omega);obtain⟨m,hm⟩:=IQ (NN H.BY (b:=(data.size:Int)) (by omega));(have hml:(m:Int)<(data.size:Int):=by rw[<-hm];exact NO _ bH);have qC:Hid (B6 D F name data=Cp {D with n:=H} F f data (m:Int) e1):=by
     have:=q.o;rw[<-hm];unfold Hid;rw[this];simp only[Kq,BG,a5,bF,and_self,BM]
    (have aI:Hid (¬e1=0):=by have:=bC.o.1;unfold Hid;omega);(have bE:(e1==0)=false:=by have:=bC.o.1;simp[this]);by_cases aX:(l:Int)<(m:Int)
    ·(have a1:l<=data.size:=by omega);(have aE:(data.extract 0 l).size=l:=by simp;omega)
     go_enter func84,ntmps84
     go_wp2_with (first
      | (go_at_call 77;refine(CE _ _ _ _ hd.o).mono ?_;rintro e w'⟨rfl,rfl⟩;rw[a2.o])
      | (go_at_call 121;refine(a3.o _ aJ.o).mono ?_;rintro e Y⟨rfl,y,J⟩;have bM:=y.c7;have a4:=y.bG))
     obtain⟨bK,aU⟩:=a8.o Y y J;have aH:=A1 aU;have aQ:=y.c3;go_region_held3 (λw'=>w'.cell? ⟨b,3,none⟩=some (A0 H.Bl)) (first|exact(Au.Aj (w:=Y.drew) y U (λh=>h)).c3|go_simp) ((go_at_call 90;refine(H5 _ b _ F Ft aH.o.I bA.o).mono ?_;rintro e I⟨rfl,U⟩));obtain⟨aR,aT,V,aL⟩:=a9.o Y I y J U;have aB:=A1 aR;have aG:=A1 aT;have aA:=A1 aL;have x1:=V.d;have x2:=V.p;have x3:=V.f0;have x8:=V.gb;have x9:=V.bf;have aV:=V.fb;go_wp2;have aD:=A1 (bG.o I I.drew H aB.o aA.o ((A2.C (One b) I).I));(have aF:((F f).1.length+(data.extract 0 l).size)*1<=140737488355328:=by rw[aE];omega);go_region_law
      ((refine H6 ?_ (.tmp 90) (.tmp 93) 127 9 ?_ 5 i0 _ 1 1 underlying127 hi aN aP aO rfl IC (.slice a' (F f).1.length Z) (F f).1.length (Df (F f).1) ?_ aD.o (.string (data.extract 0 l)) (data.extract 0 l).size (byteCells (data.extract 0 l)) ?_ (Iy _ underlying9 (data.extract 0 l)) aF ?_;(· rfl);(· rfl);(· rfl);(· rfl);intro b3 O w3 hA;have z:=A1 (bI.o I I.drew w3 H (data.extract 0 l) b3 O aB.o aG.o aA.o ((A2.C (One b) I).I) hA);have aS:=z.o.1.fz;have aW:=z.o.1.c0))
     go_wp2;go_ret;have q1:=qC.o;have q2:Cp {D with n:=H} F f data (m:Int) e1=(e1,{D with n:=H},upd F f ((F f).1++data.data.toList.take l,(F f).2)):=by
      unfold Cp;rw[aM.o,Am aX,Ad aI.o,Ad aI.o,GY]
     have E:=z.o.2;rw[Il,aE]at E;rw[q1,q2];exact⟨rfl,E⟩
    ·(have bD:(m:Int)<=l:=by omega);(have a1:m<=data.size:=by omega);(have aE:(data.extract 0 m).size=m:=by simp;omega)
     go_enter func84,ntmps84
     go_wp2_with (first
      | (go_at_call 77;refine(CE _ _ _ _ hd.o).mono ?_;rintro e w'⟨rfl,rfl⟩;rw[a2.o])
      | (go_at_call 121;refine(a3.o _ aJ.o).mono ?_;rintro e Y⟨rfl,y,J⟩;have bM:=y.c7;have a4:=y.bG))
     obtain⟨bK,aU⟩:=a8.o Y y J;have aH:=A1 aU;have aQ:=y.c3;go_region_held3 (λw'=>w'.cell? ⟨b,3,none⟩=some (A0 H.Bl)) (first|exact(Au.Aj (w:=Y.drew) y U (λh=>h)).c3|go_simp) ((go_at_call 90;refine(H5 _ b _ F Ft aH.o.I bA.o).mono ?_;rintro e I⟨rfl,U⟩));obtain⟨aR,aT,V,aL⟩:=a9.o Y I y J U;have aB:=A1 aR;have aG:=A1 aT;have aA:=A1 aL;have x1:=V.d;have x2:=V.p;have x3:=V.f0;have x8:=V.gb;have x9:=V.bf;have aV:=V.fb;go_wp2;have aD:=A1 (bG.o I I.drew H aB.o aA.o ((A2.C (One b) I).I));(have aF:((F f).1.length+(data.extract 0 m).size)*1<=140737488355328:=by rw[aE];omega);go_region_law
      ((refine H6 ?_ (.tmp 90) (.tmp 93) 127 9 ?_ 5 i0 _ 1 1 underlying127 hi aN aP aO rfl IC (.slice a' (F f).1.length Z) (F f).1.length (Df (F f).1) ?_ aD.o (.string (data.extract 0 m)) (data.extract 0 m).size (byteCells (data.extract 0 m)) ?_ (Iy _ underlying9 (data.extract 0 m)) aF ?_;(· rfl);(· rfl);(· rfl);(· rfl);intro b3 O w3 hA;have z:=A1 (bI.o I I.drew w3 H (data.extract 0 m) b3 O aB.o aG.o aA.o ((A2.C (One b) I).I) hA);have aS:=z.o.1.fz;have aW:=z.o.1.c0))
     go_wp2;go_ret;have q1:=qC.o;have q2:Cp {D with n:=H} F f data (m:Int) e1=(e1,{D with n:=H},upd F f ((F f).1++data.data.toList.take m,(F f).2)):=by
      unfold Cp;rw[aM.o,Ad (by omega),GY]
     have E:=z.o.2;rw[Il,aE]at E;rw[q1,q2];exact⟨rfl,E⟩
   ·have qC:Hid (B6 D F name data=(e1,{D with n:=H},F)):=by
     have:=q.o;unfold Hid;rw[this];simp only[Kq,BG,hC]
    by_cases a5:H.CC=true
    ·go_enter func84,ntmps84
     go_wp2_with (first
      | (go_at_call 77;refine(CE _ _ _ _ hd.o).mono ?_;rintro e w'⟨rfl,rfl⟩;rw[a2.o])
      | (go_at_call 121;refine(a3.o _ aJ.o).mono ?_;rintro e Y⟨rfl,y,J⟩;have a4:=y.bG))
     go_ret;rw[qC.o];exact⟨rfl,bS.o.bu a7.o y J⟩
    ·(have bP:H.CC=false:=by simpa using a5);have bF:(data.size:Int)<=0:=by
      have:¬0<data.size:=λh=>hC ⟨bP,h⟩;omega
     go_enter func84,ntmps84
     go_wp2_with (first
      | (go_at_call 77;refine(CE _ _ _ _ hd.o).mono ?_;rintro e w'⟨rfl,rfl⟩;rw[a2.o])
      | (go_at_call 121;refine(a3.o _ aJ.o).mono ?_;rintro e Y⟨rfl,y,J⟩;have a4:=y.bG))
     go_ret;rw[qC.o];exact⟨rfl,bS.o.bu a7.o y J⟩
def less(a b:ByteArray):Bool:=Op.bytesLess a.toList b.toList
def DY(l:List ByteArray):List Value:=l.map Value.string
def Eb(l:List ByteArray)(x:ByteArray):Nat->Nat
 | 0=>0
 | k+1=>match l[k]? with
  | some y=>if less x y then Eb l x k else k+1
  | none=>k+1
def ins(l:List ByteArray)(x:ByteArray):List ByteArray:=l.take (Eb l x l.length)++x::l.drop (Eb l x l.length)
def DT(es:List AL):Nat->List ByteArray
 | 0=>[]
 | k+1=>match es[k]? with
  | some e=>ins (DT es k) e.1
  | none=>DT es k
def dList(es:List AL):List ByteArray:=DT es es.length
def Rs(l:List ByteArray)(x:ByteArray)(k:Nat):Eb l x k<=k:=by
 induction k with
 | zero=>simp[Eb]
 | succ k ih=>
  simp only[Eb];split
  ·split<;>omega
  ·omega
def Rj(l:List ByteArray)(x:ByteArray):(ins l x).length=l.length+1:=by
 have:=Rs l x l.length;simp[ins];omega
def MJ(es:List AL)(k:Nat)(hk:k<=es.length):(DT es k).length=k:=by
 induction k with
 | zero=>rfl
 | succ k ih=>
  simp only[DT,E4 (show k<es.length by omega)];rw[Rj,ih (by omega)]
def MI(es:List AL)(k:Nat)(d:k<es.length):DT es (k+1)=ins (DT es k) (es[k]'d).1:=by
 simp only[DT,E4 d]
def Rr(l:List ByteArray)(x:ByteArray)(k:Nat)(d:k<l.length)(h:less x (l[k]'d)=true):Eb l x (k+1)=Eb l x k:=by
 simp only[Eb,E4 d];rw[Am h]
def Rq(l:List ByteArray)(x:ByteArray)(k:Nat)(d:k<l.length)(h:less x (l[k]'d)=false):Eb l x (k+1)=k+1:=by
 simp only[Eb,E4 d];rw[Ad (by simp[h])]
def Oq(l:List ByteArray)(x:ByteArray)(m:Nat)(h:m<l.length):
 ((DY (l.take (m+1)++x::l.drop (m+1))).set (m+1) (.string (l[m]'h))).set m (.string x)=DY (l.take m++x::l.drop m):=by
 have y:=D9 h;have E:=EH h;have z:(l.take m).length=m:=by simp;omega
 rw[y,E];unfold DY;simp only[Fa,ET,CQ,Fc,Ej];have d:(List.map Value.string (l.take m)).length=m:=by simpa using z
 rw[Hr _ _ (by omega),d,show m+1-m=1 from by omega];simp only[Nq,List.set_cons_zero];rw[Hr _ _ (by omega),d,Nat.sub_self];rfl
def QG(w:World)(b:Nat)(D:DS)(F:Nat->FC)(Ft:Nat->Prop)(h:Du w b D F Ft)(hs:D.A3.length<1099511627776):
 Ac 76 #[A4 b] w λe w'=>∃v,e=.returned v/\w'.ownsRow 0 9 1 v D.A3.length (DY (dList D.A3))/\A2 A7 w w'/\(∀g,v.ownBlock=some g->w.heap.size<=g):=by
 obtain⟨vd,vs,vc,vals,VB,hr,hft⟩:=h;have a8:=A1 hr;have c0:=hr.Ae.c0;obtain⟨i0,hi,aH,aO,aL⟩:=Dr Tryz.dp;obtain⟨a,cap,rfl,z1,z2,W⟩:=a8.o.A3.BU;unfold maxLen at z2;have aY:i0.bytes*D.A3.length<=281474976710656:=by rw[aL];omega
 have a0:D.A3.length<=maxLen:=by unfold maxLen;omega
 have aZ:=A1 aY;have a2:=A1 a0
 go_enter func76,ntmps76
 go_wp2_with (at_make;refine wpList_make_own _ rfl _ _ 121 rfl 0 9 i0 _ 1 underlying121 hi aH aO _ _ _ D.A3.length rfl rfl rfl aZ.o a2.o (CL _) ?_;intro w1 Y aK;have c01:=aK.cell c0 (by simp);have aP:=A1 Y);go_loopw [3,18] (λv i wr=>∃k:Nat,k<=D.A3.length/\i=A0 k/\A2 A7 w wr/\Hid (wr.ownsRow 0 9 1 v k (DY (DT D.A3 k)))/\Hid (∀x,v.oB x->w.heap.size<=x)) (λ_ i _=>D.A3.length-(intOf i).toNat)
 case atStart=>exact⟨0,CL _,rfl,(A2.C _ w).Dc aK (λk hk=>by cases hk),aP.o,λx hx=>by cases hx;exact Aw _⟩
 case round=>
  obtain⟨k,hk,rfl,J,aJ,aN⟩:=hrel;by_cases d:k<D.A3.length
  ·obtain⟨g,rfl,hn,hp⟩:=W k d;have aG:g<w.heap.size:=Gb w _ hn;have aX:A5 wr g (k*2) (.string (D.A3[k]'d).1):=(GQ (J.Ao g aG (λh=>h))).trans hn;have hp':A5 wr g (k*2+1) (A4 ((D.A3[k]'d).2)):=(GQ (J.Ao g aG (λh=>h))).trans hp;have hsz:=J.Af;have O:=A1 ((aJ.o.alloc (.cells #[.string (D.A3[k]'d).1,A4 ((D.A3[k]'d).2)] 125)).alloc (.cells #[.string (D.A3[k]'d).1] 9));have aI:=A1 (Src.aW (size:=1) underlying121 (wr.alloc (.cells #[.string (D.A3[k]'d).1,A4 ((D.A3[k]'d).2)] 125)) #[.string (D.A3[k]'d).1] 9 (wr.heap.size+1) (by simp) 1 1 rfl (by simp[Value.oneCell']));generalize hx:(D.A3[k]'d).1=x at aX O aI;have a7:=A1 hx;go_wp2_with (at_builtin;refine C7 rfl (.tmp 22) (.tmp 25) 121 121 rfl 9 i0 _ 1 16 underlying121 hi aH aO aL rfl (by decide) _ _ _ (by rfl) O.o _ 1 _ (by rfl) aI.o (by omega) ?_;intro a3 z w3 hB);have hl:=A1 (MJ D.A3 k hk);obtain⟨l,V⟩:∃l,DT D.A3 k=l:=⟨_,rfl⟩;have a6:=A1 V;(have a4:l.length=k:=by rw[<-V];exact hl.o);have aA:w3.ownsRow 0 9 1 (.slice a3 (k+1) z) (k+1) (DY (l.take k++x::l.drop k)):=by
    have:=hB.AA;rw[V]at this;rw[EF (by omega),Gk (by omega)];simpa[DY] using this
   have aS:=A1 aA;have aQ:=A1 (hB.bE ((J.ae _).ae _) aN.o);(have hmax:z<=maxLen:=by obtain⟨_,_,he,h1,h2,_⟩:=AR aA;cases he;exact h2);obtain⟨H,aW⟩:∃H,a3=some (A8 H 0):=by
    obtain⟨_,_,he,h1,h2,h3,_⟩:=AR aA;cases he;exact h3 (by omega)
   have aE:=A1 a4;subst aW;have a1:=A1 aQ.o.1;have L:=A1 (aQ.o.2);have fin:Hid (∀(wq:World) (j:Nat),j<=k->Eb l x k=j->wq.ownsRow 0 9 1 (AH H (k+1) z) (k+1) (DY (l.take j++x::l.drop j))->wq.ownsRow 0 9 1 (AH H (k+1) z) (k+1) (DY (DT D.A3 (k+1)))):=by
    intro wq j hj hp h;rw[MI D.A3 k d,a6.o,a7.o,ins,aE.o,hp];exact h
   go_loopw [6] (λi wq=>∃j:Nat,j<=k/\i=A0 j/\Hid (A2 A7 w wq)/\Hid (wq.ownsRow 0 9 1 (AH H (k+1) z) (k+1) (DY (l.take j++x::l.drop j)))/\Hid (Eb l x k=Eb l x j)) (λi _=>(intOf i).toNat)
   case atStart=>exact⟨k,Aw _,rfl,a1,aS,rfl⟩
   case round=>
    obtain⟨j,hj,rfl,Z,E,aD⟩:=hrel;by_cases aU:j=0
    ·subst aU;rw[show ((0:Nat):Int)=0 from rfl];go_wp2;go_quiet (fail);go_wp2;go_roundw
     case rel=>
      refine⟨k+1,by omega,by go_num,Z.o.aU _,?_,L.o⟩;exact fin.o _ 0 (by omega) (by rw[aD.o];rfl) E.o
     case measure=>simp[intOf];omega
    ·(have hj1:(0:Int)<(j:Int):=by omega);(have hj2:0<j:=by omega);(have I:j-1<l.length:=by have:=aE.o;omega);(have aT:j<=l.length:=by have:=aE.o;omega);obtain⟨y,hy⟩:∃y,l[j-1]'I=y:=⟨_,rfl⟩
     have g1:A5 wr H (j-1) (.string y):=Be E.o rfl (by
      unfold DY;rw[Fa,Tm (by simp;omega)]
      simp[List.getElem?_take,I,hy];omega)
     have g2:A5 wr H j (.string x):=Be E.o rfl (by
      unfold DY;rw[Fa,IL (by simp;omega)]
      simp[Nat.min_eq_left aT])
     have gz:∀o,wr.frozen? (A8 H o)=false:=λo=>Fm E.o rfl o;by_cases aB:less x y=true
     ·have aM:Op.bytesLess x.toList y.toList=true:=aB;have aF:=A1 aB;have aR:=A1 hy;go_wp2;go_quiet (fail);go_wp2;go_region;go_wp2;go_roundw
      case rel=>
       refine⟨j-1,by omega,by go_num,?_,?_,?_⟩
       ·have h1:=((Z.o.a1 (p:=(A8 H j)) (λh=>by have:=L.o H rfl;simp at h;omega) (.string y)).a1 (p:=(A8 H (j-1))) (λh=>by have:=L.o H rfl;simp at h;omega) (.string x));exact⟨h1.os,h1.E5,h1.E9,h1.Af,h1.Ao⟩
       ·have s1:=(E.o.stored j (.string y)).1;have s2:=(s1.stored (j-1) (.string x)).1;have e:=Oq l x (j-1) I;rw[show j-1+1=j from by omega,aR.o]at e;rw[e]at s2;exact s2
       ·have:=Rr l x (j-1) I (by rw[aR.o];exact aF.o);rw[show j-1+1=j from by omega]at this;unfold Hid;rw[aD.o];exact this
      case measure=>simp[intOf];omega
     ·(have U:less x y=false:=by simpa using aB);have aM:Op.bytesLess x.toList y.toList=false:=U;have aF:=A1 U;have aR:=A1 hy;go_wp2;go_quiet (fail);go_wp2;go_roundw
      case rel=>
       refine⟨k+1,by omega,by go_num,Z.o.aU _,?_,L.o⟩;refine fin.o _ j hj ?_ E.o;have:=Rq l x (j-1) I (by rw[aR.o];exact aF.o);rw[show j-1+1=j from by omega]at this;rw[aD.o];exact this
      case measure=>simp[intOf];omega
  ·(have a5:k=D.A3.length:=by omega);have aV:=A1 a5;go_wp2;go_ret;refine⟨_,rfl,?_,J,aN.o⟩;have:=aJ.o;rw[aV.o]at this;exact this



def ren(r:Nat->Nat)(es:List AL):List AL:=es.map λe=>(e.1,r e.2)
def DS.ren(r:Nat->Nat)(D:DS):DS:={A3:=Go.Proofs.YtodcnkbblippnaaGreatDoor.ren r D.A3,BT:=Go.Proofs.YtodcnkbblippnaaGreatDoor.ren r D.BT,AI:=D.AI.map (Go.Proofs.YtodcnkbblippnaaGreatDoor.ren r),n:=D.n}
def J4(l:List (List AL)):Nat:=(l.map List.length).sum
end
end Go.Proofs.YtodcnkbblippnaaGreatDoor
