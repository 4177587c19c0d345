/- Part 10 of a proof: walks of the program. -/
import Derived.Deep.RegionLaw
import Derived.Test.YtodcnkbblippnabGreatDoorPart06
namespace Go.Proofs.YtodcnkbblippnabGreatDoor
set_option maxRecDepth 100000
set_option maxHeartbeats 32000000
set_option linter.defProp false
open Go.Proofs.Tryz
section
open Go.RowKit
attribute [local go_sem ↓] Go.wp_at_zero Go.wp_at_succ
def BY.ad{w:World}{b:Nat}{D:DS}{F:Nat->FC}{W I H:Value}{z:List Value}{O:Nat->Value}(h:BY w b D F W I H z O):BY w.drew b D F W I H z O:=
 ⟨h.Ai,h.A6,h.AK,h.An,h.Da,h.BL,h.Gb⟩
def D7.ad{w:World}{b:Nat}{D:DS}{F:Nat->FC}{Ft:Nat->Prop}(h:D7 w b D F Ft):D7 w.drew b D F Ft:=by
 obtain⟨Y,O,I,z,X,W,H⟩:=h;exact⟨Y,O,I,z,X,W.ad,H⟩
def A1W(s:ByteArray):byteCells s=E6 s.data.toList:=rfl
def Mi(s:ByteArray)(m:Nat):(s.extract 0 m).data.toList=s.data.toList.take m:=by
 simp[ByteArray.data_extract]
def FZ(D:DS)(F:Nat->FC):Int:=max (D.n.B1-B6 F D.A6) 0
def BI(D:DS)(F:Nat->FC)(f:Nat)(data:ByteArray)(h:Int)(e:Int):Int×DS×(Nat->FC):=
 if h>FZ D F then
  (if e=0 then 6 else e,if e=0 then {D with n:={D.n with Bt:=wrap64 (D.n.Bt+1),fulls:=wrap64 (D.n.fulls+1)}} else D,upd F f ((F f).1++data.data.toList.take (FZ D F).toNat,(F f).2))
 else (e,D,upd F f ((F f).1++data.data.toList.take h.toNat,(F f).2))
def Bj(D:DS)(F:Nat->FC)(name data:ByteArray):Int×DS×(Nat->FC):=match lookup D.A6 name with
 | none=>(8,D,F)
 | some f=>
  let r:=bg D.n
  let D1:={D with n:=r.2.2}
  if r.1 then BI D1 F f data data.size r.2.1
  else if r.2.2.Bf=false/\0<data.size then BI D1 F f data (r.2.2.BA % data.size) r.2.1
  else (r.2.1,D1,F)
def A2l{w w2 W w3:World}{b:Nat}{D:DS}{F:Nat->FC}{vd vs vc v3:Value}{H:List Value}{X:Nat->Value}{Ft:Nat->Prop}{f:Nat}{n2:DN}{news:List UInt8}(hc:A5 Ft w w2)(h2:BY w2 b D F vd vs vc H X)(z:∀k,C7 b D vd vs vc H X k->Ft k)(hf:D.As f)(hW:AO W b vd vs vc n2)(O:A5 (One b) w2 W)(hA:App W w3 5 1 (X f) v3 ((F f).1.length+news.length) (E6 (F f).1++E6 news)):
 CY w3 f (X f) (F f).2/\Ds w Ft (w3.setCell ⟨f,0,none⟩ v3) b {D with n:=n2} (upd F f ((F f).1++news,(F f).2)):=by
 have rW:=h2.ai hW O;have⟨hf1,hf2⟩:=rW.BL f hf
 have I:=hf1.az (hA.Cp.block f (Bo hf1) (λe=>by
  have⟨c,hh⟩:=Bd hf2 e.symm
  exact BP hh hf1 (by decide) rfl))
 refine⟨I,?_⟩;have Y:FQ w3 v3 ((F f).1++news):=by
  have:=hA.AP;unfold FQ;rw[A1V,AX];exact this
 have aA:FQ (w3.setCell ⟨f,0,none⟩ v3) v3 ((F f).1++news):=by
  refine NM Y (a:=⟨f,0,none⟩) ?_ _;intro e;have⟨c,hh⟩:=Bd Y e;exact BP hh I (by decide) rfl
 have aB:=(hA.An (S:=λk=>k=f\/(X f).ownBlock=some k) (λk hk=>.inr hk)).ao (.inl rfl) 0 v3;have hv:∀g,v3.ownBlock=some g->(X f).ownBlock=some g\/W.heap.size<=g:=by
  intro g hg;rcases hA.Cu with h|h
  ·exact .inl (h.symm.trans hg)
  ·rw[hg]at h;cases h;exact .inr (Aq _)
 have r3:=rW.bZ hf (I.s0 v3) aA aB (λk hk=>hk) hv;have s1:=hc.Am;have s2:=O.Am;refine Ds.bt ?_ r3 ?_
 ·refine(hc.AJ O (S':=One b) λx hx _=>by cases hx;exact z b .Ai).AJ aB ?_;rintro x (rfl|hx) _
  ·exact z _ (.BL hf)
  ·exact z _ (.bw hf hx)
 ·intro x hx;rcases C7.bZ (N:=w.heap.size) (vb':=v3) (f:=f) hf (λg hg=>(hv g hg).imp id λh=>by omega) hx.n with h|h
  ·exact .inl (z x h)
  ·exact .inr h
def A2m(w:World)(b:Nat)(D:DS)(F:Nat->FC)(Ft:Nat->Prop)(h:D7 w b D F Ft)(name data:ByteArray)(hroom : -4611686018427387904<=D.n.B1/\D.n.B1<=9223372036854775807)(hu:B6 F D.A6<=4611686018427387904)(hp:0<=D.n.BA/\D.n.BA<=9223372036854775807)(hl:∀f,lookup D.A6 name=some f->(F f).1.length+data.size<=70368744177664):
 Aj 8 #[A7 b,.string name,.string data] w (Au (A0 (Bj D F name data).1) λw'=>Ds w Ft w' b (Bj D F name data).2.1 (Bj D F name data).2.2):=by
 obtain⟨vd,vs,vc,aN,bF,hr,aU⟩:=h;have c0:=hr.Ai.c0;have hd:=A4 hr.A6;have aM:=A4 hr.Ai;have bN:=A4 hr;rcases IQ D.A6 name with⟨h1,h2⟩|⟨k,hk,h1,h2,h3⟩
 ·have q:Hid (Bj D F name data=(8,D,F)):=by unfold Hid Bj;rw[h2]
  have hfi:B4 D.A6 name<0:=by omega
  go_enter func8,ntmps8
  go_wp2_with (go_at_call 24;refine(DC _ _ _ _ hd.o).k ?_;rintro w' rfl);go_ret;rw[q.o];exact⟨rfl,Ds.bt (A5.C _ _) bN.o λk hk=>.inl (aU k hk)⟩
 ·obtain⟨g,cap,a',aD,rfl,hv,z1,z2,z3,z4⟩:=hr.Cu k hk;generalize hf:(D.A6[k]'hk).2=f at hv h2 z3;have hl1:=hl f h2;have bG:=A4 hv;unfold maxLen at z2 z4;have aV:Hid (D.As f):=.inl ⟨_,BS hk,hf⟩;have aY:=A4 h1;have H2:=A4 h2;have a6:=A4 hu;have a3:=A4 aU;have⟨i0,hi,hz0,hz1,hz2⟩:=Eb Tryz.infoByte;have hk0:=Cd k;have hk1:(k:Int)<(D.A6.length:Int):=by omega
  have a4:Hid (∀w1,AO w1 b (AN g D.A6.length cap) vs vc (bg D.n).2.2->A5 (One b) w w1->
   BY w1 b {D with n:=(bg D.n).2.2} F (AN g D.A6.length cap) vs vc aN bF/\D7 w1 b {D with n:=(bg D.n).2.2} F Ft):=by
   intro w1 z Y;have r1:=hr.ai z Y;exact⟨r1,_,_,_,_,_,r1,λk hk=>aU k hk.n⟩
  have a5:Hid (∀w1 X,AO w1 b (AN g D.A6.length cap) vs vc (bg D.n).2.2->A5 (One b) w w1->A5 Ab w1.drew X->
   BY X b {D with n:=(bg D.n).2.2} F (AN g D.A6.length cap) vs vc aN bF/\A5 Ft w X/\PJ X b g k f D.A6.length cap (F f).1.length aD a' (D.A6[k]'hk).1 (F f).2/\AO X b (AN g D.A6.length cap) vs vc (bg D.n).2.2):=by
   intro w1 X z Y aB;have r1:=(hr.ai z Y).ad;have r2:=r1.aM λx hx=>aB.Ao x (r1.lt hx) (λh=>h);refine⟨r2,?_,?_,r2.Ai⟩
   ·exact((Y.ae (S':=Ft) λk _ hk=>by cases hk;exact aU b .Ai).ad).AJ aB (λx hx=>hx.elim)
   ·subst hf;exact r2.dd k hk rfl bG.o
  have aW:Hid (-4611686018427387904<=(bg D.n).2.2.B1/\(bg D.n).2.2.B1<=9223372036854775807/\0<=(bg D.n).2.2.BA/\(bg D.n).2.2.BA<=9223372036854775807):=by
   unfold Hid bg;dsimp only;split
   ·exact⟨hroom.1,hroom.2,hp.1,hp.2⟩
   ·split
    ·exact⟨hroom.1,hroom.2,hp.1,hp.2⟩
    ·split<;>exact⟨hroom.1,hroom.2,hp.1,hp.2⟩
  have q:Hid (Bj D F name data=(let r:=bg D.n
   let D1:={D with n:=r.2.2}
   if r.1 then BI D1 F f data data.size r.2.1
   else if r.2.2.Bf=false/\0<data.size then BI D1 F f data (r.2.2.BA % data.size) r.2.1
   else (r.2.1,D1,F))):=by unfold Hid Bj;rw[h2]
  obtain⟨O,a7⟩:∃O,(bg D.n).2.2=O:=⟨_,rfl⟩;obtain⟨e1,bI⟩:∃e1,(bg D.n).2.1=e1:=⟨_,rfl⟩;obtain⟨d1,bM⟩:∃d1,(bg D.n).1=d1:=⟨_,rfl⟩;have a2:Hid (bg D.n=(d1,e1,O)):=by unfold Hid;rw[<-a7,<-bI,<-bM]
  rw[a7]at a4 a5 aW;have aZ:Hid (∀(W:World),AO W b (AN g D.A6.length cap) vs vc D.n->Aj 25 #[A7 b] W (Au (.tuple #[.bool d1,A0 e1]) λw'=>AO w' b (AN g D.A6.length cap) vs vc O/\A5 (One b) W w')):=by
   intro W hW;have:=GU W b _ _ _ _ hW;rw[a2.o]at this;exact this
  rw[a2.o]at q;have⟨r1,r2,r3,r4⟩:=aW.o;have hun:(0:Int)<=B6 F D.A6:=Gn _;have hul:(B6 F D.A6:Int)<=4611686018427387904:=by have:=a6.o;omega
  have hw:IntKind.i64.wrap (O.B1-(B6 F D.A6:Int))=O.B1-(B6 F D.A6:Int):=by simp only[Jf];omega
  obtain⟨L,hL⟩:∃L,(if O.B1-(B6 F D.A6:Int)<0 then 0 else O.B1-(B6 F D.A6:Int))=L:=⟨_,rfl⟩;have bJ:0<=L:=by rw[<-hL];split<;>omega
  have hLm:L<=9223372036854775807:=by rw[<-hL];split<;>omega
  have aO:Hid (FZ {D with n:=O} F=L):=by unfold Hid FZ;show max (O.B1-(B6 F D.A6:Int)) 0=L;rw[<-hL];split<;>omega
  have bC:Hid (∀(X W:World) (n2:DN),BY X b {D with n:=O} F (AN g D.A6.length cap) vs vc aN bF->AO W b (AN g D.A6.length cap) vs vc n2->A5 (One b) X W->W.ownsRow 0 5 1 (.slice a' (F f).1.length aD) (F f).1.length (E6 (F f).1)):=by
   intro X W n2 h2 hW hc;have:=((h2.ai hW hc).BL f aV.o).2;rw[bG.o]at this;exact this
  have bE:Hid (∀(X W w3:World) (n2:DN) (s:ByteArray) (b3:Option Addr) (aA:Nat),BY X b {D with n:=O} F (AN g D.A6.length cap) vs vc aN bF->A5 Ft w X->AO W b (AN g D.A6.length cap) vs vc n2->A5 (One b) X W->
   App W w3 5 1 (.slice a' (F f).1.length aD) (.slice b3 ((F f).1.length+s.size) aA) ((F f).1.length+s.size) (E6 (F f).1++byteCells s)->
   CY w3 f (.slice a' (F f).1.length aD) (F f).2/\Ds w Ft (w3.sC f 0 (.slice b3 ((F f).1.length+s.size) aA)) b {D with n:=n2} (upd F f ((F f).1++s.data.toList,(F f).2))):=by
   intro X W w3 n2 s b3 aA h2 hc hW bL hA;have:=A2l (n2:=n2) (f:=f) (v3:=.slice b3 ((F f).1.length+s.size) aA) (news:=s.data.toList) hc h2 (λk hk=>a3.o k hk.n) aV.o hW bL (by rw[bG.o];simpa[A1W] using hA);rw[bG.o]at this;exact this
  obtain⟨l,rfl⟩:=Lq bJ;have BE:(if e1=0 then True else True):=by split<;>trivial
  cases d1 with
  | true=>
   by_cases aT:(l:Int)<(data.size:Int)
   ·by_cases he:e1=0
    ·(have bA:(e1==0)=true:=by simpa using he);have aL:=A4 he;(have aX:l<=data.size:=by omega);(have aH:(data.extract 0 l).size=l:=by simp;omega)
     go_enter func8,ntmps8
     go_wp2_with (first
      | (go_at_call 24;refine(DC _ _ _ _ hd.o).k ?_;rintro w' rfl;rw[aY.o])
      | (go_at_call 25;refine(aZ.o _ aM.o).k ?_;rintro w1⟨z,Y⟩))
     have⟨R1,P1⟩:=a4.o w1 z Y;have aK:=A4 P1;have aP:=z.c3;go_region_held3 (λw'=>w'.cell? ⟨b,3,none⟩=some (A0 O.B1)) (first|exact(AO.An (w:=w1.drew) z aB (λh=>h)).c3|go_simp) ((go_at_call 27;refine(Ko _ b _ F Ft aK.o.ad a6.o).k ?_;rintro X aB));have⟨R2,C2,K2,B2⟩:=a5.o w1 X z Y aB;have aF:=A4 R2;have aJ:=A4 C2;have aE:=A4 B2;have x1:=K2.d;have x2:=K2.p;have x3:=K2.f0;have x8:=K2.gb;have x9:=K2.bf;have aR:=K2.fb;have y8:=B2.c8;have y9:=B2.c9;have yz:=B2.fz;go_wp2;have aG:=A4 (bC.o X ((X.sC b 8 (A0 (wrap64 (O.Bt+1)))).sC b 9 (A0 (wrap64 (O.fulls+1)))).drew {O with Bt:=wrap64 (O.Bt+1),fulls:=wrap64 (O.fulls+1)} aF.o ((aE.o.s8 _).s9 _) ((((A5.C (One b) X).ao rfl 8 _).ao rfl 9 _).ad));(have aI:((F f).1.length+(data.extract 0 l).size)*1<=140737488355328:=by rw[aH];omega);go_region_law
      ((refine Jp ?_ (.tmp 90) (.tmp 93) 66 9 ?_ 5 i0 _ 1 1 underlying66 hi hz0 hz1 hz2 rfl ML (.slice a' (F f).1.length aD) (F f).1.length (E6 (F f).1) ?_ aG.o (.string (data.extract 0 l)) (data.extract 0 l).size (byteCells (data.extract 0 l)) ?_ (MH _ underlying9 (data.extract 0 l)) aI ?_;(· rfl);(· rfl);(· rfl);(· rfl);intro b3 aA w3 hA;have H:=A4 (bE.o X ((X.sC b 8 (A0 (wrap64 (O.Bt+1)))).sC b 9 (A0 (wrap64 (O.fulls+1)))).drew w3 {O with Bt:=wrap64 (O.Bt+1),fulls:=wrap64 (O.fulls+1)} (data.extract 0 l) b3 aA aF.o aJ.o ((aE.o.s8 _).s9 _) ((((A5.C (One b) X).ao rfl 8 _).ao rfl 9 _).ad) hA);have aQ:=H.o.1.fz;have aS:=H.o.1.c0))
     go_wp2;go_ret;have q1:=q.o;have q2:BI {D with n:=O} F f data (data.size:Int) e1=(6,{D with n:={O with Bt:=wrap64 (O.Bt+1),fulls:=wrap64 (O.fulls+1)}},upd F f ((F f).1++data.data.toList.take l,(F f).2)):=by
      unfold BI;rw[aO.o,Ah aT,Ah aL.o,Ah aL.o,EA]
     have I:=H.o.2;rw[Mi,aH]at I;rw[q1,q2];exact⟨rfl,I⟩
    ·(have bA:(e1==0)=false:=by simpa using he);have aL:=A4 he;(have aX:l<=data.size:=by omega);(have aH:(data.extract 0 l).size=l:=by simp;omega)
     go_enter func8,ntmps8
     go_wp2_with (first
      | (go_at_call 24;refine(DC _ _ _ _ hd.o).k ?_;rintro w' rfl;rw[aY.o])
      | (go_at_call 25;refine(aZ.o _ aM.o).k ?_;rintro w1⟨z,Y⟩))
     have⟨R1,P1⟩:=a4.o w1 z Y;have aK:=A4 P1;have aP:=z.c3;go_region_held3 (λw'=>w'.cell? ⟨b,3,none⟩=some (A0 O.B1)) (first|exact(AO.An (w:=w1.drew) z aB (λh=>h)).c3|go_simp) ((go_at_call 27;refine(Ko _ b _ F Ft aK.o.ad a6.o).k ?_;rintro X aB));have⟨R2,C2,K2,B2⟩:=a5.o w1 X z Y aB;have aF:=A4 R2;have aJ:=A4 C2;have aE:=A4 B2;have x1:=K2.d;have x2:=K2.p;have x3:=K2.f0;have x8:=K2.gb;have x9:=K2.bf;have aR:=K2.fb;go_wp2;have aG:=A4 (bC.o X X.drew O aF.o aE.o ((A5.C (One b) X).ad));(have aI:((F f).1.length+(data.extract 0 l).size)*1<=140737488355328:=by rw[aH];omega);go_region_law
      ((refine Jp ?_ (.tmp 90) (.tmp 93) 66 9 ?_ 5 i0 _ 1 1 underlying66 hi hz0 hz1 hz2 rfl ML (.slice a' (F f).1.length aD) (F f).1.length (E6 (F f).1) ?_ aG.o (.string (data.extract 0 l)) (data.extract 0 l).size (byteCells (data.extract 0 l)) ?_ (MH _ underlying9 (data.extract 0 l)) aI ?_;(· rfl);(· rfl);(· rfl);(· rfl);intro b3 aA w3 hA;have H:=A4 (bE.o X X.drew w3 O (data.extract 0 l) b3 aA aF.o aJ.o aE.o ((A5.C (One b) X).ad) hA);have aQ:=H.o.1.fz;have aS:=H.o.1.c0))
     go_wp2;go_ret;have q1:=q.o;have q2:BI {D with n:=O} F f data (data.size:Int) e1=(e1,{D with n:=O},upd F f ((F f).1++data.data.toList.take l,(F f).2)):=by
      unfold BI;rw[aO.o,Ah aT,Ae aL.o,Ae aL.o,EA]
     have I:=H.o.2;rw[Mi,aH]at I;rw[q1,q2];exact⟨rfl,I⟩
   ·(have a9:(data.size:Int)<=l:=by omega)
    go_enter func8,ntmps8
    go_wp2_with (first
     | (go_at_call 24;refine(DC _ _ _ _ hd.o).k ?_;rintro w' rfl;rw[aY.o])
     | (go_at_call 25;refine(aZ.o _ aM.o).k ?_;rintro w1⟨z,Y⟩))
    have⟨R1,P1⟩:=a4.o w1 z Y;have aK:=A4 P1;have aP:=z.c3;go_region_held3 (λw'=>w'.cell? ⟨b,3,none⟩=some (A0 O.B1)) (first|exact(AO.An (w:=w1.drew) z aB (λh=>h)).c3|go_simp) ((go_at_call 27;refine(Ko _ b _ F Ft aK.o.ad a6.o).k ?_;rintro X aB));have⟨R2,C2,K2,B2⟩:=a5.o w1 X z Y aB;have aF:=A4 R2;have aJ:=A4 C2;have aE:=A4 B2;have x1:=K2.d;have x2:=K2.p;have x3:=K2.f0;have x8:=K2.gb;have x9:=K2.bf;have aR:=K2.fb;go_wp2;have aG:=A4 (bC.o X X.drew O aF.o aE.o ((A5.C (One b) X).ad));(have aI:((F f).1.length+data.size)*1<=140737488355328:=by omega);go_region_law
     ((refine Jp ?_ (.tmp 90) (.tmp 93) 66 9 ?_ 5 i0 _ 1 1 underlying66 hi hz0 hz1 hz2 rfl ML (.slice a' (F f).1.length aD) (F f).1.length (E6 (F f).1) ?_ aG.o (.string data) data.size (byteCells data) ?_ (MH _ underlying9 data) aI ?_;(· rfl);(· rfl);(· rfl);(· rfl);intro b3 aA w3 hA;have H:=A4 (bE.o X X.drew w3 O data b3 aA aF.o aJ.o aE.o ((A5.C (One b) X).ad) hA);have aQ:=H.o.1.fz;have aS:=H.o.1.c0))
    go_wp2;go_ret;have q1:=q.o;have q2:BI {D with n:=O} F f data (data.size:Int) e1=(e1,{D with n:=O},upd F f ((F f).1++data.data.toList,(F f).2)):=by
     unfold BI;rw[aO.o,Ae (by omega),EA,Ez (by show data.data.toList.length<=data.data.size;rw[Jh];exact Aq _)]
    have I:=H.o.2;rw[q1,q2];exact⟨rfl,I⟩
  | false=>
   have a8:Hid (e1=5/\O.Bf=O.Bf):=by
    have:=a2.o;unfold Hid;unfold bg at this;dsimp only at this;split at this
    ·cases this;exact⟨rfl,rfl⟩
    ·split at this
     ·cases this
     ·split at this
      ·cases this;exact⟨rfl,rfl⟩
      ·cases this
   by_cases hC:O.Bf=false/\0<data.size
   ·obtain⟨a1,bB⟩:=hC;(have bD:(0:Int)<(data.size:Int):=by omega);have⟨m,hm⟩:=Lq (Lr O.BA (b:=(data.size:Int)) (by omega));(have hml:(m:Int)<(data.size:Int):=by rw[<-hm];exact PC _ bD);have qC:Hid (Bj D F name data=BI {D with n:=O} F f data (m:Int) e1):=by
     have:=q.o;rw[<-hm];unfold Hid;rw[this];simp only[PG,C4,a1,bB,and_self,Cn]
    (have aL:Hid (¬e1=0):=by have:=a8.o.1;unfold Hid;omega);(have bA:(e1==0)=false:=by have:=a8.o.1;simp[this]);by_cases aT:(l:Int)<(m:Int)
    ·(have aX:l<=data.size:=by omega);(have aH:(data.extract 0 l).size=l:=by simp;omega)
     go_enter func8,ntmps8
     go_wp2_with (first
      | (go_at_call 24;refine(DC _ _ _ _ hd.o).k ?_;rintro w' rfl;rw[aY.o])
      | (go_at_call 25;refine(aZ.o _ aM.o).k ?_;rintro w1⟨z,Y⟩;have bH:=z.c7;have a0:=z.bO))
     have⟨R1,P1⟩:=a4.o w1 z Y;have aK:=A4 P1;have aP:=z.c3;go_region_held3 (λw'=>w'.cell? ⟨b,3,none⟩=some (A0 O.B1)) (first|exact(AO.An (w:=w1.drew) z aB (λh=>h)).c3|go_simp) ((go_at_call 27;refine(Ko _ b _ F Ft aK.o.ad a6.o).k ?_;rintro X aB));have⟨R2,C2,K2,B2⟩:=a5.o w1 X z Y aB;have aF:=A4 R2;have aJ:=A4 C2;have aE:=A4 B2;have x1:=K2.d;have x2:=K2.p;have x3:=K2.f0;have x8:=K2.gb;have x9:=K2.bf;have aR:=K2.fb;go_wp2;have aG:=A4 (bC.o X X.drew O aF.o aE.o ((A5.C (One b) X).ad));(have aI:((F f).1.length+(data.extract 0 l).size)*1<=140737488355328:=by rw[aH];omega);go_region_law
      ((refine Jp ?_ (.tmp 90) (.tmp 93) 66 9 ?_ 5 i0 _ 1 1 underlying66 hi hz0 hz1 hz2 rfl ML (.slice a' (F f).1.length aD) (F f).1.length (E6 (F f).1) ?_ aG.o (.string (data.extract 0 l)) (data.extract 0 l).size (byteCells (data.extract 0 l)) ?_ (MH _ underlying9 (data.extract 0 l)) aI ?_;(· rfl);(· rfl);(· rfl);(· rfl);intro b3 aA w3 hA;have H:=A4 (bE.o X X.drew w3 O (data.extract 0 l) b3 aA aF.o aJ.o aE.o ((A5.C (One b) X).ad) hA);have aQ:=H.o.1.fz;have aS:=H.o.1.c0))
     go_wp2;go_ret;have q1:=qC.o;have q2:BI {D with n:=O} F f data (m:Int) e1=(e1,{D with n:=O},upd F f ((F f).1++data.data.toList.take l,(F f).2)):=by
      unfold BI;rw[aO.o,Ah aT,Ae aL.o,Ae aL.o,EA]
     have I:=H.o.2;rw[Mi,aH]at I;rw[q1,q2];exact⟨rfl,I⟩
    ·(have a9:(m:Int)<=l:=by omega);(have aX:m<=data.size:=by omega);(have aH:(data.extract 0 m).size=m:=by simp;omega)
     go_enter func8,ntmps8
     go_wp2_with (first
      | (go_at_call 24;refine(DC _ _ _ _ hd.o).k ?_;rintro w' rfl;rw[aY.o])
      | (go_at_call 25;refine(aZ.o _ aM.o).k ?_;rintro w1⟨z,Y⟩;have bH:=z.c7;have a0:=z.bO))
     have⟨R1,P1⟩:=a4.o w1 z Y;have aK:=A4 P1;have aP:=z.c3;go_region_held3 (λw'=>w'.cell? ⟨b,3,none⟩=some (A0 O.B1)) (first|exact(AO.An (w:=w1.drew) z aB (λh=>h)).c3|go_simp) ((go_at_call 27;refine(Ko _ b _ F Ft aK.o.ad a6.o).k ?_;rintro X aB));have⟨R2,C2,K2,B2⟩:=a5.o w1 X z Y aB;have aF:=A4 R2;have aJ:=A4 C2;have aE:=A4 B2;have x1:=K2.d;have x2:=K2.p;have x3:=K2.f0;have x8:=K2.gb;have x9:=K2.bf;have aR:=K2.fb;go_wp2;have aG:=A4 (bC.o X X.drew O aF.o aE.o ((A5.C (One b) X).ad));(have aI:((F f).1.length+(data.extract 0 m).size)*1<=140737488355328:=by rw[aH];omega);go_region_law
      ((refine Jp ?_ (.tmp 90) (.tmp 93) 66 9 ?_ 5 i0 _ 1 1 underlying66 hi hz0 hz1 hz2 rfl ML (.slice a' (F f).1.length aD) (F f).1.length (E6 (F f).1) ?_ aG.o (.string (data.extract 0 m)) (data.extract 0 m).size (byteCells (data.extract 0 m)) ?_ (MH _ underlying9 (data.extract 0 m)) aI ?_;(· rfl);(· rfl);(· rfl);(· rfl);intro b3 aA w3 hA;have H:=A4 (bE.o X X.drew w3 O (data.extract 0 m) b3 aA aF.o aJ.o aE.o ((A5.C (One b) X).ad) hA);have aQ:=H.o.1.fz;have aS:=H.o.1.c0))
     go_wp2;go_ret;have q1:=qC.o;have q2:BI {D with n:=O} F f data (m:Int) e1=(e1,{D with n:=O},upd F f ((F f).1++data.data.toList.take m,(F f).2)):=by
      unfold BI;rw[aO.o,Ae (by omega),EA]
     have I:=H.o.2;rw[Mi,aH]at I;rw[q1,q2];exact⟨rfl,I⟩
   ·have qC:Hid (Bj D F name data=(e1,{D with n:=O},F)):=by
     have:=q.o;unfold Hid;rw[this];simp only[PG,C4,hC]
    by_cases a1:O.Bf=true
    ·go_enter func8,ntmps8
     go_wp2_with (first
      | (go_at_call 24;refine(DC _ _ _ _ hd.o).k ?_;rintro w' rfl;rw[aY.o])
      | (go_at_call 25;refine(aZ.o _ aM.o).k ?_;rintro w1⟨z,Y⟩;have a0:=z.bO))
     go_ret;rw[qC.o];exact⟨rfl,bN.o.bN a3.o z Y⟩
    ·(have bK:O.Bf=false:=by simpa using a1);have bB:(data.size:Int)<=0:=by
      have:¬0<data.size:=λh=>hC ⟨bK,h⟩;omega
     go_enter func8,ntmps8
     go_wp2_with (first
      | (go_at_call 24;refine(DC _ _ _ _ hd.o).k ?_;rintro w' rfl;rw[aY.o])
      | (go_at_call 25;refine(aZ.o _ aM.o).k ?_;rintro w1⟨z,Y⟩;have a0:=z.bO))
     go_ret;rw[qC.o];exact⟨rfl,bN.o.bN a3.o z Y⟩
end
end Go.Proofs.YtodcnkbblippnabGreatDoor
