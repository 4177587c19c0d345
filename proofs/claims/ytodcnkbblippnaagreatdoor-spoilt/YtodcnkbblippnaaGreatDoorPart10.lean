/- Part 10 of a proof: walks of the program. -/
import Derived.Deep.RegionLaw
import Derived.Test.YtodcnkbblippnaaGreatDoorPart05
namespace Go.Proofs.YtodcnkbblippnaaGreatDoor
set_option maxRecDepth 100000
set_option maxHeartbeats 32000000
set_option linter.defProp false
open Go.Proofs.Tryz
section
open Go.RowKit
attribute [local go_sem ↓] Go.wp_at_zero Go.wp_at_succ
def BY.ag{w:ga}{b:Nat}{D:DS}{F:Nat->FC}{I E z:gd}{d:gh gd}{H:Nat->gd}(h:BY w b D F I E z d H):BY w.drew b D F I E z d H:=
 ⟨h.Ah,h.A4,h.AI,h.Al,h.Df,h.BK,h.Gq⟩
def Dh.ag{w:ga}{b:Nat}{D:DS}{F:Nat->FC}{Ft:Nat->Prop}(h:Dh w b D F Ft):Dh w.drew b D F Ft:=by
 obtain⟨O,H,E,d,L,I,z⟩:=h;exact⟨O,H,E,d,L,I.ag,z⟩
def A3V(s:gg):byteCells s=Ea s.data.toList:=rfl
def N9(s:gg)(m:Nat):(s.extract 0 m).data.toList=s.data.toList.take m:=by
 simp[ByteArray.data_extract]
def Fv(D:DS)(F:Nat->FC):Int:=max (D.n.AA-B6 F D.A4) 0
def Bw(D:DS)(F:Nat->FC)(f:Nat)(data:gg)(d:Int)(e:Int):Int×DS×(Nat->FC):=
 if d>Fv D F then
  (if e=0 then 6 else e,if e=0 then {D with n:={D.n with Bl:=wrap64 (D.n.Bl+1),fulls:=wrap64 (D.n.fulls+1)}} else D,upd F f ((F f).1++data.data.toList.take (Fv D F).toNat,(F f).2))
 else (e,D,upd F f ((F f).1++data.data.toList.take d.toNat,(F f).2))
def Bj(D:DS)(F:Nat->FC)(d data:gg):Int×DS×(Nat->FC):=match lookup D.A4 d with
 | none=>(8,D,F)
 | some f=>
  let r:=bg D.n
  let D1:={D with n:=r.2.2}
  if r.1 then Bw D1 F f data data.size r.2.1
  else if r.2.2.AW=false/\0<data.size then Bw D1 F f data (r.2.2.BC % data.size) r.2.1
  else (r.2.1,D1,F)
def A4r{w w2 W O:ga}{b:Nat}{D:DS}{F:Nat->FC}{vd vs vc v3:gd}{z:gh gd}{I:Nat->gd}{Ft:Nat->Prop}{f:Nat}{n2:DN}{news:gh UInt8}(hc:A3 Ft w w2)(h2:BY w2 b D F vd vs vc z I)(d:∀k,C6 b D vd vs vc z I k->Ft k)(Y:D.Ap f)(hW:AK W b vd vs vc n2)(H:A3 (One b) w2 W)(hA:App W O 5 1 (I f) v3 ((F f).1.length+news.length) (Ea (F f).1++Ea news)):
 CY O f (I f) (F f).2/\Dv w Ft (O.setCell ⟨f,0,none⟩ v3) b {D with n:=n2} (upd F f ((F f).1++news,(F f).2)):=by
 have rW:=h2.ah hW H;have⟨hf1,hf2⟩:=rW.BK f Y
 have E:=hf1.ay (hA.Cx.block f (Bv hf1) (λe=>by
  have⟨c,hh⟩:=Be hf2 e.symm
  exact BR hh hf1 (by decide) rfl))
 refine⟨E,?_⟩;have L:FZ O v3 ((F f).1++news):=by
  have:=hA.AE;unfold FZ;rw[A3U,AY];exact this
 have aA:FZ (O.setCell ⟨f,0,none⟩ v3) v3 ((F f).1++news):=by
  refine Pc L (a:=⟨f,0,none⟩) ?_ _;intro e;have⟨c,hh⟩:=Be L e;exact BR hh E (by decide) rfl
 have aB:=(hA.Al (S:=λk=>k=f\/(I f).ownBlock=some k) (λk hk=>.inr hk)).aq (.inl rfl) 0 v3;have hv:∀g,v3.ownBlock=some g->(I f).ownBlock=some g\/W.heap.size<=g:=by
  intro g hg;rcases hA.CA with h|h
  ·exact .inl (h.symm.trans hg)
  ·rw[hg]at h;cases h;exact .inr (Ao _)
 have r3:=rW.b1 Y (E.s0 v3) aA aB (λk hk=>hk) hv;have s1:=hc.Aj;have s2:=H.Aj;refine Dv.bw ?_ r3 ?_
 ·refine(hc.Av H (S':=One b) λx hx _=>by cases hx;exact d b .Ah).Av aB ?_;rintro x (rfl|hx) _
  ·exact d _ (.BK Y)
  ·exact d _ (.bA Y hx)
 ·intro x hx;rcases C6.b1 (N:=w.heap.size) (vb':=v3) (f:=f) Y (λg hg=>(hv g hg).imp id λh=>by omega) hx.n with h|h
  ·exact .inl (d x h)
  ·exact .inr h
def A4t(w:ga)(b:Nat)(D:DS)(F:Nat->FC)(Ft:Nat->Prop)(h:Dh w b D F Ft)(nd data:gg)(hroom : -4611686018427387904<=D.n.AA/\D.n.AA<=9223372036854775807)(hu:B6 F D.A4<=4611686018427387904)(hp:0<=D.n.BC/\D.n.BC<=9223372036854775807)(hl:∀f,lookup D.A4 nd=some f->(F f).1.length+data.size<=70368744177664):
 Ag 84 #[A5 b,.string nd,.string data] w (Am (A0 (Bj D F nd data).1) λw'=>Dv w Ft w' b (Bj D F nd data).2.1 (Bj D F nd data).2.2):=by
 obtain⟨vd,vs,vc,aN,bE,hr,aU⟩:=h;have c0:=hr.Ah.c0;have hd:=A1 hr.A4;have aM:=A1 hr.Ah;have bM:=A1 hr;rcases Ju D.A4 nd with⟨h1,h2⟩|⟨k,hk,h1,h2,h3⟩
 ·have q:Hid (Bj D F nd data=(8,D,F)):=by unfold Hid Bj;rw[h2]
  have hfi:B5 D.A4 nd<0:=by omega
  go_enter func84,ntmps84
  go_wp2_with (go_at_call 77;refine(DB _ _ _ _ hd.o).k ?_;rintro w' rfl);go_ret;rw[q.o];exact⟨rfl,Dv.bw (A3.I _ _) bM.o λk hk=>.inl (aU k hk)⟩
 ·obtain⟨g,cap,a',aD,rfl,hv,z1,z2,z3,z4⟩:=hr.CA k hk;generalize hf:(D.A4[k]'hk).2=f at hv h2 z3;have hl1:=hl f h2;have bF:=A1 hv;unfold maxLen at z2 z4;have aV:Hid (D.Ap f):=.inl ⟨_,BU hk,hf⟩;have aY:=A1 h1;have H2:=A1 h2;have a5:=A1 hu;have a3:=A1 aU;have⟨i0,hi,hz0,hz1,hz2⟩:=Eg Tryz.infoByte;have hk0:=C3 k;have hk1:(k:Int)<(D.A4.length:Int):=by omega
  have a4:Hid (∀w1,AK w1 b (AH g D.A4.length cap) vs vc (bg D.n).2.2->A3 (One b) w w1->
   BY w1 b {D with n:=(bg D.n).2.2} F (AH g D.A4.length cap) vs vc aN bE/\Dh w1 b {D with n:=(bg D.n).2.2} F Ft):=by
   intro w1 z Y;have r1:=hr.ah z Y;exact⟨r1,_,_,_,_,_,r1,λk hk=>aU k hk.n⟩
  have A2:Hid (∀w1 O,AK w1 b (AH g D.A4.length cap) vs vc (bg D.n).2.2->A3 (One b) w w1->A3 Ab w1.drew O->
   BY O b {D with n:=(bg D.n).2.2} F (AH g D.A4.length cap) vs vc aN bE/\A3 Ft w O/\QY O b g k f D.A4.length cap (F f).1.length aD a' (D.A4[k]'hk).1 (F f).2/\AK O b (AH g D.A4.length cap) vs vc (bg D.n).2.2):=by
   intro w1 O z Y aB;have r1:=(hr.ah z Y).ag;have r2:=r1.aN λx hx=>aB.An x (r1.lt hx) (λh=>h);refine⟨r2,?_,?_,r2.Ah⟩
   ·exact((Y.af (S':=Ft) λk _ hk=>by cases hk;exact aU b .Ah).ag).Av aB (λx hx=>hx.elim)
   ·subst hf;exact r2.dw k hk rfl bF.o
  have aW:Hid (-4611686018427387904<=(bg D.n).2.2.AA/\(bg D.n).2.2.AA<=9223372036854775807/\0<=(bg D.n).2.2.BC/\(bg D.n).2.2.BC<=9223372036854775807):=by
   unfold Hid bg;dsimp only;split
   ·exact⟨hroom.1,hroom.2,hp.1,hp.2⟩
   ·split
    ·exact⟨hroom.1,hroom.2,hp.1,hp.2⟩
    ·split<;>exact⟨hroom.1,hroom.2,hp.1,hp.2⟩
  have q:Hid (Bj D F nd data=(let r:=bg D.n
   let D1:={D with n:=r.2.2}
   if r.1 then Bw D1 F f data data.size r.2.1
   else if r.2.2.AW=false/\0<data.size then Bw D1 F f data (r.2.2.BC % data.size) r.2.1
   else (r.2.1,D1,F))):=by unfold Hid Bj;rw[h2]
  obtain⟨I,a6⟩:∃I,(bg D.n).2.2=I:=⟨_,rfl⟩;obtain⟨e1,bH⟩:∃e1,(bg D.n).2.1=e1:=⟨_,rfl⟩;obtain⟨d1,bL⟩:∃d1,(bg D.n).1=d1:=⟨_,rfl⟩;have a2:Hid (bg D.n=(d1,e1,I)):=by unfold Hid;rw[<-a6,<-bH,<-bL]
  rw[a6]at a4 A2 aW;have aZ:Hid (∀(W:ga),AK W b (AH g D.A4.length cap) vs vc D.n->Ag 121 #[A5 b] W (Am (.tuple #[.bool d1,A0 e1]) λw'=>AK w' b (AH g D.A4.length cap) vs vc I/\A3 (One b) W w')):=by
   intro W hW;have:=H9 W b _ _ _ _ hW;rw[a2.o]at this;exact this
  rw[a2.o]at q;have⟨r1,r2,r3,r4⟩:=aW.o;have hun:(0:Int)<=B6 F D.A4:=GK _;have hul:(B6 F D.A4:Int)<=4611686018427387904:=by have:=a5.o;omega
  have hw:IntKind.i64.wrap (I.AA-(B6 F D.A4:Int))=I.AA-(B6 F D.A4:Int):=by simp only[Jb];omega
  obtain⟨L,hL⟩:∃L,(if I.AA-(B6 F D.A4:Int)<0 then 0 else I.AA-(B6 F D.A4:Int))=L:=⟨_,rfl⟩;have bI:0<=L:=by rw[<-hL];split<;>omega
  have hLm:L<=9223372036854775807:=by rw[<-hL];split<;>omega
  have aO:Hid (Fv {D with n:=I} F=L):=by unfold Hid Fv;show max (I.AA-(B6 F D.A4:Int)) 0=L;rw[<-hL];split<;>omega
  have bB:Hid (∀(O W:ga) (n2:DN),BY O b {D with n:=I} F (AH g D.A4.length cap) vs vc aN bE->AK W b (AH g D.A4.length cap) vs vc n2->A3 (One b) O W->W.ownsRow 0 5 1 (.slice a' (F f).1.length aD) (F f).1.length (Ea (F f).1)):=by
   intro O W n2 h2 hW hc;have:=((h2.ah hW hc).BK f aV.o).2;rw[bF.o]at this;exact this
  have bD:Hid (∀(O W w3:ga) (n2:DN) (s:gg) (b3:Option Addr) (aA:Nat),BY O b {D with n:=I} F (AH g D.A4.length cap) vs vc aN bE->A3 Ft w O->AK W b (AH g D.A4.length cap) vs vc n2->A3 (One b) O W->
   App W w3 5 1 (.slice a' (F f).1.length aD) (.slice b3 ((F f).1.length+s.size) aA) ((F f).1.length+s.size) (Ea (F f).1++byteCells s)->
   CY w3 f (.slice a' (F f).1.length aD) (F f).2/\Dv w Ft (w3.sC f 0 (.slice b3 ((F f).1.length+s.size) aA)) b {D with n:=n2} (upd F f ((F f).1++s.data.toList,(F f).2))):=by
   intro O W w3 n2 s b3 aA h2 hc hW bK hA;have:=A4r (n2:=n2) (f:=f) (v3:=.slice b3 ((F f).1.length+s.size) aA) (news:=s.data.toList) hc h2 (λk hk=>a3.o k hk.n) aV.o hW bK (by rw[bF.o];simpa[A3V] using hA);rw[bF.o]at this;exact this
  obtain⟨l,rfl⟩:=KY bI;have BE:(if e1=0 then True else True):=by split<;>trivial
  cases d1 with
  | true=>
   by_cases aT:(l:Int)<(data.size:Int)
   ·by_cases he:e1=0
    ·(have a9:(e1==0)=true:=by simpa using he);have aL:=A1 he;(have aX:l<=data.size:=by omega);(have aH:(data.extract 0 l).size=l:=by simp;omega)
     go_enter func84,ntmps84
     go_wp2_with (first
      | (go_at_call 77;refine(DB _ _ _ _ hd.o).k ?_;rintro w' rfl;rw[aY.o])
      | (go_at_call 121;refine(aZ.o _ aM.o).k ?_;rintro w1⟨z,Y⟩))
     have⟨R1,P1⟩:=a4.o w1 z Y;have aK:=A1 P1;have aP:=z.c3;go_region_held3 (λw'=>w'.cell? ⟨b,3,none⟩=some (A0 I.AA)) (first|exact(AK.Al (w:=w1.drew) z aB (λh=>h)).c3|go_simp) ((go_at_call 90;refine(Ld _ b _ F Ft aK.o.ag a5.o).k ?_;rintro O aB));have⟨R2,C2,K2,B2⟩:=A2.o w1 O z Y aB;have aF:=A1 R2;have aJ:=A1 C2;have aE:=A1 B2;have x1:=K2.d;have x2:=K2.p;have x3:=K2.f0;have x8:=K2.gb;have x9:=K2.bf;have aR:=K2.fb;have y8:=B2.c8;have y9:=B2.c9;have yz:=B2.fz;go_wp2;have aG:=A1 (bB.o O ((O.sC b 8 (A0 (wrap64 (I.Bl+1)))).sC b 9 (A0 (wrap64 (I.fulls+1)))).drew {I with Bl:=wrap64 (I.Bl+1),fulls:=wrap64 (I.fulls+1)} aF.o ((aE.o.s8 _).s9 _) ((((A3.I (One b) O).aq rfl 8 _).aq rfl 9 _).ag));(have aI:((F f).1.length+(data.extract 0 l).size)*1<=140737488355328:=by rw[aH];omega);go_region_law
      ((refine JU ?_ (.tmp 90) (.tmp 93) 127 9 ?_ 5 i0 _ 1 1 GA hi hz0 hz1 hz2 rfl NH (.slice a' (F f).1.length aD) (F f).1.length (Ea (F f).1) ?_ aG.o (.string (data.extract 0 l)) (data.extract 0 l).size (byteCells (data.extract 0 l)) ?_ (NC _ FR (data.extract 0 l)) aI ?_;(· rfl);(· rfl);(· rfl);(· rfl);intro b3 aA w3 hA;have E:=A1 (bD.o O ((O.sC b 8 (A0 (wrap64 (I.Bl+1)))).sC b 9 (A0 (wrap64 (I.fulls+1)))).drew w3 {I with Bl:=wrap64 (I.Bl+1),fulls:=wrap64 (I.fulls+1)} (data.extract 0 l) b3 aA aF.o aJ.o ((aE.o.s8 _).s9 _) ((((A3.I (One b) O).aq rfl 8 _).aq rfl 9 _).ag) hA);have aQ:=E.o.1.fz;have aS:=E.o.1.c0))
     go_wp2;go_ret;have q1:=q.o;have q2:Bw {D with n:=I} F f data (data.size:Int) e1=(6,{D with n:={I with Bl:=wrap64 (I.Bl+1),fulls:=wrap64 (I.fulls+1)}},upd F f ((F f).1++data.data.toList.take l,(F f).2)):=by
      unfold Bw;rw[aO.o,Ae aT,Ae aL.o,Ae aL.o,EH]
     have H:=E.o.2;rw[N9,aH]at H;rw[q1,q2];exact⟨rfl,H⟩
    ·(have a9:(e1==0)=false:=by simpa using he);have aL:=A1 he;(have aX:l<=data.size:=by omega);(have aH:(data.extract 0 l).size=l:=by simp;omega)
     go_enter func84,ntmps84
     go_wp2_with (first
      | (go_at_call 77;refine(DB _ _ _ _ hd.o).k ?_;rintro w' rfl;rw[aY.o])
      | (go_at_call 121;refine(aZ.o _ aM.o).k ?_;rintro w1⟨z,Y⟩))
     have⟨R1,P1⟩:=a4.o w1 z Y;have aK:=A1 P1;have aP:=z.c3;go_region_held3 (λw'=>w'.cell? ⟨b,3,none⟩=some (A0 I.AA)) (first|exact(AK.Al (w:=w1.drew) z aB (λh=>h)).c3|go_simp) ((go_at_call 90;refine(Ld _ b _ F Ft aK.o.ag a5.o).k ?_;rintro O aB));have⟨R2,C2,K2,B2⟩:=A2.o w1 O z Y aB;have aF:=A1 R2;have aJ:=A1 C2;have aE:=A1 B2;have x1:=K2.d;have x2:=K2.p;have x3:=K2.f0;have x8:=K2.gb;have x9:=K2.bf;have aR:=K2.fb;go_wp2;have aG:=A1 (bB.o O O.drew I aF.o aE.o ((A3.I (One b) O).ag));(have aI:((F f).1.length+(data.extract 0 l).size)*1<=140737488355328:=by rw[aH];omega);go_region_law
      ((refine JU ?_ (.tmp 90) (.tmp 93) 127 9 ?_ 5 i0 _ 1 1 GA hi hz0 hz1 hz2 rfl NH (.slice a' (F f).1.length aD) (F f).1.length (Ea (F f).1) ?_ aG.o (.string (data.extract 0 l)) (data.extract 0 l).size (byteCells (data.extract 0 l)) ?_ (NC _ FR (data.extract 0 l)) aI ?_;(· rfl);(· rfl);(· rfl);(· rfl);intro b3 aA w3 hA;have E:=A1 (bD.o O O.drew w3 I (data.extract 0 l) b3 aA aF.o aJ.o aE.o ((A3.I (One b) O).ag) hA);have aQ:=E.o.1.fz;have aS:=E.o.1.c0))
     go_wp2;go_ret;have q1:=q.o;have q2:Bw {D with n:=I} F f data (data.size:Int) e1=(e1,{D with n:=I},upd F f ((F f).1++data.data.toList.take l,(F f).2)):=by
      unfold Bw;rw[aO.o,Ae aT,Aa aL.o,Aa aL.o,EH]
     have H:=E.o.2;rw[N9,aH]at H;rw[q1,q2];exact⟨rfl,H⟩
   ·(have a8:(data.size:Int)<=l:=by omega)
    go_enter func84,ntmps84
    go_wp2_with (first
     | (go_at_call 77;refine(DB _ _ _ _ hd.o).k ?_;rintro w' rfl;rw[aY.o])
     | (go_at_call 121;refine(aZ.o _ aM.o).k ?_;rintro w1⟨z,Y⟩))
    have⟨R1,P1⟩:=a4.o w1 z Y;have aK:=A1 P1;have aP:=z.c3;go_region_held3 (λw'=>w'.cell? ⟨b,3,none⟩=some (A0 I.AA)) (first|exact(AK.Al (w:=w1.drew) z aB (λh=>h)).c3|go_simp) ((go_at_call 90;refine(Ld _ b _ F Ft aK.o.ag a5.o).k ?_;rintro O aB));have⟨R2,C2,K2,B2⟩:=A2.o w1 O z Y aB;have aF:=A1 R2;have aJ:=A1 C2;have aE:=A1 B2;have x1:=K2.d;have x2:=K2.p;have x3:=K2.f0;have x8:=K2.gb;have x9:=K2.bf;have aR:=K2.fb;go_wp2;have aG:=A1 (bB.o O O.drew I aF.o aE.o ((A3.I (One b) O).ag));(have aI:((F f).1.length+data.size)*1<=140737488355328:=by omega);go_region_law
     ((refine JU ?_ (.tmp 90) (.tmp 93) 127 9 ?_ 5 i0 _ 1 1 GA hi hz0 hz1 hz2 rfl NH (.slice a' (F f).1.length aD) (F f).1.length (Ea (F f).1) ?_ aG.o (.string data) data.size (byteCells data) ?_ (NC _ FR data) aI ?_;(· rfl);(· rfl);(· rfl);(· rfl);intro b3 aA w3 hA;have E:=A1 (bD.o O O.drew w3 I data b3 aA aF.o aJ.o aE.o ((A3.I (One b) O).ag) hA);have aQ:=E.o.1.fz;have aS:=E.o.1.c0))
    go_wp2;go_ret;have q1:=q.o;have q2:Bw {D with n:=I} F f data (data.size:Int) e1=(e1,{D with n:=I},upd F f ((F f).1++data.data.toList,(F f).2)):=by
     unfold Bw;rw[aO.o,Aa (by omega),EH,EG (by show data.data.toList.length<=data.data.size;rw[Mu];exact Ao _)]
    have H:=E.o.2;rw[q1,q2];exact⟨rfl,H⟩
  | false=>
   have a7:Hid (e1=5/\I.AW=I.AW):=by
    have:=a2.o;unfold Hid;unfold bg at this;dsimp only at this;split at this
    ·cases this;exact⟨rfl,rfl⟩
    ·split at this
     ·cases this
     ·split at this
      ·cases this;exact⟨rfl,rfl⟩
      ·cases this
   by_cases hC:I.AW=false/\0<data.size
   ·obtain⟨a1,bA⟩:=hC;(have bC:(0:Int)<(data.size:Int):=by omega);have⟨m,hm⟩:=KY (Ms I.BC (b:=(data.size:Int)) (by omega));(have hml:(m:Int)<(data.size:Int):=by rw[<-hm];exact QT _ bC);have qC:Hid (Bj D F nd data=Bw {D with n:=I} F f data (m:Int) e1):=by
     have:=q.o;rw[<-hm];unfold Hid;rw[this];simp only[QW,C9,a1,bA,and_self,Cp]
    (have aL:Hid (¬e1=0):=by have:=a7.o.1;unfold Hid;omega);(have a9:(e1==0)=false:=by have:=a7.o.1;simp[this]);by_cases aT:(l:Int)<(m:Int)
    ·(have aX:l<=data.size:=by omega);(have aH:(data.extract 0 l).size=l:=by simp;omega)
     go_enter func84,ntmps84
     go_wp2_with (first
      | (go_at_call 77;refine(DB _ _ _ _ hd.o).k ?_;rintro w' rfl;rw[aY.o])
      | (go_at_call 121;refine(aZ.o _ aM.o).k ?_;rintro w1⟨z,Y⟩;have bG:=z.c7;have a0:=z.bW))
     have⟨R1,P1⟩:=a4.o w1 z Y;have aK:=A1 P1;have aP:=z.c3;go_region_held3 (λw'=>w'.cell? ⟨b,3,none⟩=some (A0 I.AA)) (first|exact(AK.Al (w:=w1.drew) z aB (λh=>h)).c3|go_simp) ((go_at_call 90;refine(Ld _ b _ F Ft aK.o.ag a5.o).k ?_;rintro O aB));have⟨R2,C2,K2,B2⟩:=A2.o w1 O z Y aB;have aF:=A1 R2;have aJ:=A1 C2;have aE:=A1 B2;have x1:=K2.d;have x2:=K2.p;have x3:=K2.f0;have x8:=K2.gb;have x9:=K2.bf;have aR:=K2.fb;go_wp2;have aG:=A1 (bB.o O O.drew I aF.o aE.o ((A3.I (One b) O).ag));(have aI:((F f).1.length+(data.extract 0 l).size)*1<=140737488355328:=by rw[aH];omega);go_region_law
      ((refine JU ?_ (.tmp 90) (.tmp 93) 127 9 ?_ 5 i0 _ 1 1 GA hi hz0 hz1 hz2 rfl NH (.slice a' (F f).1.length aD) (F f).1.length (Ea (F f).1) ?_ aG.o (.string (data.extract 0 l)) (data.extract 0 l).size (byteCells (data.extract 0 l)) ?_ (NC _ FR (data.extract 0 l)) aI ?_;(· rfl);(· rfl);(· rfl);(· rfl);intro b3 aA w3 hA;have E:=A1 (bD.o O O.drew w3 I (data.extract 0 l) b3 aA aF.o aJ.o aE.o ((A3.I (One b) O).ag) hA);have aQ:=E.o.1.fz;have aS:=E.o.1.c0))
     go_wp2;go_ret;have q1:=qC.o;have q2:Bw {D with n:=I} F f data (m:Int) e1=(e1,{D with n:=I},upd F f ((F f).1++data.data.toList.take l,(F f).2)):=by
      unfold Bw;rw[aO.o,Ae aT,Aa aL.o,Aa aL.o,EH]
     have H:=E.o.2;rw[N9,aH]at H;rw[q1,q2];exact⟨rfl,H⟩
    ·(have a8:(m:Int)<=l:=by omega);(have aX:m<=data.size:=by omega);(have aH:(data.extract 0 m).size=m:=by simp;omega)
     go_enter func84,ntmps84
     go_wp2_with (first
      | (go_at_call 77;refine(DB _ _ _ _ hd.o).k ?_;rintro w' rfl;rw[aY.o])
      | (go_at_call 121;refine(aZ.o _ aM.o).k ?_;rintro w1⟨z,Y⟩;have bG:=z.c7;have a0:=z.bW))
     have⟨R1,P1⟩:=a4.o w1 z Y;have aK:=A1 P1;have aP:=z.c3;go_region_held3 (λw'=>w'.cell? ⟨b,3,none⟩=some (A0 I.AA)) (first|exact(AK.Al (w:=w1.drew) z aB (λh=>h)).c3|go_simp) ((go_at_call 90;refine(Ld _ b _ F Ft aK.o.ag a5.o).k ?_;rintro O aB));have⟨R2,C2,K2,B2⟩:=A2.o w1 O z Y aB;have aF:=A1 R2;have aJ:=A1 C2;have aE:=A1 B2;have x1:=K2.d;have x2:=K2.p;have x3:=K2.f0;have x8:=K2.gb;have x9:=K2.bf;have aR:=K2.fb;go_wp2;have aG:=A1 (bB.o O O.drew I aF.o aE.o ((A3.I (One b) O).ag));(have aI:((F f).1.length+(data.extract 0 m).size)*1<=140737488355328:=by rw[aH];omega);go_region_law
      ((refine JU ?_ (.tmp 90) (.tmp 93) 127 9 ?_ 5 i0 _ 1 1 GA hi hz0 hz1 hz2 rfl NH (.slice a' (F f).1.length aD) (F f).1.length (Ea (F f).1) ?_ aG.o (.string (data.extract 0 m)) (data.extract 0 m).size (byteCells (data.extract 0 m)) ?_ (NC _ FR (data.extract 0 m)) aI ?_;(· rfl);(· rfl);(· rfl);(· rfl);intro b3 aA w3 hA;have E:=A1 (bD.o O O.drew w3 I (data.extract 0 m) b3 aA aF.o aJ.o aE.o ((A3.I (One b) O).ag) hA);have aQ:=E.o.1.fz;have aS:=E.o.1.c0))
     go_wp2;go_ret;have q1:=qC.o;have q2:Bw {D with n:=I} F f data (m:Int) e1=(e1,{D with n:=I},upd F f ((F f).1++data.data.toList.take m,(F f).2)):=by
      unfold Bw;rw[aO.o,Aa (by omega),EH]
     have H:=E.o.2;rw[N9,aH]at H;rw[q1,q2];exact⟨rfl,H⟩
   ·have qC:Hid (Bj D F nd data=(e1,{D with n:=I},F)):=by
     have:=q.o;unfold Hid;rw[this];simp only[QW,C9,hC]
    by_cases a1:I.AW=true
    ·go_enter func84,ntmps84
     go_wp2_with (first
      | (go_at_call 77;refine(DB _ _ _ _ hd.o).k ?_;rintro w' rfl;rw[aY.o])
      | (go_at_call 121;refine(aZ.o _ aM.o).k ?_;rintro w1⟨z,Y⟩;have a0:=z.bW))
     go_ret;rw[qC.o];exact⟨rfl,bM.o.bO a3.o z Y⟩
    ·(have bJ:I.AW=false:=by simpa using a1);have bA:(data.size:Int)<=0:=by
      have:¬0<data.size:=λh=>hC ⟨bJ,h⟩;omega
     go_enter func84,ntmps84
     go_wp2_with (first
      | (go_at_call 77;refine(DB _ _ _ _ hd.o).k ?_;rintro w' rfl;rw[aY.o])
      | (go_at_call 121;refine(aZ.o _ aM.o).k ?_;rintro w1⟨z,Y⟩;have a0:=z.bW))
     go_ret;rw[qC.o];exact⟨rfl,bM.o.bO a3.o z Y⟩
end
end Go.Proofs.YtodcnkbblippnaaGreatDoor
