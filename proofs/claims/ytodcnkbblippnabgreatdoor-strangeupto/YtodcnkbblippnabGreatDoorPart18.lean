/- Part 18 of a proof: walks of the program. -/
import Derived.Test.YtodcnkbblippnabGreatDoorPart14
namespace Go.Proofs.YtodcnkbblippnabGreatDoor
set_option maxRecDepth 100000
set_option maxHeartbeats 32000000
set_option linter.defProp false
open Go.Proofs.Tryz
section
open Go.RowKit
attribute [local go_sem ↓] Go.wp_at_zero Go.wp_at_succ
def A1A(w:World)(b:Nat)(D:DS)(F:Nat->FC)(Ft:Nat->Prop)(h:D7 w b D F Ft)(hs:D.A6.length<549755813888/\D.AK.length<549755813888/\∀l∈D.Ap,l.length<1099511627776)(bR:∀l:List Nat,l.Nodup->(∀f∈l,D.As f)->l.length<1099511627776)(hs2:D.Ap.length<1099511627776)(hF:∀f,D.As f->(F f).1.length<=1099511627776):
 Aj 15 #[A7 b] w λe w'=>∃b2 r bF aL,e=.returned (A7 b2)/\D7 w' b2 (D.ren r) bF aL/\(∀k,aL k->w.heap.size<=k/\k<w'.heap.size)/\A5 Ab w w'/\
  (∀f,D.As f->bF (r f)=F f)/\∀f f',D.As f->D.As f'->r f=r f'->f=f':=by
 obtain⟨vd,vs,vc,vals,bH,hr,hft⟩:=h;obtain⟨hsA,hsB,bS⟩:=hs;have bX:=A4 bS;have bU:=A4 bR;have aA:=A4 hr;have bK:=A4 hF;have c0:=hr.Ai.c0;have c1:=hr.Ai.c1;have c2:=hr.Ai.c2;have c3:=hr.Ai.c3;have c4:=hr.Ai.c4;have c5:=hr.Ai.c5;have c6:=hr.Ai.c6;have c7:=hr.Ai.c7;have c8:=hr.Ai.c8;have c9:=hr.Ai.c9;have c10:=hr.Ai.bO;obtain⟨ac,pc,rfl,hc1,bP,aJ,hcnone,hcform⟩:=Bb hr.An;unfold maxLen at bP;have aX:=A4 aJ
 have bY:Hid (∀(vl:Value) (es:List AI) (W:World) (L M:List Nat) (vo vm:Value) (aS:Nat->Value),CG w vl es->(∀f,D9 f es->D.As f)->es.length<1099511627776->A5 Ab w W->CS w.heap.size W (w.heap.size+1) (w.heap.size+2) F L M vo vm aS->L.length<1099511627776->
  Aj 40 #[vl,A7 (w.heap.size+1),A7 (w.heap.size+2)] W λe w'=>∃v b1 bZ a4 a8 a7 bM,e=.returned v/\Et w.heap.size W (w.heap.size+1) (w.heap.size+2) F L M vo vm aS es es.length es.length v w' b1 bZ a4 a8 a7 bM):=
  λvl es W L M vo vm aS h1 h2 h3 h4 h5 h6=>RW aA.o h4 h5 h1 h2 bK.o ⟨h3,h6⟩
 have bW:Hid (∀W,A5 Ab w W->W.cell? (Ad b 0)=some vd/\W.cell? (Ad b 1)=some vs):=λW hc=>
  ⟨(Dp (hc.Ao b aA.o.Ai.lt (λh=>h))).trans aA.o.Ai.c0,(Dp (hc.Ao b aA.o.Ai.lt (λh=>h))).trans aA.o.Ai.c1⟩
 have a9:w.heap.size≠b:=by have:=aA.o.Ai.lt;omega
 go_enter func15,ntmps15
 go_wp2;refine Ji 33 (by kernel_rfl) (by kernel_rfl) ?_;simp only[JY,EU,EL,DA,Dj]
 repeat still_step
 refine Jj ?_;go_wp2;generalize bQ:(((w.alloc (.cells #[.slice none 0 0,.slice none 0 0,.slice none 0 0,A0 D.n.B1,A0 D.n.Bw,A0 D.n.CP,A0 D.n.Dn,A0 D.n.BA,A0 D.n.Bt,A0 D.n.fulls,.bool D.n.Bf] 60)).alloc (.cells #[.slice none 0 0] 95)).alloc (.cells #[.slice none 0 0] 95)).drew=W1;have⟨cs1,hb1,hc1W⟩:=U5 w D.n F bH W1 bQ.symm;have bT:=A4 hb1;have aD:=A4 cs1;have X:=A4 hc1W;refine Ff (λw'=>w'.cell? (Ad b 0)=some vd/\w'.cell? (Ad b 1)=some vs) 17
  (BD [0,1,2,3,4,5,6,8,9,10,11,12,7,13,14,15,16] [7,13,16]) (by kernel_rfl) (by kernel_rfl) (λ_ _ _ _ _ h=>h) (bW.o _ X.o.ad) ?_
 iterate 12 (refine DO (v:=?_) rfl (by rfl) ?_ ?_;rotate_left;(· (intro w' Y;(try dsimp only at Y);go_simp;try with_reducible rfl));(try simp only[BQ]))
 refine Dt rfl (by rfl) (λK hK=>?_);go_simp;refine(bY.o vd D.A6 _ _ _ _ _ _ aA.o.A6 (λf hf=>.inl hf) (by omega) X.o.ad (aD.o.An (A5.C Ab W1).ad (λ_ _ h=>h) (λ_ _ h=>h)) (by simp)).mono ?_;rintro e w2⟨v1,L,M,vo,vm,a7,e1,rfl,aN⟩;obtain⟨a1,k1,rfl,-⟩:=CG.BV aN.Er;have aQ:=A4 aN;have aR:=A4 <| aN.b6 X.o.ad (aD.o.An (A5.C Ab W1).ad (λ_ _ h=>h) (λ_ _ h=>h));have hL:L.length<=D.A6.length:=by
  have⟨o,q1,q2,_⟩:=aN.G9;rw[q1];simpa using q2
 refine hK _ _ (bW.o _ aR.o) (λY=>?_)
 (try simp only[BQ])
 refine Dt rfl (by rfl) (λK hK=>?_);go_simp;refine(bY.o vs D.AK _ _ _ _ _ _ aA.o.AK (λf hf=>.inr (.inl hf)) (by omega) aR.o aQ.o.cs (by omega)).mono ?_;rintro e w3⟨v2,b1,bZ,a4,a8,VB3,e2,rfl,aT⟩;obtain⟨a2,k2,rfl,-⟩:=CG.BV aT.Er;have a3:Hid (A5 Ab w w3):=aT.b6 aR.o aQ.o.cs;have aK:=U4 (aD.o.An (A5.C Ab W1).ad (λ_ _ h=>h) (λ_ _ h=>h)) ((bT.o:AO W1.drew _ _ _ _ _)) X.o.ad aQ.o aT;have z0:=aK.1.c0;have z1:=aK.1.c1;have zf:=aK.1.fz;have bE:=A4 aK.2;refine hK _ _ (bW.o _ a3.o) (λY=>?_);obtain⟨s0,s1⟩:=Y
 (try simp only[BQ])
 iterate 2 (refine DO (v:=?_) rfl (by rfl) ?_ ?_;rotate_left;(· (intro w' Y;(try dsimp only at Y);go_simp;try with_reducible rfl));(try simp only[BQ]))
 refine Dt rfl (by rfl) (λK hK=>?_);go_simp;refine hK _ _ ?_ (λY=>?_)
 ·simp[World.cell?_setCell_far,a9,s0,s1]
 (try simp only[BQ])
 have c2b:w3.cell? (Ad b 2)=some (.slice ac D.Ap.length pc):=(Dp (a3.o.Ao b aA.o.Ai.lt (λh=>h))).trans c2;refine Fg ?_;simp only[DA,Dj];go_wp2;generalize hW4:(w3.setCell (Ad w.heap.size 0) (.slice a1 e1.length k1)).setCell (Ad w.heap.size 1) (.slice a2 e2.length k2)=W4 at bE ⊢;go_loopw [67] (λiv wr=>∃i:Nat,i<=D.Ap.length/\iv=A0 i/\Hid (∃L M vo vm H bH z cs,CR w.heap.size w wr w.heap.size (w.heap.size+1) (w.heap.size+2) D F i L M vo vm (.slice a1 e1.length k1) (.slice a2 e2.length k2) H bH z e1 e2 cs)) (λiv _=>D.Ap.length-(intOf iv).toNat)
 ·exact⟨0,C8 _,rfl,_,_,_,_,_,_,_,_,bE.o⟩
 ·obtain⟨i,hi,rfl,bD⟩:=hrel;by_cases aG:i<D.Ap.length
  ·have⟨L3,M3,vo3,vm3,H,VB4,z,cs,k0⟩:=bD.o;have aI:=A4 k0;obtain⟨gc,rfl⟩:=aX.o (by omega);have⟨vk,hvk,hek⟩:=aA.o.Da i aG;have bL:=AG aA.o.An (g:=gc) rfl;have m1:wr.cell? (Ad gc i)=some vk:=(Dp (k0.An.Ao gc bL (λh=>h))).trans (BB aA.o.An (g:=gc) rfl hvk);obtain⟨I,O,rfl,hk1,hk2,-⟩:=CG.BV hek;have bA:=A4 hek;obtain⟨es,aF⟩:∃es,D.Ap[i]'aG=es:=⟨_,rfl⟩;(have bB:es.length<1099511627776:=by rw[<-aF];exact bX.o _ (BS aG));have bI:L3.length<1099511627776:=bU.o _ k0.Gd.I8 k0.T4;rw[aF]at bA;have bV:=A4 aF;have aY:Hid (∀f,D9 f es->D.As f):=λf hf=>.inr (.inr ⟨_,BS aG,aF ▸ hf⟩);have hi0:=Cd i;(have hi1:(i:Int)<(D.Ap.length:Int):=by omega);rw[aF]at m1;have⟨p0,hp,hp0,hp1,hp2⟩:=Eb Tryz.cU;have hsz:w.heap.size<wr.heap.size:=aI.o.Ai.lt;have aM:Hid (CS w.heap.size ((wr.alloc (.cells #[.slice I es.length O] 98)).drew) (w.heap.size+1) (w.heap.size+2) F L3 M3 vo3 vm3 VB4):=aI.o.Gd.An ((A5.C Ab wr).aj (.cells #[.slice I es.length O] 98)).ad (λ_ _ h=>h) (λ_ _ h=>h);have bG:Hid (A5 Ab w ((wr.alloc (.cells #[.slice I es.length O] 98)).drew)):=(aI.o.An.aj (.cells #[.slice I es.length O] 98)).ad;have aZ:=BN wr (.cells #[.slice I es.length O] 98);(have n0:(wr.alloc (.cells #[.slice I es.length O] 98)).cell? (Ad wr.heap.size 0)=some (.slice I es.length O):=by unfold World.cell?;rw[aZ];rfl);have n1:(wr.alloc (.cells #[.slice I es.length O] 98)).cell? (Ad w.heap.size 2)=some H:=(aI.o.Ai.aj (.cells #[.slice I es.length O] 98)).c2;have b0:=A4 aZ;go_wp2;refine Ff (λw'=>w'.cell? (Ad w.heap.size 2)=some H/\w'.cell? (Ad wr.heap.size 0)=some (.slice I es.length O)) 12
    (BD [0,1,2,3,4,5,6,7,8,9,10,11] [8,10,11]) (by kernel_rfl) (by kernel_rfl) (λ_ _ _ _ _ h=>h) ⟨n1,n0⟩ ?_
   iterate 8 (refine DO (v:=?_) rfl (by rfl) ?_ ?_;rotate_left;(· (intro w' Y;(try dsimp only at Y);go_simp;try with_reducible rfl));(try simp only[BQ]))
   refine Dt rfl (by rfl) (λK hK=>?_);go_simp;refine(bY.o _ es _ _ _ _ _ _ bA.o aY.o bB bG.o aM.o bI).mono ?_;rintro e w5⟨v5,L5,M5,vo5,vm5,VB5,aE,rfl,aB⟩;obtain⟨a5,k5,rfl,-⟩:=CG.BV aB.Er;have bN:=A4 aB;have bC:AO w5 w.heap.size (.slice a1 e1.length k1) (.slice a2 e2.length k2) H D.n:=
    (aB.An.Ao _ (by simp;omega) (aM.o.bG (aI.o.Ai.aj (.cells #[.slice I es.length O] 98)) (.inr (.inr rfl)))).trans (aI.o.Ai.aj (.cells #[.slice I es.length O] 98))
   have a0:w5.heap[wr.heap.size]?=some (.cells #[.slice I es.length O] 98 (0,0)):=(aB.An.Ao _ (by simp) (aM.o.bG b0.o (.inr (.inl rfl)))).trans b0.o;have aO:w5.ownsRow 0 98 1 H i z:=AA aI.o.ch λg hg=>by
    have⟨c,hh⟩:=Bd aI.o.ch hg;have h1:((wr.alloc (.cells #[.slice I es.length O] 98)).drew).heap[g]?=some (Obj.cells c 98 (0,0)):=(CU _ _ _ (Bo hh)).trans hh;exact((aB.An.Ao _ (Bo h1) (aM.o.bG h1 (.inr (.inl rfl)))).trans h1).trans hh.symm
   have p1:=bC.c2;(have p2:w5.cell? (Ad wr.heap.size 0)=some (.slice I es.length O):=by simp[World.cell?,a0]);have aH:=A4 bC;have aV:=A4 a0;have aP:Hid ((w5.alloc (.cells #[.slice a5 aE.length k5] 98)).ownsRow 0 98 1 H i z):=AA aO λg hg=>CU _ _ _ (AG aO hg);have aU:Hid (∀w6 v6 n xs,App (w5.alloc (.cells #[.slice a5 aE.length k5] 98)) w6 98 1 H v6 n xs->(w6.cell? (Ad w.heap.size 2)=some H/\w6.cell? (Ad wr.heap.size 0)=some (.slice I es.length O))/\w6.frozen? (Ad w.heap.size 2)=false):=by
    intro w6 v6 n xs hA
    have x1:w6.heap[w.heap.size]?=w5.heap[w.heap.size]?:=(hA.Cp.block _ (by have:=aH.o.lt;simp;omega) (λe=>by
     have⟨c,hh⟩:=Bd aP.o e.symm
     exact BP hh (aH.o.aj _) (by decide) rfl)).trans (CU _ _ _ aH.o.lt)
    have x2:w6.heap[wr.heap.size]?=w5.heap[wr.heap.size]?:=(hA.Cp.block _ (by have:=Bo aV.o;simp;omega) (λe=>by
     have:=AG aI.o.ch e.symm;omega)).trans (CU _ _ _ (Bo aV.o))
    exact⟨⟨(Dp x1).trans aH.o.c2,by simp[World.cell?,x2,aV.o]⟩,(aH.o.az x1).fz 2⟩
   have bO:Hid (Src Tryz.prog 1 58 (AN w5.heap.size 1 1) 1 [.slice a5 aE.length k5] (w5.alloc (.cells #[.slice a5 aE.length k5] 98))):=
    Src.ba underlying58 w5 #[.slice a5 aE.length k5] 98 w5.heap.size rfl 1 1 rfl (by simp[Value.oneCell'])
   (have bJ:(i+1)*24<=140737488355328:=by omega);refine hK _ _ ⟨p1,p2⟩ (λY=>?_)
   (try simp only[BQ])
   (refine DO (v:=?_) rfl (by rfl) ?_ ?_;rotate_left;(· (intro w' Y;(try dsimp only at Y);go_simp;try with_reducible rfl));(try simp only[BQ]))
   refine Dt rfl (by rfl) (λK hK=>?_);go_simp;refine hK _ _ ?_ (λY=>?_)
   ·simp[World.cell?_alloc_some,p1,p2]
   (try simp only[BQ])
   refine Dt rfl (by rfl) (λK hK=>?_);refine Hx (.tmp 75) (.tmp 81) 58 58 (by rfl) 98 p0 _ 1 24 underlying58 hp hp0 hp1 hp2 rfl (by decide) H i z (by rfl) aP.o _ 1 _ (by rfl) bO.o bJ ?_;intro a6 k6 w6 hA;have⟨r1,r2⟩:=aU.o _ _ _ _ hA;have aW:=A4 (aI.o.a8 (nq:=0) aG bV.o (((A5.C Ab wr).aj (.cells #[.slice I es.length O] 98)).ad) bN.o hA);refine hK _ _ r1 (λY=>?_);obtain⟨r1,-⟩:=r1
   (try simp only[BQ])
   refine Fg ?_;simp only[DA,Dj];go_wp2;go_roundw
   ·exact⟨i+1,by omega,by go_num,_,_,_,_,_,_,_,_,aW.o⟩
   ·simp[intOf];omega
  ·(obtain rfl:i=D.Ap.length:=by omega);have⟨L3,M3,vo3,vm3,H,VB4,z,cs,k0⟩:=bD.o;have⟨r,bF,aL,q1,q2,q3,q4,q5⟩:=k0.dR;have b6:=A4 q1;have b7:=A4 q2;have b4:=A4 q4;have b5:=A4 q5;have b3:=A4 q3;go_wp2;go_ret;exact⟨_,r,bF,aL,rfl,b6.o,b7.o,b3.o,b4.o,b5.o⟩
def Sh:∀ {l m:List Nat},l.Nodup->(∀x∈l,x∈m)->l.length<=m.length
 | [],_,_,_=>C8 _
 | x::r,m,h,hs=>by
  have I:=hs x (Bp ..);have H:=J8.1 h;have:=Sh (m:=m.erase x) H.2 λy z=>(V5 λe=>H.1 (by rw[<-e];exact z)).2 (hs y (Bn _ z))
  rw[A2X I]at this;have:=A2W I;simp only[BM];omega
def Vj(D:DS)(F:Nat->FC):Prop:=∃K,K<1099511627776/\(∀f,D.As f->f<K)/\D.A6.length<549755813888/\D.AK.length<549755813888/\(∀l∈D.Ap,l.length<1099511627776)/\D.Ap.length<1099511627776/\∀f,D.As f->(F f).1.length<=1099511627776
def U6{w:World}{b:Nat}{D:DS}{F:Nat->FC}{Ft:Nat->Prop}(h:B5 w b D F Ft)(hC:Vj D F):
 Aj 15 #[A7 b] w λe w'=>∃b2 H,e=.returned (A7 b2)/\B5 w' b2 D F H/\(∀k,H k->w.heap.size<=k/\k<w'.heap.size)/\A5 Ab w w':=by
 obtain⟨r,G,h1,h2,h3⟩:=h;obtain⟨K,c1,c2,c3,c4,c5,c6,c7⟩:=hC;have⟨l1,l2,l3,l4⟩:=J1 D r
 refine(A1A w b _ G Ft h1 ⟨by rw[l1];exact c3,by rw[l2];exact c4,λl hl=>?_⟩ (λl hn hl=>?_) (by rw[l3];exact c6) (λf' z=>by
  obtain⟨f,I,rfl⟩:=DS.cu z
  rw[h2 f I];exact c7 f I)).mono ?_
 ·obtain⟨l0,I,rfl⟩:=C9.1 hl;rw[II];exact c5 l0 I
 ·have:=Sh (m:=(List.range K).map r) hn λx O=>by
   obtain⟨f,I,rfl⟩:=DS.cu (hl x O);exact DD (K8.2 (c2 f I))
  rw[H9,V6]at this;omega
 rintro e w'⟨b2,Y,aA,H,I,q2,q3,q4,q5,q6⟩;have W:(D.ren r).ren Y=D.ren (λf=>Y (r f)):=by
  have e:∀es:List AI,Go.Proofs.YtodcnkbblippnabGreatDoor.ren Y (Go.Proofs.YtodcnkbblippnabGreatDoor.ren r es)=Go.Proofs.YtodcnkbblippnabGreatDoor.ren (λf=>Y (r f)) es:=λes=>by simp[Go.Proofs.YtodcnkbblippnabGreatDoor.ren]
  simp only[DS.ren,e,MQ]
  congr 1
  exact K9 λc _=>e c
 have hid:∀f,D.As f->(D.ren r).As (r f):=by
  rintro f (⟨x,O,rfl⟩|⟨x,O,rfl⟩|⟨c,hc,x,O,rfl⟩)
  ·exact .inl ⟨_,DD O,rfl⟩
  ·exact .inr (.inl ⟨_,DD O,rfl⟩)
  ·exact .inr (.inr ⟨_,DD hc,_,DD O,rfl⟩)
 refine⟨b2,H,I,⟨λf=>Y (r f),aA,W ▸ q2,λf X=>?_,λf f' X z e=>?_⟩,q3,q4⟩
 ·rw[q5 (r f) (hid f X),h2 f X]
 ·exact h3 f f' X z (q6 _ _ (hid f X) (hid f' z) e)
end
end Go.Proofs.YtodcnkbblippnabGreatDoor
