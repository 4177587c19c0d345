/- Part 13 of a proof: walks of the program. -/
import Derived.Test.YtodcnkbblippnaaGreatDoorPart12
namespace Go.Proofs.YtodcnkbblippnaaGreatDoor
set_option maxRecDepth 100000
set_option maxHeartbeats 32000000
set_option linter.defProp false
open Go.Proofs.Tryz
section
open Go.MuLone Go.RowKit
attribute [local go_sem ↓] Go.wp_at_zero Go.wp_at_succ CL
section
variable{w w' w2:gx}{sb ab b:Nat}{mu ld wc A7:Int}{ro:Bool}{lv:Nat->gy}{L:Nat->gD Pt}{A:Ar}{P:PD}{F0 FT:Nat->Prop}
def SA(w:gx)(k t v:Int)(h:SF w sb ab b 0 ld wc A7 true L A P FT)(aA:∀k,FT k->k<w.heap.size)(hk:0<=k/\k<8):
 Ag 23 #[A5 sb,A0 k,A0 t,A0 v] w (Aj (A0 4) λw'=>Ap w FT w' (λw' z=>SF w' sb ab b 0 ld wc A7 true L A P z)):=by
 have aE:Hid (∀w',Ag 63 #[A0 k] w' λe E=>e=.returned (.bool true)/\w'=E):=λw'=>by
  have:=Lt w' k
  rwa [Cu hk]at this
 have Y:=Q5 w sb k t v;have W:=Q6 w sb k t v;generalize aD:boxed w sb k t v=w0 at Y W;unfold boxed at aD;have hV:=h.ak Y;have I:=hV.bH;have O:J5 (w0.sC sb 0 (.int .i32 1)) w.heap.size sb k t v:=W.Am I.1 λi _ hx=>by have:=aA _ hx;omega
 have d:Hid (Ap w FT (w0.sC sb 0 (.int .i32 1)) (λw' z=>SF w' sb ab b 1 ld wc A7 true L A P z)):=I.a1 Y;have aG:Hid (∀X,Ag 64 #[A5 sb,X] (w0.sC sb 0 (.int .i32 1)) (Aj (A0 4) λw'=>(w0.sC sb 0 (.int .i32 1))=w')):=λX=>by
  have⟨k1,F1,s1,s2,s3⟩:=d.o;obtain⟨lv,F0,q,-⟩:=s1;exact V7 _ X q.Ae
 have c0:A8 w0 sb 0 (.int .i32 0):=by obtain⟨lv,F0,q,-⟩:=hV;exact q.Ae.c0
 have f0:w0.frozen? (A9 sb 0)=false:=by obtain⟨lv,F0,q,-⟩:=hV;exact q.Ae.fz 0
 obtain⟨x0,x1,x2,x3⟩:=W;obtain⟨y0,y1,y2,y3⟩:=O
 go_enter_defers func23,ntmps23
 go_wp2_with (fail);refine(Ih Tryz.bp (A9 sb 0) _ c0 f0).k ?_;rintro w' rfl;go_wp2_with (go_at_call 63;refine(aE.o _).k ?_;rintro w' rfl);refine(aG.o _).k ?_;rintro w2 rfl;go_wp2;refine Ii (f:=62) (args:=#[A5 sb]) (by simp) (by simp[go_sem]) ?_;refine(Ie Tryz.bp (A9 sb 0) .returning _ ?_ ?_).mono ?_
 ·obtain⟨-,aF,⟨aB,aH,a1,-⟩,-,-⟩:=d.o;exact a1.Ae.c0
 ·obtain⟨-,aF,⟨aB,aH,a1,-⟩,-,-⟩:=d.o;exact a1.Ae.fz 0
 rintro e u' E⟨rfl,rfl,rfl⟩;exact⟨_,Kb rfl _ _ _,rfl,SFto.CO d.o 0 _ λlv h=>h.s0 0⟩
def Zj(w:gx)(k t v:Int)(h:SF w sb ab b 0 ld wc A7 ro L A P FT)(Y:∀k,FT k->k<w.heap.size)(hk:¬(0<=k/\k<8)):
 Ag 23 #[A5 sb,A0 k,A0 t,A0 v] w (Aj (A0 2) λw'=>Ap w FT w' (λw' d=>SF w' sb ab b 0 ld wc A7 ro L A P d)):=by
 have aD:Hid (∀w',Ag 63 #[A0 k] w' λe E=>e=.returned (.bool false)/\w'=E):=λw'=>by
  have:=Lt w' k
  rwa [Cv hk]at this
 have X:=Q5 w sb k t v;have W:=Q6 w sb k t v;generalize aB:boxed w sb k t v=w0 at X W;unfold boxed at aB;have hV:=h.ak X;have I:=hV.bH;have O:J5 (w0.sC sb 0 (.int .i32 1)) w.heap.size sb k t v:=W.Am I.1 λi _ hx=>by have:=Y _ hx;omega
 have z:Hid (Ap w FT (w0.sC sb 0 (.int .i32 1)) (λw' d=>SF w' sb ab b 1 ld wc A7 ro L A P d)):=I.a1 X;have c0:A8 w0 sb 0 (.int .i32 0):=by obtain⟨lv,F0,q,-⟩:=hV;exact q.Ae.c0
 have f0:w0.frozen? (A9 sb 0)=false:=by obtain⟨lv,F0,q,-⟩:=hV;exact q.Ae.fz 0
 obtain⟨x0,x1,x2,x3⟩:=W;obtain⟨y0,y1,y2,y3⟩:=O
 go_enter_defers func23,ntmps23
 go_wp2_with (first
  | (go_at_call 61;refine(Ih Tryz.bp (A9 sb 0) _ c0 f0).k ?_;rintro w' rfl)
  | (go_at_call 63;refine(aD.o _).k ?_;rintro w' rfl))
 refine Ii (f:=62) (args:=#[A5 sb]) (by simp) (by simp[go_sem]) ?_;refine(Ie Tryz.bp (A9 sb 0) .returning _ ?_ ?_).mono ?_
 ·obtain⟨-,aE,⟨aA,aF,a1,-⟩,-,-⟩:=z.o;exact a1.Ae.c0
 ·obtain⟨-,aE,⟨aA,aF,a1,-⟩,-,-⟩:=z.o;exact a1.Ae.fz 0
 rintro e u' E⟨rfl,rfl,rfl⟩;exact⟨_,Kb rfl _ _ _,rfl,SFto.CO z.o 0 _ λlv h=>h.s0 0⟩
def SF.dJ{n:Int}{w2:gx}(h:Ap w FT w2 (λw' d=>SF w' sb ab b 1 ld wc A7 ro L A P d)):Ap w FT (w2.setCell (A9 sb 0) (.int .i32 n)) (λw' d=>SF w' sb ab b n ld wc A7 ro L A P d):=SFto.CO h 0 _ λ_ h=>h.s0 n
def On(z:gx)(h:SF z sb ab b 0 ld wc A7 true L A P FT)(E:gy):
 Calls Tryz.prog 64 #[.pointer (some ⟨sb,0,none⟩),E] (z.setCell ⟨sb,0,none⟩ (.int .i32 1)) λe w'=>e=.returned (.int .i64 4)/\w'.cell? ⟨sb,0,none⟩=some (.int .i32 1)/\w'.frozen? ⟨sb,0,none⟩=false/\Ap z FT w' (λw' d=>SF w' sb ab b 1 ld wc A7 true L A P d):=by
 have O:=h.bH;obtain⟨I,X,s1,s2,s3⟩:=O;obtain⟨lv,F0,q,W⟩:=s1;refine(V7 _ E q.Ae).k ?_;rintro w' rfl;exact⟨rfl,q.Ae.c0,q.Ae.fz 0,I,X,⟨lv,F0,q,W⟩,s2,s3⟩
def Ux(w:gx)(h:SF w sb ab b 0 ld wc A7 true L A P FT)(_hFT:∀k,FT k->k<w.heap.size):
 Ag 24 #[A5 sb] w (Aj (A0 4) λw'=>Ap w FT w' (λw' d=>SF w' sb ab b 0 ld wc A7 true L A P d)):=by
 obtain⟨c0,f0,X,-⟩:=h.c0;refine(Rt w 4 (λw'=>Ap w FT w' (λw' d=>SF w' sb ab b 1 ld wc A7 true L A P d)) c0 f0 X λw1 E=>?_).mono ?_
 ·subst E;have I:=(A4.C Aa w).aj (.cells #[A5 sb] 36);refine(On _ (h.ak I) _).k ?_;rintro w'⟨O,z,W⟩;exact⟨rfl,O,z,W.a1 I⟩
 ·rintro e w'⟨rfl,w2,z,rfl⟩;exact⟨rfl,SF.dJ z⟩
def A25(w:gx)(h:SF w sb ab b 0 ld wc A7 true L A P FT)(_hFT:∀k,FT k->k<w.heap.size):
 Ag 25 #[A5 sb] w (Aj (A0 4) λw'=>Ap w FT w' (λw' d=>SF w' sb ab b 0 ld wc A7 true L A P d)):=by
 obtain⟨c0,f0,X,-⟩:=h.c0;refine(Rv w 4 (λw'=>Ap w FT w' (λw' d=>SF w' sb ab b 1 ld wc A7 true L A P d)) c0 f0 X λw1 E=>?_).mono ?_
 ·subst E;have I:=(A4.C Aa w).aj (.cells #[A5 sb] 36);refine(On _ (h.ak I) _).k ?_;rintro w'⟨O,z,W⟩;exact⟨rfl,O,z,W.a1 I⟩
 ·rintro e w'⟨rfl,w2,z,rfl⟩;exact⟨rfl,SF.dJ z⟩
def Xg(w:gx)(h:SF w sb ab b 0 ld wc A7 true L A P FT):
 Ag 31 #[A5 sb] w (Aj (A0 4) λw'=>Ap w FT w' (λw' d=>SF w' sb ab b 0 ld wc A7 true L A P d)):=by
 obtain⟨c0,f0,hz,-⟩:=h.c0;have z:=h.bH;have c2:A8 (w.sC sb 0 (.int .i32 1)) sb 2 (A5 ab):=by
  obtain⟨k1,F1,s1,s2,s3⟩:=z;exact s1.c0.2.2.2
 refine(Rs w 4 (λw'=>Ap w FT w' (λw' d=>SF w' sb ab b 1 ld wc A7 true L A P d)) c0 f0 c2 (On _ h _)).k ?_;rintro w'⟨w2,E,rfl⟩;exact⟨rfl,SF.dJ E⟩
end
end
section
open Go.RowKit
attribute [local go_sem ↓] Go.wp_at_zero Go.wp_at_succ
def A2K(w:gx)(b:Nat)(D:DS)(F:Nat->FC)(Ft:Nat->Prop)(h:Dj w b D F Ft)(hs:D.A6.length<549755813888/\D.AF.length<549755813888/\∀l∈D.As,l.length<1099511627776)(bR:∀l:gD Nat,l.Nodup->(∀f∈l,D.Aq f)->l.length<1099511627776)(hs2:D.As.length<1099511627776)(hF:∀f,D.Aq f->(F f).1.length<=1099511627776):
 Ag 47 #[A5 b] w λe w'=>∃b2 r bF aL,e=.returned (A5 b2)/\Dj w' b2 (D.ren r) bF aL/\(∀k,aL k->w.heap.size<=k/\k<w'.heap.size)/\A4 Aa w w'/\
  (∀f,D.Aq f->bF (r f)=F f)/\∀f f',D.Aq f->D.Aq f'->r f=r f'->f=f':=by
 obtain⟨vd,vs,vc,vals,bH,Y,hft⟩:=h;obtain⟨hsA,hsB,bS⟩:=hs;have bX:=A1 bS;have bU:=A1 bR;have aA:=A1 Y;have bK:=A1 hF;have c0:=Y.Ae.c0;have c1:=Y.Ae.c1;have c2:=Y.Ae.c2;have c3:=Y.Ae.c3;have c4:=Y.Ae.c4;have c5:=Y.Ae.c5;have c6:=Y.Ae.c6;have c7:=Y.Ae.c7;have c8:=Y.Ae.c8;have c9:=Y.Ae.c9;have c10:=Y.Ae.bt;obtain⟨ac,pc,rfl,hc1,bP,aJ,hcnone,hcform⟩:=B8 Y.Am;unfold maxLen at bP;have aX:=A1 aJ
 have bY:Hid (∀(vl:gy) (es:gD AO) (W:gx) (L M:gD Nat) (vo vm:gy) (aS:Nat->gy),Dd w vl es->(∀f,Dp f es->D.Aq f)->es.length<1099511627776->A4 Aa w W->CS w.heap.size W (w.heap.size+1) (w.heap.size+2) F L M vo vm aS->L.length<1099511627776->
  Ag 87 #[vl,A5 (w.heap.size+1),A5 (w.heap.size+2)] W λe w'=>∃v b1 bZ a4 a8 a7 bM,e=.returned v/\EP w.heap.size W (w.heap.size+1) (w.heap.size+2) F L M vo vm aS es es.length es.length v w' b1 bZ a4 a8 a7 bM):=
  λvl es W L M vo vm aS h1 h2 h3 h4 h5 h6=>ZC aA.o h4 h5 h1 h2 bK.o ⟨h3,h6⟩
 have bW:Hid (∀W,A4 Aa w W->W.cell? (A9 b 0)=some vd/\W.cell? (A9 b 1)=some vs):=λW hc=>
  ⟨(DO (hc.Al b aA.o.Ae.lt (λh=>h))).trans aA.o.Ae.c0,(DO (hc.Al b aA.o.Ae.lt (λh=>h))).trans aA.o.Ae.c1⟩
 have a9:w.heap.size≠b:=by have:=aA.o.Ae.lt;omega
 go_enter func47,ntmps47
 go_wp2;refine KU 33 (by kernel_rfl) (by kernel_rfl) ?_;simp only[LM,FJ,Fp,DH,Dl]
 repeat still_step
 refine KV ?_;go_wp2;generalize bQ:(((w.alloc (.cells #[.slice none 0 0,.slice none 0 0,.slice none 0 0,A0 D.n.Av,A0 D.n.Bc,A0 D.n.CW,A0 D.n.E0,A0 D.n.BG,A0 D.n.Bk,A0 D.n.fulls,.bool D.n.Bh] 95)).alloc (.cells #[.slice none 0 0] 138)).alloc (.cells #[.slice none 0 0] 138)).drew=W1;have⟨cs1,hb1,hc1W⟩:=A2J w D.n F bH W1 bQ.symm;have bT:=A1 hb1;have aD:=A1 cs1;have O:=A1 hc1W;refine FN (λw'=>w'.cell? (A9 b 0)=some vd/\w'.cell? (A9 b 1)=some vs) 17
  (Ba [0,1,2,3,4,5,6,8,9,10,11,12,7,13,14,15,16] [7,13,16]) (by kernel_rfl) (by kernel_rfl) (λ_ _ _ _ _ h=>h) (bW.o _ O.o.aa) ?_
 iterate 12 (refine E1 (v:=?_) rfl (by rfl) ?_ ?_;rotate_left;(· (intro w' X;(try dsimp only at X);go_simp;try with_reducible rfl));(try simp only[BO]))
 refine Dv rfl (by rfl) (λK hK=>?_);go_simp;refine(bY.o vd D.A6 _ _ _ _ _ _ aA.o.A6 (λf hf=>.inl hf) (by omega) O.o.aa (aD.o.Am (A4.C Aa W1).aa (λ_ _ h=>h) (λ_ _ h=>h)) (by simp)).mono ?_;rintro e w2⟨v1,L,M,vo,vm,a7,e1,rfl,aN⟩;obtain⟨a1,k1,rfl,-⟩:=Dd.BW aN.Ff;have aQ:=A1 aN;have aR:=A1 <| aN.cI O.o.aa (aD.o.Am (A4.C Aa W1).aa (λ_ _ h=>h) (λ_ _ h=>h));have hL:L.length<=D.A6.length:=by
  have⟨o,q1,q2,_⟩:=aN.H3;rw[q1];simpa using q2
 refine hK _ _ (bW.o _ aR.o) (λX=>?_)
 (try simp only[BO])
 refine Dv rfl (by rfl) (λK hK=>?_);go_simp;refine(bY.o vs D.AF _ _ _ _ _ _ aA.o.AF (λf hf=>.inr (.inl hf)) (by omega) aR.o aQ.o.cs (by omega)).mono ?_;rintro e w3⟨v2,b1,bZ,a4,a8,VB3,e2,rfl,aT⟩;obtain⟨a2,k2,rfl,-⟩:=Dd.BW aT.Ff;have a3:Hid (A4 Aa w w3):=aT.cI aR.o aQ.o.cs;have aK:=A2I (aD.o.Am (A4.C Aa W1).aa (λ_ _ h=>h) (λ_ _ h=>h)) ((bT.o:AM W1.drew _ _ _ _ _)) O.o.aa aQ.o aT;have z0:=aK.1.c0;have z1:=aK.1.c1;have zf:=aK.1.fz;have bE:=A1 aK.2;refine hK _ _ (bW.o _ a3.o) (λX=>?_);obtain⟨s0,s1⟩:=X
 (try simp only[BO])
 iterate 2 (refine E1 (v:=?_) rfl (by rfl) ?_ ?_;rotate_left;(· (intro w' X;(try dsimp only at X);go_simp;try with_reducible rfl));(try simp only[BO]))
 refine Dv rfl (by rfl) (λK hK=>?_);go_simp;refine hK _ _ ?_ (λX=>?_)
 ·simp[World.cell?_setCell_far,a9,s0,s1]
 (try simp only[BO])
 have c2b:w3.cell? (A9 b 2)=some (.slice ac D.As.length pc):=(DO (a3.o.Al b aA.o.Ae.lt (λh=>h))).trans c2;refine Fx ?_;simp only[DH,Dl];go_wp2;generalize hW4:(w3.setCell (A9 w.heap.size 0) (.slice a1 e1.length k1)).setCell (A9 w.heap.size 1) (.slice a2 e2.length k2)=W4 at bE ⊢;go_loopw [67] (λiv wr=>∃i:Nat,i<=D.As.length/\iv=A0 i/\Hid (∃L M vo vm z bH d cs,CR w.heap.size w wr w.heap.size (w.heap.size+1) (w.heap.size+2) D F i L M vo vm (.slice a1 e1.length k1) (.slice a2 e2.length k2) z bH d e1 e2 cs)) (λiv _=>D.As.length-(intOf iv).toNat)
 ·exact⟨0,Ch _,rfl,_,_,_,_,_,_,_,_,bE.o⟩
 ·obtain⟨i,hi,rfl,bD⟩:=hrel;by_cases aG:i<D.As.length
  ·have⟨L3,M3,vo3,vm3,z,VB4,d,cs,k0⟩:=bD.o;have aI:=A1 k0;obtain⟨gc,rfl⟩:=aX.o (by omega);have⟨vk,hvk,hek⟩:=aA.o.Di i aG;have bL:=Aw aA.o.Am (g:=gc) rfl;have m1:wr.cell? (A9 gc i)=some vk:=(DO (k0.Am.Al gc bL (λh=>h))).trans (Bv aA.o.Am (g:=gc) rfl hvk);obtain⟨E,I,rfl,hk1,hk2,-⟩:=Dd.BW hek;have bA:=A1 hek;obtain⟨es,aF⟩:∃es,D.As[i]'aG=es:=⟨_,rfl⟩;(have bB:es.length<1099511627776:=by rw[<-aF];exact bX.o _ (BV aG));have bI:L3.length<1099511627776:=bU.o _ k0.H8.IH k0.TR;rw[aF]at bA;have bV:=A1 aF;have aY:Hid (∀f,Dp f es->D.Aq f):=λf hf=>.inr (.inr ⟨_,BV aG,aF ▸ hf⟩);have hi0:=BJ i;(have hi1:(i:Int)<(D.As.length:Int):=by omega);rw[aF]at m1;have⟨p0,hp,hp0,hp1,hp2⟩:=DL Tryz.en;have hsz:w.heap.size<wr.heap.size:=aI.o.Ae.lt;have aM:Hid (CS w.heap.size ((wr.alloc (.cells #[.slice E es.length I] 120)).drew) (w.heap.size+1) (w.heap.size+2) F L3 M3 vo3 vm3 VB4):=aI.o.H8.Am ((A4.C Aa wr).aj (.cells #[.slice E es.length I] 120)).aa (λ_ _ h=>h) (λ_ _ h=>h);have bG:Hid (A4 Aa w ((wr.alloc (.cells #[.slice E es.length I] 120)).drew)):=(aI.o.Am.aj (.cells #[.slice E es.length I] 120)).aa;have aZ:=Bl wr (.cells #[.slice E es.length I] 120);(have n0:(wr.alloc (.cells #[.slice E es.length I] 120)).cell? (A9 wr.heap.size 0)=some (.slice E es.length I):=by unfold World.cell?;rw[aZ];rfl);have n1:(wr.alloc (.cells #[.slice E es.length I] 120)).cell? (A9 w.heap.size 2)=some z:=(aI.o.Ae.aj (.cells #[.slice E es.length I] 120)).c2;have b0:=A1 aZ;go_wp2;refine FN (λw'=>w'.cell? (A9 w.heap.size 2)=some z/\w'.cell? (A9 wr.heap.size 0)=some (.slice E es.length I)) 12
    (Ba [0,1,2,3,4,5,6,7,8,9,10,11] [8,10,11]) (by kernel_rfl) (by kernel_rfl) (λ_ _ _ _ _ h=>h) ⟨n1,n0⟩ ?_
   iterate 8 (refine E1 (v:=?_) rfl (by rfl) ?_ ?_;rotate_left;(· (intro w' X;(try dsimp only at X);go_simp;try with_reducible rfl));(try simp only[BO]))
   refine Dv rfl (by rfl) (λK hK=>?_);go_simp;refine(bY.o _ es _ _ _ _ _ _ bA.o aY.o bB bG.o aM.o bI).mono ?_;rintro e w5⟨v5,L5,M5,vo5,vm5,VB5,aE,rfl,aB⟩;obtain⟨a5,k5,rfl,-⟩:=Dd.BW aB.Ff;have bN:=A1 aB;have bC:AM w5 w.heap.size (.slice a1 e1.length k1) (.slice a2 e2.length k2) z D.n:=
    (aB.Am.Al _ (by simp;omega) (aM.o.ca (aI.o.Ae.aj (.cells #[.slice E es.length I] 120)) (.inr (.inr rfl)))).trans (aI.o.Ae.aj (.cells #[.slice E es.length I] 120))
   have a0:w5.heap[wr.heap.size]?=some (.cells #[.slice E es.length I] 120 (0,0)):=(aB.Am.Al _ (by simp) (aM.o.ca b0.o (.inr (.inl rfl)))).trans b0.o;have aO:w5.ownsRow 0 120 1 z i d:=Au aI.o.ch λg hg=>by
    have⟨c,hh⟩:=Bb aI.o.ch hg;have h1:((wr.alloc (.cells #[.slice E es.length I] 120)).drew).heap[g]?=some (Obj.cells c 120 (0,0)):=(CY _ _ _ (By hh)).trans hh;exact((aB.Am.Al _ (By h1) (aM.o.ca h1 (.inr (.inl rfl)))).trans h1).trans hh.symm
   have p1:=bC.c2;(have p2:w5.cell? (A9 wr.heap.size 0)=some (.slice E es.length I):=by simp[World.cell?,a0]);have aH:=A1 bC;have aV:=A1 a0;have aP:Hid ((w5.alloc (.cells #[.slice a5 aE.length k5] 120)).ownsRow 0 120 1 z i d):=Au aO λg hg=>CY _ _ _ (Aw aO hg);have aU:Hid (∀w6 v6 n xs,App (w5.alloc (.cells #[.slice a5 aE.length k5] 120)) w6 120 1 z v6 n xs->(w6.cell? (A9 w.heap.size 2)=some z/\w6.cell? (A9 wr.heap.size 0)=some (.slice E es.length I))/\w6.frozen? (A9 w.heap.size 2)=false):=by
    intro w6 v6 n xs hA
    have x1:w6.heap[w.heap.size]?=w5.heap[w.heap.size]?:=(hA.C7.block _ (by have:=aH.o.lt;simp;omega) (λe=>by
     have⟨c,hh⟩:=Bb aP.o e.symm
     exact BR hh (aH.o.aj _) (by decide) rfl)).trans (CY _ _ _ aH.o.lt)
    have x2:w6.heap[wr.heap.size]?=w5.heap[wr.heap.size]?:=(hA.C7.block _ (by have:=By aV.o;simp;omega) (λe=>by
     have:=Aw aI.o.ch e.symm;omega)).trans (CY _ _ _ (By aV.o))
    exact⟨⟨(DO x1).trans aH.o.c2,by simp[World.cell?,x2,aV.o]⟩,(aH.o.aw x1).fz 2⟩
   have bO:Hid (Src Tryz.prog 1 93 (AA w5.heap.size 1 1) 1 [.slice a5 aE.length k5] (w5.alloc (.cells #[.slice a5 aE.length k5] 120))):=
    Src.bc underlying93 w5 #[.slice a5 aE.length k5] 120 w5.heap.size rfl 1 1 rfl (by simp[Value.oneCell'])
   (have bJ:(i+1)*24<=140737488355328:=by omega);refine hK _ _ ⟨p1,p2⟩ (λX=>?_)
   (try simp only[BO])
   (refine E1 (v:=?_) rfl (by rfl) ?_ ?_;rotate_left;(· (intro w' X;(try dsimp only at X);go_simp;try with_reducible rfl));(try simp only[BO]))
   refine Dv rfl (by rfl) (λK hK=>?_);go_simp;refine hK _ _ ?_ (λX=>?_)
   ·simp[World.cell?_alloc_some,p1,p2]
   (try simp only[BO])
   refine Dv rfl (by rfl) (λK hK=>?_);refine HP (.tmp 75) (.tmp 81) 93 93 (by rfl) 120 p0 _ 1 24 underlying93 hp hp0 hp1 hp2 rfl (by decide) z i d (by rfl) aP.o _ 1 _ (by rfl) bO.o bJ ?_;intro a6 k6 w6 hA;have⟨r1,r2⟩:=aU.o _ _ _ _ hA;have aW:=A1 (aI.o.ba (nq:=0) aG bV.o (((A4.C Aa wr).aj (.cells #[.slice E es.length I] 120)).aa) bN.o hA);refine hK _ _ r1 (λX=>?_);obtain⟨r1,-⟩:=r1
   (try simp only[BO])
   refine Fx ?_;simp only[DH,Dl];go_wp2;go_roundw
   ·exact⟨i+1,by omega,by go_num,_,_,_,_,_,_,_,_,aW.o⟩
   ·simp[intOf];omega
  ·(obtain rfl:i=D.As.length:=by omega);have⟨L3,M3,vo3,vm3,z,VB4,d,cs,k0⟩:=bD.o;have⟨r,bF,aL,q1,q2,q3,q4,q5⟩:=k0.fs;have b6:=A1 q1;have b7:=A1 q2;have b4:=A1 q4;have b5:=A1 q5;have b3:=A1 q3;go_wp2;go_ret;exact⟨_,r,bF,aL,rfl,b6.o,b7.o,b3.o,b4.o,b5.o⟩
def Tg:∀ {l m:gD Nat},l.Nodup->(∀x∈l,x∈m)->l.length<=m.length
 | [],_,_,_=>Ch _
 | x::r,m,h,hs=>by
  have E:=hs x (BI ..);have z:=JR.1 h;have:=Tg (m:=m.erase x) z.2 λy d=>(VW λe=>z.1 (by rw[<-e];exact d)).2 (hs y (BC _ d))
  rw[A4C E]at this;have:=A4B E;simp only[CA];omega
def Wn(D:DS)(F:Nat->FC):Prop:=∃K,K<1099511627776/\(∀f,D.Aq f->f<K)/\D.A6.length<549755813888/\D.AF.length<549755813888/\(∀l∈D.As,l.length<1099511627776)/\D.As.length<1099511627776/\∀f,D.Aq f->(F f).1.length<=1099511627776
def UU{w:gx}{b:Nat}{D:DS}{F:Nat->FC}{Ft:Nat->Prop}(h:AW w b D F Ft)(hC:Wn D F):
 Ag 47 #[A5 b] w λe w'=>∃X z,e=.returned (A5 X)/\AW w' X D F z/\(∀k,z k->w.heap.size<=k/\k<w'.heap.size)/\A4 Aa w w':=by
 obtain⟨r,G,h1,h2,h3⟩:=h;obtain⟨K,c1,c2,c3,c4,c5,c6,c7⟩:=hC;have⟨l1,l2,l3,l4⟩:=Kt D r
 refine(A2K w b _ G Ft h1 ⟨by rw[l1];exact c3,by rw[l2];exact c4,λl Y=>?_⟩ (λl hn Y=>?_) (by rw[l3];exact c6) (λf' d=>by
  obtain⟨f,E,rfl⟩:=DS.cZ d
  rw[h2 f E];exact c7 f E)).mono ?_
 ·obtain⟨l0,E,rfl⟩:=Cl.1 Y;rw[Jl];exact c5 l0 E
 ·have:=Tg (m:=(List.range K).map r) hn λx I=>by
   obtain⟨f,E,rfl⟩:=DS.cZ (Y x I);exact Ed (KH.2 (c2 f E))
  rw[Fq,A4A]at this;omega
 rintro e w'⟨X,W,aA,z,E,q2,q3,q4,q5,q6⟩;have L:(D.ren r).ren W=D.ren (λf=>W (r f)):=by
  have e:∀es:gD AO,Go.Proofs.YtodcnkbblippnaaGreatDoor.ren W (Go.Proofs.YtodcnkbblippnaaGreatDoor.ren r es)=Go.Proofs.YtodcnkbblippnaaGreatDoor.ren (λf=>W (r f)) es:=λes=>by simp[Go.Proofs.YtodcnkbblippnaaGreatDoor.ren]
  simp only[DS.ren,e,VX]
  congr 1
  exact NB λc _=>e c
 have hid:∀f,D.Aq f->(D.ren r).Aq (r f):=by
  rintro f (⟨x,I,rfl⟩|⟨x,I,rfl⟩|⟨c,hc,x,I,rfl⟩)
  ·exact .inl ⟨_,Ed I,rfl⟩
  ·exact .inr (.inl ⟨_,Ed I,rfl⟩)
  ·exact .inr (.inr ⟨_,Ed hc,_,Ed I,rfl⟩)
 refine⟨X,z,E,⟨λf=>W (r f),aA,L ▸ q2,λf O=>?_,λf f' O d e=>?_⟩,q3,q4⟩
 ·rw[q5 (r f) (hid f O),h2 f O]
 ·exact h3 f f' O d (q6 _ _ (hid f O) (hid f' d) e)
def PB.eg{P:PD}{t:Nat}(h:PB P t)(ht:t<=330000):Wn P.D P.F:=
 ⟨700000*(t+1),by omega,h.Aq,by have:=h.CZ.A6;omega,by have:=h.CZ.AF;omega,λl z=>by have:=h.CZ.FW l z;omega,by have:=h.CZ.Am;omega,λf d=>by have:=h.CZ.Be f d;omega⟩
def Dt{S:Nat->Prop}{w w':gx}(E:A4 S w w'){x o:Nat}{u:gy}(h:A8 w x o u)(d:¬S x):A8 w' x o u:=by
 have z:=GO w _ h;exact(DO (E.Al x z d)).trans h
def Ap.b5{w w':gx}{Ft:Nat->Prop}{R z:gx->(Nat->Prop)->Prop}(h:Ap w Ft w' R)(L:∀d,R w' d->z w' d):Ap w Ft w' z:=by
 obtain⟨I,F,E,O⟩:=h;exact⟨I,F,L F E,O⟩
def Live(t M sb ab b:Nat)(ld wc A7:Int):Kind:=λw FT=>∃d L A P q Ad,SF w sb ab b 0 ld wc A7 d L A P FT/\(d=false->St t A P q Ad (AN A7 ld) false/\(∀k,k<8->(L k).length<=t)/\q.length<=M)
section
variable{w:gx}{t M N B sb ab b:Nat}{ld wc A7:Int}{FT:Nat->Prop}
def A0H(w:gx)(p:Pu)(h:Live t M sb ab b ld wc A7 w FT)(d:∀k,FT k->k<w.heap.size)(Y:t+1<=330000)(O:Bm p)(hL:Lets B w)(W:∀k,FT k->B<=k)(hl:1<=ld/\ld<=4611686018427387904)(hc:Ay A7):
 Ag 23 #[A5 sb,A0 p.1,A0 p.2.1,A0 p.2.2] w λe w'=>(∃c,e=.returned (A0 c))/\Ap w FT w' (Live (t+1) (M+1) sb ab b ld wc A7):=by
 obtain⟨ro,L,A,P,q,Ad,h1,h2⟩:=h;cases ro with
 | true=>
  refine(SA w p.1 p.2.1 p.2.2 h1 d O.1).k ?_;rintro w' X;exact⟨⟨_,rfl⟩,X.b5 λF E=>⟨true,L,A,P,q,Ad,E,λe=>by cases e⟩⟩
 | false=>
  have⟨hS,hk,hq⟩:=h2 rfl;obtain⟨-,-,-,-,-,a6,-⟩:=hS.af Y p O;refine(Sy w p h1 d hS Y O hL W hk hl hc).k ?_;rintro w' X;refine⟨⟨_,rfl⟩,X.b5 λF E=>⟨_,_,_,_,q++[p],Ad,E,λe=>?_⟩⟩;have z:(A.af P p).2.1=0:=by
   by_cases z:(A.af P p).2.1=0
   ·exact z
   ·rw[Cu z]at e;cases e
  have⟨b1,b2⟩:=a6 z;refine⟨b2,λk I=>?_,by simp;omega⟩;rw[Ai b1];have:=P8 L (AN A7 ld) p.1.toNat p.2.1 p.2.2 k;have:=hk k I;omega
def A0I(O:Gc N)(hN:N<=330000)(w:gx)(h:Live t M sb ab b ld wc A7 w FT)(d:∀k,FT k->k<w.heap.size)(Y:t+1<=330000)(hM:M<=N)(hw:1<=wc/\wc<=4611686018427387904)(hL:Lets B w)(W:∀k,FT k->B<=k):
 Ag 24 #[A5 sb] w λe w'=>(∃c,e=.returned (A0 c))/\Ap w FT w' (Live (t+1) M sb ab b ld wc A7):=by
 obtain⟨ro,L,A,P,q,Ad,h1,h2⟩:=h;cases ro with
 | true=>
  refine(Ux w h1 d).k ?_;rintro w' X;exact⟨⟨_,rfl⟩,X.b5 λF E=>⟨true,L,A,P,q,Ad,E,λe=>by cases e⟩⟩
 | false=>
  have⟨hS,hk,hq⟩:=h2 rfl;obtain⟨-,-,-,-,a5⟩:=hS.aS (Ga wc) Y;refine(Uw O hN w h1 d hS Y (by omega) hw hL W).k ?_;rintro w' X;refine⟨⟨_,rfl⟩,X.b5 λF E=>⟨_,_,_,_,q,q.length,E,λe=>?_⟩⟩;have z:(A.aS P wc).1=0:=by
   by_cases z:(A.aS P wc).1=0
   ·exact z
   ·rw[Cu z]at e;cases e
  exact⟨a5 z,λk I=>by have:=hk k I;omega,hq⟩
end
def PD.b2(P:PD):PD:=⟨{P.D with n:=EO {P.D.n with CW:=if (0:Int)>0 then wrap64 (P.D.n.Bc+0) else 0} 0 0},P.F⟩
section
variable{wb b t N B:Nat}{n:WN}{P:PD}{Ft:Nat->Prop}{ld wa A7:Int}{q:gD Pu}{Ad:Nat}
def X6(b8:Gc N)(hN:N<=330000)(w:gx)(h:AS w wb n)(b1:n.dv=(A5 b))(bG:n.Cx=A7)(hd:Bu w b P Ft)(bH:∀k,Ft k->k<w.heap.size)(hp:PB P t)(X:DI (Cs t) P q Ad (AN A7 ld))(hr:Reads (Cs t) P q (AN A7 ld))(hq:∀p∈q,Bm p)(bV:q.length<=t)(bR:Ad<=q.length)(aF:P.D.n.Bh=false)(ht:t+3<=330000)(bS:q.length+2<=N)(hE:Env B w)(hl:1<=ld/\ld<=4611686018427387904)(hw:1<=wa/\wa<=4611686018427387904)(hc:Ay A7):
 Ag 46 #[A5 wb,.agg #[A0 ld,A0 wa]] w (Aj (.tuple #[]) λw'=>A4 Aa w w'):=by
 have hA:=(A4.C Aa w).aj (.cells #[A0 ld,A0 wa] 48);have aH:=Bl w (.cells #[A0 ld,A0 wa] 48);have bJ:(w.alloc (.cells #[A0 ld,A0 wa] 48)).heap.size=w.heap.size+1:=by simp
 generalize hw0:(w.alloc (.cells #[A0 ld,A0 wa] 48))=w0 at hA aH bJ;have aM:Hid (w.heap.size<w0.heap.size/\wb<w0.heap.size):=⟨by omega,by have:=h.lt;omega⟩;have q0:A8 w0 w.heap.size 0 (A0 ld):=D7 aH;have q1:A8 w0 w.heap.size 1 (A0 wa):=D7 aH;have c4:=(h.ak hA).c4;rw[b1]at c4;have cG:=A1 (UU (AW.aw hd bH hA) (hp.eg (by omega)));have H:=A1 h;have aX:=A1 hE;have aE:=A1 hA
 have bF:Hid (∀(E:gx) (I:Nat) (z:Nat->Prop),Bu E I P.b2 z->(∀k,z k->k<E.heap.size)->Env B E->Ag 22 #[A5 I,.agg #[A0 ld,A0 wa],A0 A7] E λe w'=>
  ∃ab sb,e=.returned (.tuple #[A5 sb,A0 0])/\E.heap.size<=sb/\Ap E z w' (Live t q.length sb ab I ld wa A7)):=λE I z g1 g2 g3=>by
  have b6:PB P.b2 t:=hp.bT _ rfl ⟨by simp[EO],by simp[EO]⟩ rfl rfl;refine(T9 (t:=t) (pd:=q) (Ad:=Ad) E z g1 g2 b6 ⟨X.DZ,X.Aq,X.Cg,X.CH⟩ (hr.aw λ_=>rfl) hq bV bR aF (by omega) g3 hl hw hc).mono ?_;rintro e w'⟨A,ab,sb,L,rfl,k1,-,k2,k3,k4,k5⟩;exact⟨ab,sb,rfl,k1,k5.b5 λF k6=>⟨false,L,A,_,q,Ad,k6,λ_=>⟨k2,k4,Ao _⟩⟩⟩
 have a6:Hid (∀(W:gx) (sb ab I t' M:Nat) (FT:Nat->Prop) (p:Pu),Bm p->t'+1<=330000->Live t' M sb ab I ld wa A7 W FT->(∀k,FT k->k<W.heap.size)->Lets B W->(∀k,FT k->B<=k)->
  Ag 23 #[A5 sb,A0 p.1,A0 p.2.1,A0 p.2.2] W λe w'=>(∃c,e=.returned (A0 c))/\Ap W FT w' (Live (t'+1) (M+1) sb ab I ld wa A7)):=λW sb ab I t' M FT p g1 g2 g3 g4 g5 g6=>A0H W p g3 g4 g2 g1 g5 g6 hl hc
 have cA:Bm ((0:Int),A7,(4626322:Int)):=⟨⟨by simp,by simp⟩,hc,(show Ay 4626322 from ⟨by decide,by decide⟩)⟩;have a8:Bm ((7:Int),(0:Int),(4626322:Int)):=⟨⟨by simp,by simp⟩,(show Ay 0 from ⟨by decide,by decide⟩),(show Ay 4626322 from ⟨by decide,by decide⟩)⟩;have cB:=A1 cA;have bW:=A1 a8;have b5:=A1 ht;have cC:=A1 bS;have bK:=A1 hN;have bX:=A1 hw
 go_enter func46,ntmps46
 go_wp2_with (first
  | (go_at_call 47;refine cG.m ?_;rintro e w1⟨I,Ft2,rfl,bU,aS,bN⟩;have a9:=A1 bU;have aA:=A1 aS;have aV:=A1 bN)
  | (go_at_call 35;refine(UO a9.o 0).k ?_;rintro w2⟨aY,bA,aQ,aW,aN⟩
     have bI:=A1 aQ;have a7:Hid (∀k,bA k->w0.heap.size<=k/\k<w2.heap.size):=λk d=>⟨(aN k d).elim (λh=>(aA.o k h).1) (λh=>AP aV.o.Ak h),aW k d⟩
     have aT:Hid (A4 Aa w0 w2):=aV.o.bW aY (λx hx=>(aA.o x hx).1)
     clear aY aQ aW aN)
  | (go_at_call 78;refine(UB bI.o 0 0).k ?_;rintro E⟨aU,z,a4,a1,a0⟩
     have bD:Hid (Bu E I P.b2 z):=a4;have aI:Hid (∀k,z k->w0.heap.size<=k/\k<E.heap.size):=λk d=>⟨(a0 k d).elim (λh=>(a7.o k h).1) (λh=>AP aT.o.Ak h),a1 k d⟩
     have O:Hid (A4 Aa w0 E):=aT.o.bW aU (λx hx=>(a7.o x hx).1)
     clear aU a4 a1 a0))
 have d0:=O.o.ah q0;have d1:=O.o.ah q1;have d10:=(H.o.ak (aE.o.tr O.o)).bt;rw[bG]at d10;have bE:Bu E.drew I P.b2 z:=AW.aw bD.o (λk d=>(aI.o k d).2) (A4.C Aa E).aa;have cH:=A1 (bF.o E.drew I z bE (λk d=>(aI.o k d).2) ((aX.o.aL aE.o).aL (O.o.AH (A4.C Aa E).aa λ_ h _=>h)));refine Br (λw'=>A8 w' w.heap.size 0 (A0 ld)/\A8 w' w.heap.size 1 (A0 wa)/\A8 w' wb 10 (A0 A7)) 11
  (Ba [0,1,2,3,4,5,6,7,8,9,10] [6]) ⟨d0,d1,d10⟩ ?_
 iterate 6 refine B4 ?_
 refine Bf λK hK=>?_;go_simp;refine cH.m ?_;rintro e W⟨ab,sb,rfl,hsb,hI⟩;have aL:B<=w0.heap.size:=AP aX.o.1.1 aE.o.Ak;have aK:Hid (∀k,z k->w0.heap.size<=k):=λk d=>(aI.o k d).1
 obtain⟨Y,a2,bL,a3,bM⟩:=hI;have aD:Hid (∀k,a2 k->w0.heap.size<=k):=λk d=>(bM k d).elim (aK.o k) λh=>AP O.o.Ak h
 have aJ:Hid (A4 Aa w0 W):=(O.o.AH (A4.C Aa E).aa λ_ h _=>h).bW Y aK.o;have ff:∀x,x<w0.heap.size->¬z x:=λx hx d=>by have:=aK.o x d;omega
 have x0:=Dt Y d0 (ff _ aM.o.1);have x1:=Dt Y d1 (ff _ aM.o.1);have bP:=Dt Y d10 (ff _ aM.o.2);refine hK _ _ ⟨x0,x1,bP⟩ (λhS=>?_);have bY:Hid (Env B W):=(aX.o.aL aE.o).aL aJ.o;have cE:=A1 (a6.o W sb ab I t q.length a2 _ cB.o (by have:=b5.o;omega) bL a3 bY.o.1 λk d=>AP aL (aD.o k d))
 iterate 4 refine B4 ?_
 refine Bo ?_;go_wp2_with (fail);refine cE.m ?_;rintro e w5⟨⟨c1,rfl⟩,bQ,a5,b9,aZ,bB⟩;have aB:Hid (∀k,a5 k->w0.heap.size<=k):=λk d=>(bB k d).elim (aD.o k) λh=>AP aJ.o.Ak h
 have aG:Hid (A4 Aa w0 w5):=aJ.o.bW bQ aD.o;have b0:Hid (Env B w5):=(aX.o.aL aE.o).aL aG.o;have cF:=A1 (a6.o w5 sb ab I (t+1) (q.length+1) a5 _ bW.o (by have:=b5.o;omega) b9 aZ b0.o.1 λk d=>AP aL (aB.o k d));go_wp2_with (fail);refine cF.m ?_;rintro e w6⟨⟨c2,rfl⟩,bC,bT,b7,aR,b3⟩;have aO:Hid (∀k,bT k->w0.heap.size<=k):=λk d=>(b3 k d).elim (aB.o k) λh=>AP aG.o.Ak h
 have aP:Hid (A4 Aa w0 w6):=aG.o.bW bC aB.o;have bZ:Hid (Env B w6):=(aX.o.aL aE.o).aL aP.o;have cD:=A1 (A0I b8 bK.o w6 b7 aR (by have:=b5.o;omega) (by have:=cC.o;omega) bX.o bZ.o.1 λk d=>AP aL (aO.o k d));go_wp2_with (fail);refine cD.m ?_;rintro e w7⟨⟨c3,rfl⟩,bO,-⟩;have b4:Hid (A4 Aa w0 w7):=aP.o.bW bO aO.o;go_wp2;go_end0;exact⟨rfl,aE.o.tr b4.o⟩
end
def A2O{ld wa:Int}(hl:1<=ld/\ld<=4611686018427387904)(hw:1<=wa/\wa<=4611686018427387904):JH ld wa=true:=by simp[JH];omega
def A2P{ld wa:Int}(h:¬((1<=ld/\ld<=4611686018427387904)/\(1<=wa/\wa<=4611686018427387904))):JH ld wa=false:=by
 simp only[JH,A2g];omega
section
variable{w w':gx}{wb:Nat}{n:WN}{b:Nat}{D:DS}{F:Nat->FC}{Ft:Nat->Prop}
def Q1(h:AW w b D F Ft):Ag 49 #[A5 b] w (Aj (A0 D.n.Bc) λw'=>w=w'):=by
 have⟨vd,vs,vc,h⟩:=h.Ae;have h4:=h.c4
 go_enter func49,ntmps49
 go_wp2;go_ret;exact⟨rfl,rfl⟩
end
def GL(A7 d:Int):Int:=if 0<=d then DJ A7 d else A7
def V5{A7 d:Int}(L:Ay A7)(I:Ay d):Ay (GL A7 d)/\A7<=GL A7 d:=by
 unfold GL;obtain⟨E,z⟩:=L;split
 ·rename_i h;refine⟨Mm ⟨E,z⟩ h I.2,?_⟩;unfold DJ;split<;>omega
 ·exact⟨⟨E,z⟩,Iv _⟩
def A3w(w:gx)(wb:Nat)(n:WN)(A7 d ld wa:Int)(h:AS w wb n)(E:n.Cx=A7):∃z,A4 (One wb) w z/\z.heap.size=w.heap.size+1/\AS z wb {n with Cx:=GL A7 d}/\
 z.heap[w.heap.size]?=some (.cells #[A0 ld,A0 wa] 48 (0,0))/\(0<=d->(w.setCell (A9 wb 10) (A0 (GL A7 d))).alloc (.cells #[A0 ld,A0 wa] 48)=z)/\(¬0<=d->w.alloc (.cells #[A0 ld,A0 wa] 48)=z):=by
 by_cases I:0<=d
 ·refine⟨(w.sC wb 10 (A0 (GL A7 d))).aC #[A0 ld,A0 wa] 48,((A4.C (One wb) w).ao rfl 10 _).aj _,by simp,(h.cm _).ak ((A4.C Aa _).aj _),?_,λ_=>rfl,λh=>absurd I h⟩;have:=Bl (w.sC wb 10 (A0 (GL A7 d))) (.cells #[A0 ld,A0 wa] 48);simpa using this
 ·have e:GL A7 d=A7:=by unfold GL;rw[Af I]
  have L:({n with Cx:=A7}:WN)=n:=by subst E;rfl
  refine⟨w.aC #[A0 ld,A0 wa] 48,((A4.C (One wb) w)).aj _,by simp,?_,Bl _ _,λh=>absurd h I,λ_=>rfl⟩;rw[e,L];exact h.ak ((A4.C Aa _).aj _)
def LW.ep{w w':gx}{H wb b X:Nat}{n n':WN}{ld:Int}{R R':Kind}{FT d:Nat->Prop}{pd:gD Pu}{L:gD (gy×Int)}(h:LW w H wb n b ld R FT pd L)(hc:A4 (One wb) w w')(hb:AS w' wb n')(e1:n'.dv=(A5 X))(e2:n'.ld=n.ld)(Y:n'.pv=n.pv)(e4:n'.lv=n.lv)(hs:J3 R')(hd:R' w' d)(I:∀k,d k->k<w'.heap.size)(O:∀k,d k->w.heap.size<=k):LW w' H wb n' X ld R' d pd L:=by
 have W:∀k,FY wb n' k->FY wb n k:=λk z=>by unfold FY at z ⊢;rwa [Y,e4]at z
 have hz:=h.Ak;refine⟨hb,e1,e2.trans h.Gb,hs,hd,I,?_,?_,λk z hx=>?_,λk z=>h.Ef k (W k z),λk z=>AP hz (O k z)⟩
 ·rw[Y];exact Au h.DC λg E=>hc.Al g (Aw h.DC E) λe=>h.cv (by cases e;exact E)
 ·rw[e4];exact Au h.EL λg E=>hc.Al g (Aw h.EL E) λe=>h.b9 (by cases e;exact E)
 ·have:=h.ct (W k z);have:=O k hx;omega
def ZQ(w:gx)(ld wa A7:Int)(Y:Option Addr)(h:¬(1<=ld/\ld<=4611686018427387904)\/¬(1<=wa/\wa<=4611686018427387904)):
 Ag 22 #[.pointer Y,.agg #[A0 ld,A0 wa],A0 A7] w (Aj (.tuple #[.pointer none,A0 1]) λw'=>A4 Aa w w'):=by
 have W:=(A4.C Aa w).aj (.cells #[A0 ld,A0 wa] 48);have z:=Bl w (.cells #[A0 ld,A0 wa] 48);generalize hw0:(w.alloc (.cells #[A0 ld,A0 wa] 48))=w0 at W z;have q0:A8 w0 w.heap.size 0 (A0 ld):=D7 z;have q1:A8 w0 w.heap.size 1 (A0 wa):=D7 z;have O:=A1 W;by_cases L:1<=ld/\ld<=4611686018427387904
 ·have X:¬(1<=wa/\wa<=4611686018427387904):=h.resolve_left (λh=>h L);have E:Hid (∀w',Ag 58 #[A0 ld] w' λe d=>e=.returned (.bool true)/\w'=d):=λw'=>by
   have:=Ls w' ld
   rwa [Cu L]at this
  have I:Hid (∀w',Ag 58 #[A0 wa] w' λe d=>e=.returned (.bool false)/\w'=d):=λw'=>by
   have:=Ls w' wa
   rwa [Cv X]at this
  go_enter func22,ntmps22
  go_wp2_with (first
   | (go_at_call 58;refine(E.o _).k ?_;rintro w' rfl)
   | (go_at_call 58;refine(I.o _).k ?_;rintro w' rfl))
  go_ret2;exact⟨rfl,O.o⟩
 ·have E:Hid (∀w',Ag 58 #[A0 ld] w' λe d=>e=.returned (.bool false)/\w'=d):=λw'=>by
   have:=Ls w' ld
   rwa [Cv L]at this
  go_enter func22,ntmps22
  go_wp2_with (go_at_call 58;refine(E.o _).k ?_;rintro w' rfl);go_ret2;exact⟨rfl,O.o⟩
end
section
variable{P:PD}{A:Ar}{J:Jn}{nm oe:gC}
def RO(P:PD):P.aJ.2.D.n.Av=P.D.n.Av:=by
 unfold PD.aJ E9;dsimp only
 split<;>exact Im _
def RS(P:PD)(nm:gC):(P.aG nm).2.D.n.Av=P.D.n.Av:=by
 unfold PD.aG Dx;split
 ·rfl
 ·dsimp only
  split<;>exact Im _
def Yw(P:PD)(oe nm:gC):(P.aR oe nm).2.D.n.Av=P.D.n.Av:=by
 unfold PD.aR D8;split
 ·rfl
 ·split
  ·rfl
  ·dsimp only
   split<;>exact Im _
def Oj(P:PD)(nm:gC)(s:Nat)(l:Bs):(P.af nm s l).2.2.D.n.Av=P.D.n.Av:=RW P nm (AT s l)
def Mu(P:PD)(nm:Bs)(s:Nat)(l:Bs):(P.aI nm s l).2.D.n.Av=P.D.n.Av:=by
 unfold PD.aI;split
 ·exact Ka P _
 ·split
  ·exact(Oj _ _ _ _).trans (Ka P _)
  ·exact(Mv _ _).trans ((Oj _ _ _ _).trans (Ka P _))
def Mw:∀(l:gD Bs) (P:PD),(PD.aO l P).2.D.n.Av=P.D.n.Av
 | [],_=>rfl
 | nm::r,P=>by
  unfold PD.aO;split
  ·exact RS P _
  ·exact(Mw r _).trans (RS P _)
def RT(J:Jn)(P:PD)(p:Pu):(J.aF P p).2.2.2.D.n.Av=P.D.n.Av:=by
 unfold Jn.aF;split
 ·rfl
 ·exact Oj P _ _ _
def Yz(J:Jn)(P:PD)(p:Pu):(J.af P p).2.2.2.D.n.Av=P.D.n.Av:=by
 unfold Jn.af;split
 ·split
  ·exact Om J P
  ·exact(RT _ _ p).trans (Om J P)
 ·exact RT J P p
def YE(A:Ar)(P:PD)(p:Pu):(A.af P p).2.2.2.D.n.Av=P.D.n.Av:=by
 unfold Ar.af;split
 ·exact K9 A P
 ·exact(Yz _ _ p).trans (K9 A P)
def Yy(J:Jn)(P:PD):(J.ad P).2.D.n.Av=P.D.n.Av:=by
 unfold Jn.ad;split
 ·rfl
 ·exact Mv P _
def YD(A:Ar)(P:PD):(A.ad P).2.2.D.n.Av=P.D.n.Av:=by
 unfold Ar.ad;split
 ·exact K9 A P
 ·have h:=(Yy (A.I P).2.1.j (A.I P).2.2).trans (K9 A P);split
  ·exact h
  ·exact(RO _).trans h
def RU:∀(z:gD (gD Pu)) (h:Int) (d:gD Int) (P:PD),(PD.aq z h d P).2.2.2.D.n.Av=P.D.n.Av
 | [],_,_,_=>rfl
 | l::r,h,d,P=>by
  unfold PD.aq;split
  ·exact Mu P _ _ _
  ·exact(RU r _ _ _).trans (Mu P _ _ _)
def Yx(P:PD)(d:Int)(sd:gD Int):(P.an d sd).2.D.n.Av=P.D.n.Av:=by
 unfold PD.an;split
 ·exact Mu P _ _ _
 ·exact(Yw _ _ _).trans (Mu P _ _ _)
def RV(A:Ar)(P:PD)(sd:gD Int):(A.an P sd).2.2.D.n.Av=P.D.n.Av:=by
 have:=Yx P (A.j.Ac+1) sd;unfold Ar.an;split
 ·rfl
 ·split<;>exact this
def YC(A:Ar)(P:PD):(A.a8 P).2.2.D.n.Av=P.D.n.Av:=by
 unfold Ar.a8;split
 ·exact Mw _ P
 ·exact(RO _).trans (Mw _ P)
def RR(A:Ar)(P:PD)(I:gD Int)(E:gD (gD Pu)):(A.aH P I E).2.2.D.n.Av=P.D.n.Av:=by
 unfold Ar.aH;dsimp only
 have h:=K9 A P;have z:((A.I P).2.1.az (A.I P).2.2).2.D.n.Av=P.D.n.Av:=(Mw _ _).trans h;have d:∀l k,(PD.aq E l k ((A.I P).2.1.az (A.I P).2.2).2).2.2.2.D.n.Av=P.D.n.Av:=λl k=>(RU _ _ _ _).trans z
 split
 ·exact h
 ·split
  ·exact z
  ·split
   ·exact d _ _
   ·split
    ·exact(RV _ _ _).trans (d _ _)
    ·exact(YC _ _).trans ((RV _ _ _).trans (d _ _))
def YA(A:Ar)(P:PD)(wa:Int):(A.aS P wa).2.2.D.n.Av=P.D.n.Av:=by
 unfold Ar.aS;split
 ·rfl
 ·exact RR _ _ _ _
def YB(A:Ar)(P:PD)(wa o:Int):(A.aN P wa o).2.2.D.n.Av=P.D.n.Av:=by
 unfold Ar.aN;split
 ·rfl
 ·split
  ·rfl
  ·exact RR _ _ _ _
end
section
open Go.RowKit
attribute [local go_sem ↓] Go.wp_at_zero Go.wp_at_succ
section
variable{w w':gx}{H wb sb ab b t:Nat}{n:WN}{ld wc A7:Int}{ro:Bool}{L:Nat->gD Pt}{A:Ar}{P:PD}{FT:Nat->Prop}{pd:gD Pu}{ls:gD (gy×Int)}
def LW.Bc(h:LW w H wb n b ld (KS sb ab b ld wc A7 ro L A P) FT pd ls):Ag 49 #[A5 b] w (Aj (A0 P.D.n.Bc) λw'=>w=w'):=by
 obtain⟨Ft,d,-⟩:=SF.dk h.Et;exact Q1 d
def LW.Bk(h:LW w H wb n b ld (KS sb ab b ld wc A7 ro L A P) FT pd ls):Ag 50 #[A5 b] w (Aj (A0 P.D.n.Bk) λw'=>w=w'):=by
 obtain⟨Ft,d,-⟩:=SF.dk h.Et;exact Ow d
def LW.fulls(h:LW w H wb n b ld (KS sb ab b ld wc A7 ro L A P) FT pd ls):Ag 88 #[A5 b] w (Aj (A0 P.D.n.fulls) λw'=>w=w'):=by
 obtain⟨Ft,d,-⟩:=SF.dk h.Et;exact Uv d
def LW.Bh(h:LW w H wb n b ld (KS sb ab b ld wc A7 ro L A P) FT pd ls):Ag 36 #[A5 b] w (Aj (.bool P.D.n.Bh) λw'=>w=w'):=by
 obtain⟨Ft,d,-⟩:=SF.dk h.Et;exact UI d
def PB.bB(h:PB P t)(ht:t<=330000):AU P.F P.D.A6<=4611686018427387904:=AP h.CZ.bB (Ju (a:=990020) (b:=13201000) (by omega) (by omega) (by decide))
def LW.bB(h:LW w H wb n b ld (KS sb ab b ld wc A7 ro L A P) FT pd ls)(hu:AU P.F P.D.A6<=4611686018427387904):Ag 90 #[A5 b] w (Aj (A0 (AU P.F P.D.A6)) λw'=>A4 Aa w w'):=by
 obtain⟨Ft,d,-⟩:=SF.dk h.Et;exact WZ d hu
def LW.dR(h:LW w H wb n b ld (KS sb ab b ld wc A7 ro L A P) FT pd ls):Ag 48 #[A5 wb] w (Aj (.agg #[A0 P.D.n.Bk,A0 P.D.n.fulls]) λw'=>A4 Aa w w'):=by
 obtain⟨Ft,d,z,-⟩:=SF.dk h.Et;exact TH w h.Ae h.Df d z
def Pw(h:PB P t)(d:t<=330000):IntKind.i64.wrap (P.D.n.Av-(AU P.F P.D.A6:Int))=P.D.n.Av-(AU P.F P.D.A6:Int):=by
 have h1:=h.CZ.Av;have h2:=h.bB d;simp[IntKind.wrap,IntKind.bits,IntKind.signed];omega
def Vi(w:gx)(E z c d:Int)(Y:c=5/\d=0\/c=6/\d=1)(h:LW w H wb n b ld (KS sb ab b ld wc A7 ro L A P) FT pd ls)(h1:P.D.n.Bk=E+1)(h2:P.D.n.fulls=z+d)(_hr:0<=E/\E<=330000)(_hf:0<=z/\z<=330000):
 Ag 51 #[A5 wb,A0 c,.agg #[A0 E,A0 z]] w (Aj (.bool true) λw'=>A4 Aa w w'):=by
 have X:=(A4.C Aa w).aj (.cells #[A0 E,A0 z] 85);have I:=Bl w (.cells #[A0 E,A0 z] 85);generalize hw0:w.alloc (.cells #[A0 E,A0 z] 85)=w0 at X I;have m0:A8 w0 w.heap.size 0 (A0 E):=D7 I;have m1:A8 w0 w.heap.size 1 (A0 z):=D7 I;have O:=h.ak X;have c4:=O.Ae.c4;rw[O.Df]at c4;have aA:=A1 ((O.ak (A4.C Aa w0).aa).Bk);have aB:=A1 ((O.ak (A4.C Aa w0).aa.aa).fulls);rw[h1]at aA;rw[h2]at aB;have aD:=A1 X;have s1:IntKind.i64.wrap (E+1-E)=1:=by simp[IntKind.wrap,IntKind.bits,IntKind.signed];omega
 have s2:IntKind.i64.wrap (z+d-z)=d:=by simp[IntKind.wrap,IntKind.bits,IntKind.signed];omega
 clear h1 h2 _hr _hf;rcases Y with⟨rfl,rfl⟩|⟨rfl,rfl⟩
 all_goals
  go_enter func51,ntmps51
  go_wp2_with (fail);refine Br (λw'=>A8 w' wb 4 (A5 b)/\A8 w' w.heap.size 0 (A0 E)) 7
   (Ba [0,1,2,3,5,6,4] [4]) ⟨c4,m0⟩ ?_
  iterate 6 refine B4 ?_
  refine Bf λK W=>?_;go_simp;refine aA.k ?_;rintro w9 rfl;refine W _ _ ⟨c4,m0⟩ (λhS=>?_)
  skip
  refine Bo ?_;go_wp2_with (fail);refine Br (λw'=>A8 w' wb 4 (A5 b)/\A8 w' w.heap.size 1 (A0 z)) 7
   (Ba [0,1,2,3,5,6,4] [4]) ⟨c4,m1⟩ ?_
  iterate 6 refine B4 ?_
  refine Bf λK W=>?_;go_simp;refine aB.k ?_;rintro w9 rfl;refine W _ _ ⟨c4,m1⟩ (λhS=>?_)
  skip
  refine Bo ?_;go_wp2;go_ret;exact⟨rfl,aD.o.aa.aa⟩
def Vj(w:gx)(z d:Int)(h:LW w H wb n b ld (KS sb ab b ld wc A7 ro L A P) FT pd ls)(I:P.D.n.Bk=z+1)(E:P.D.n.fulls=d)(_hr:0<=z/\z<=330000)(_hf:0<=d/\d<=330000):
 Ag 51 #[A5 wb,A0 5,.agg #[A0 z,A0 d]] w (Aj (.bool true) λw'=>A4 Aa w w'):=
 Vi w z d 5 0 (.inl ⟨rfl,rfl⟩) h I (by rw[E,Int.add_zero]) _hr _hf
def Vh(w:gx)(z d:Int)(h:LW w H wb n b ld (KS sb ab b ld wc A7 ro L A P) FT pd ls)(I:P.D.n.Bk=z+1)(E:P.D.n.fulls=d+1)(_hr:0<=z/\z<=330000)(_hf:0<=d/\d<=330000):
 Ag 51 #[A5 wb,A0 6,.agg #[A0 z,A0 d]] w (Aj (.bool true) λw'=>A4 Aa w w'):=
 Vi w z d 6 1 (.inr ⟨rfl,rfl⟩) h I E _hr _hf
end
def BL(d a b c:Int)(tv:gy):Obj:=.cells #[.int .i64 d,.int .i64 a,.int .i64 b,.int .i64 c,tv] 34
def VI(w:gx)(x:Nat)(d a b c:Int):Prop:=A8 w x 0 (A0 d)/\A8 w x 1 (A0 a)/\A8 w x 2 (A0 b)/\A8 w x 3 (A0 c)
def GB(w:gx)(h a b c:Int)(tv:gy):VI (w.alloc (BL h a b c tv)) w.heap.size h a b c:=by
 have d:=Bl w (.cells #[A0 h,A0 a,A0 b,A0 c,tv] 34);unfold VI BL;refine⟨?_,?_,?_,?_⟩<;>(simp only[A8,World.cell?,d];rfl)
def Tryz.fp:(Tryz.prog.info? 141).map (λi=>(i.zero,i.size,i.bytes))=some (some (.agg #[A0 0,A0 0,A0 0]),3,24):=by kernel_rfl
section
variable{w w':gx}{H wb sb ab b t B:Nat}{n:WN}{ld wc A7:Int}{ro:Bool}{L:Nat->gD Pt}{A:Ar}{P:PD}{FT:Nat->Prop}{pd:gD Pu}{ls:gD (gy×Int)}
def Ol(w:gx){r:Int}(h:r=E7 n.Av):Ag 42 #[A0 n.Av] w (Aj (A0 r) λw'=>w=w'):=by rw[h];exact RX w n.Av
def QK(w:gx)(kd k X v cd:Int)(tv:gy)(h:LW w H wb n b ld (KS sb ab b ld wc A7 ro L A P) FT pd ls)(aH:n.sv=(A5 sb))(hp:PB P t)(ht:t<=330000)(aI:P.D.n.Av=E7 n.Av)(hq:(cd=2/\FF k=false)\/(cd=4/\FF k=true/\n.CQ=true))(aM:∀d aD,KS sb ab b ld wc A7 ro L A P d aD->(∀k,aD k->k<d.heap.size)->Ag 23 #[A5 sb,A0 k,A0 X,A0 v] d λe w'=>e=.returned (A0 cd)/\Ap d aD w' (KS sb ab b ld wc A7 ro L A P)):
 Ag 54 #[A5 wb,.agg #[A0 kd,A0 k,A0 X,A0 v,tv]] w λe w'=>e=.returned (.bool true)/\A4 (Up H) w w'/\
  ∃aE,LW w' H wb n b ld (KS sb ab b ld wc A7 ro L A P) aE pd ls:=by
 have a6:=A1 hq;have aL:=A1 aM;clear hq aM;have hA:=(A4.C Aa w).aj (BL kd k X v tv);obtain⟨-,o1,o2,o3⟩:=GB w kd k X v tv;have h1:=h.ak hA;have aY:=h.lt;have aA:w.heap.size<(w.alloc (BL kd k X v tv)).heap.size:=by simp
 generalize aS:w.alloc (BL kd k X v tv)=w1 at hA o1 o2 o3 h1 aA;unfold BL at aS;obtain⟨W,aW⟩:∃W,P.D.n.Bk=W:=⟨_,rfl⟩;obtain⟨O,aU⟩:∃O,P.D.n.fulls=O:=⟨_,rfl⟩;obtain⟨cn,aP⟩:∃cn,P.D.n.Bc=cn:=⟨_,rfl⟩;obtain⟨rm,aB⟩:∃rm,P.D.n.Av=rm:=⟨_,rfl⟩;obtain⟨us,I⟩:∃us,AU P.F P.D.A6=us:=⟨_,rfl⟩;have aZ:=Pw hp ht;have a3:=A1 h1.dR;rw[aW,aU]at a3;rw[aB,I]at aZ;rw[aB]at aI;have aJ:=A1 aP;have aG:Hid (AU P.F P.D.A6=us/\us<=4611686018427387904):=⟨I,by rw[<-I];exact hp.bB ht⟩;have a8:=A1 hA;have aR:=A1 h1;have aV:=A1 aY
 go_enter func54,ntmps54
 go_wp2_with (fail);refine a3.k ?_;rintro E k2;have v4:A8 (E.alloc (.cells #[A0 W,A0 O] 85)) wb 4 (A5 b):=((aR.o.ak (k2.aj _)).Ae.c4).trans (by rw[aR.o.Df]);go_wp2_with (fail);have k3:A4 Aa w1 (E.alloc (.cells #[A0 W,A0 O] 85)):=k2.aj _;have aK:=Bl E (.cells #[A0 W,A0 O] 85);have m0:A8 (E.alloc (.cells #[A0 W,A0 O] 85)) E.heap.size 0 (A0 W):=by simp only[A8,World.cell?,aK];rfl
 have m1:A8 (E.alloc (.cells #[A0 W,A0 O] 85)) E.heap.size 1 (A0 O):=by simp only[A8,World.cell?,aK];rfl
 have a5:Hid (w1.heap.size<=E.heap.size/\w.heap.size<w1.heap.size):=⟨k2.Ak,aA⟩;generalize E.alloc (.cells #[A0 W,A0 O] 85)=w3 at k3 m0 m1 v4 ⊢;have aO:=A1 (aR.o.ak k3);have a7:Hid (A4 Aa w w3):=a8.o.tr k3;have p1:=k3.ah o1;have p2:=k3.ah o2;have p3:=k3.ah o3;have a4:=A1 aO.o.Bc;rw[aJ.o]at a4;refine a4.k ?_;rintro d rfl;have c2:=aO.o.Ae.c2;have bA:=A1 (Ol w3.drew aI);have bB:Hid (Ag 90 #[A5 b] w3.drew λe w'=>e=.returned (A0 us)/\A4 Aa w3.drew w'):=by
  have:=(aO.o.ak (A4.C Aa w3).aa).bB (by rw[aG.o.1];exact aG.o.2);rw[aG.o.1]at this;exact this
 go_wp2;refine Br (λw'=>A8 w' wb 2 (A0 n.Av)/\A8 w' wb 4 (A5 b)) 12
  (Ba [0,1,2,3,4,6,7,8,9,5,10,11] [5,10]) ⟨c2,v4⟩ ?_
 iterate 9 refine B4 ?_
 refine Bf λK hK=>?_;go_simp;refine bA.k ?_;rintro d rfl;refine hK _ _ ⟨c2,v4⟩ (λY=>?_);refine Bf λK hK=>?_;go_simp;refine bB.k ?_;rintro d k4;have z:A4 Aa w3 d:=⟨k4.os,k4.DU,k4.DW,k4.Ak,k4.Al⟩;refine hK _ _ ⟨z.ah c2,z.ah v4⟩ (λY=>?_);have a1:=A1 (aO.o.ak (z.AH (A4.C Aa d).aa λ_ h _=>h));have a9:Hid (A4 Aa w d.drew):=a7.o.tr (z.AH (A4.C Aa d).aa λ_ h _=>h);have q1:=z.ah p1;have q2:=z.ah p2;have q3:=z.ah p3;have n0:=z.ah m0;have n1:=z.ah m1;refine B4 ?_;refine Bo ?_;go_wp2
 have bC:Hid (Ag 23 #[A5 sb,A0 k,A0 X,A0 v] d.drew λe w'=>e=.returned (A0 cd)/\A4 (Up H) d w'/\A8 w' wb 5 (A5 sb)/\A8 w' w.heap.size 1 (A0 k)/\A8 w' w.heap.size 2 (A0 X)/\A8 w' w.heap.size 3 (A0 v)/\
  w'.cell? (A9 E.heap.size 0)=some (A0 W)/\A8 w' E.heap.size 1 (A0 O)/\∃aE,LW w' H wb n b ld (KS sb ab b ld wc A7 ro L A P) aE pd ls):=by
  have aF:=a1.o;refine(aL.o d.drew FT aF.Et aF.lt).k ?_;rintro w' Y;have⟨r1,FT2,r2⟩:=aF.cM (KS.E5 sb ab b ld wc A7 ro L A P) Y;have nb:∀x,w.heap.size<=x->¬FT x:=λx hx hy=>by have:=aV.o x hy;omega
  have hm:w.heap.size<=E.heap.size:=by have:=a5.o;omega
  exact⟨rfl,⟨r1.os,r1.DU,r1.DW,r1.Ak,r1.Al⟩,r2.Ae.c5.trans (by rw[aH]),Dt (w:=d.drew) Y.1 q1 (nb _ (Ao _)),Dt (w:=d.drew) Y.1 q2 (nb _ (Ao _)),Dt (w:=d.drew) Y.1 q3 (nb _ (Ao _)),Dt (w:=d.drew) Y.1 n0 (nb _ hm),Dt (w:=d.drew) Y.1 n1 (nb _ hm),FT2,r2⟩
 have c5:=a1.o.Ae.c5;rw[aH]at c5;have aQ:Hid (A4 Aa w d.drew):=a9.o;refine Br (λw'=>A8 w' wb 5 (A5 sb)/\A8 w' w.heap.size 1 (A0 k)/\A8 w' w.heap.size 2 (A0 X)/\A8 w' w.heap.size 3 (A0 v)) 11
  (Ba [0,1,2,3,4,5,6,7,8,9,10] [10]) ⟨c5,q1,q2,q3⟩ ?_
 iterate 10 refine B4 ?_
 refine Bf λK hK=>?_;go_simp;refine bC.k ?_;rintro w5⟨k5,d5,r1,r2,r3,m5,m6,aX,hR⟩;refine hK _ _ ⟨d5,r1,r2,r3⟩ (λY=>?_);have bD:Hid (A4 (Up H) w w5):=(aQ.o.aT (S:=Up H)).tr (⟨k5.os,k5.DU,k5.DW,k5.Ak,k5.Al⟩:A4 (Up H) d.drew w5);have a0:=A1 hR;have d9:=hR.Ae.c9;have d4:=hR.Ae.c4;rw[hR.Df]at d4;refine Bo ?_;have a2:Hid (∀w',Ag 91 #[A0 k] w' λe E=>e=.returned (.bool (FF k))/\w'=E):=λw'=>Mz k w';have aN:=A1 a0.o.Bc;rw[aJ.o]at aN;rcases a6.o with⟨rfl,hs⟩|⟨rfl,hs,aT⟩;rotate_left;rw[aT]at d9
 all_goals
  rw[hs]at a2;clear hs
  go_wp2_with (first
   | (go_at_call 91;refine(a2.o _).k ?_;rintro w6 rfl)
   | (go_at_call 49;refine aN.k ?_;rintro w6 rfl))
  go_ret;exact⟨rfl,bD.o,aX,a0.o⟩
def Wu(w:gx)(O k E v:Int)(tv:gy)(h:LW w H wb n b ld (KS sb ab b ld wc A7 ro L A P) FT pd ls)(z:n.sv=(A5 sb))(_hbr:n.CQ=ro)(hp:PB P t)(X:t<=330000)(I:P.D.n.Av=E7 n.Av)(Y:¬(0<=k/\k<8)):
 Ag 54 #[A5 wb,.agg #[A0 O,A0 k,A0 E,A0 v,tv]] w (Aj (.bool true) λw'=>A4 (Up H) w w'/\
  ∃d,LW w' H wb n b ld (KS sb ab b ld wc A7 ro L A P) d pd ls):=
 QK w O k E v 2 tv h z hp X I (.inl ⟨rfl,by unfold FF;simp;omega⟩) λW _ q1 q2=>Zj W k E v q1 q2 Y
def Ws(w:gx)(W k I v:Int)(tv:gy)(h:LW w H wb n b ld (KS sb ab b ld wc A7 true L A P) FT pd ls)(z:n.sv=(A5 sb))(E:n.CQ=true)(hp:PB P t)(Y:t<=330000)(O:P.D.n.Av=E7 n.Av)(hk:0<=k/\k<8):
 Ag 54 #[A5 wb,.agg #[A0 W,A0 k,A0 I,A0 v,tv]] w (Aj (.bool true) λw'=>A4 (Up H) w w'/\
  ∃d,LW w' H wb n b ld (KS sb ab b ld wc A7 true L A P) d pd ls):=
 QK w W k I v 4 tv h z hp Y O (.inr ⟨rfl,by unfold FF;simp;omega,E⟩) λX _ q1 q2=>SA X k I v q1 q2 hk
end
end
section
open Go.RowKit
def YV{L:Nat->gD Pt}{pd q:gD Pu}{ld A7:Int}(h:Rel L pd ld A7)(z:∀p∈pd,Ay p.2.1)(E:Fk L q ld A7):Rel L q ld A7:=λk d=>(h k d).trans ((h.dD z d _ _).symm.trans (E k d))
def EA(H:Nat)(w:gx)(v:gy):Prop:=∃d,Mb w v d/\(∀t∈d,Ay t)/\∀h n c x,n≠0->v=.slice h n c->h=some x->x.block<H
def EA.bU(H:Nat)(w:gx)(h:Mb w (.slice none 0 0) []):EA H w (.slice none 0 0):=⟨[],h,by simp,λad n c x _ e h=>by cases e;cases h⟩
def DA(t H wb:Nat)(ld:Int)(w:gx)(n:WN)(pd:gD Pu)(h:gD (gy×Int)):Prop:=
 Ay n.Cx/\Ay n.da/\EA H w n.tv/\h.length<=4*t/\∃(b Ad:Nat) (P:PD) (FT:Nat->Prop),n.AF=(Ad:Int)/\P.D.n.Av=E7 n.Av/\
  ((∃(z ab:Nat) (d:Bool) (L:Nat->gD Pt) (A:Ar),n.sv=.pointer (some ⟨z,0,none⟩)/\n.CQ=d/\n.fell=false/\(1<=ld/\ld<=4611686018427387904)/\(1<=n.wc/\n.wc<=4611686018427387904)/\
   LW w H wb n b ld (KS z ab b ld n.wc n.Cx d L A P) FT pd h/\St t A P pd Ad (AN n.Cx ld) d/\Rel L pd ld n.Cx/\∀k,k<8->(L k).length<=t)\/
   (n.sv=.pointer none/\LW w H wb n b ld (KD b P) FT pd h/\EH t P pd Ad (AN n.Cx ld) n.fell))
section
variable{H wb t:Nat}{ld A7:Int}{L:Nat->gD Pt}{A:Ar}{P:PD}{pd:gD Pu}{Ad:Nat}
def Zh(X:St t A P pd Ad (AN A7 ld) false)(ht:t+1<=330000)(p:Pu)(hp:Bm p)(hR:Rel L pd ld A7)(hs:∀k,k<8->DP (L k)){bo:Bool}{cd:Int}{aH:Ar}{W:PD}{I:Nat->gD Pt}(aE:A.af P p=(bo,cd,aH,W))(h:I=if bo=true then EB L (AN A7 ld) p.1.toNat p.2.1 p.2.2 else L):
 PB W (t+1)/\I0 P cd W/\(cd=6->P.D.n.Av-AU P.F P.D.A6<200)/\DI (Cs (t+1)) W (pd++[p]) Ad (AN A7 ld)/\
  (cd=0->Rel I (pd++[p]) ld A7/\St (t+1) aH W (pd++[p]) Ad (AN A7 ld) false)/\
  (W.D.n.Bh=false->∀q,q=pd++[p]\/(q=pd/\¬Fk I (pd++[p]) ld A7)->Fk I q ld A7->Rel I q ld A7/\St (t+1) aH W q Ad (AN A7 ld) true)/\
  (¬Fk I (pd++[p]) ld A7->Fk I pd ld A7)/\W.D.n.Av=P.D.n.Av/\(∀k,k<8->(L k).length<=t->(I k).length<=t+1):=by
 have⟨a1,a2,a3,a4,a5,a6,a7⟩:=X.af ht p hp;have d:=YE A P p;rw[aE]at a1 a2 a3 a4 a5 a6 a7 d;have hq:∀x∈pd++[p],Bm x:=λx E=>by
  rcases AX.1 E with E|E
  ·exact X.pu x E
  ·simp at E;subst E;exact hp
 have O:(pd++[p]).length<=t+1:=by have:=X.Be;simp;omega
 have aG:Ad<=(pd++[p]).length:=by have:=X.le;simp;omega
 have aB:∀k,k<8->(L k).length<=t->(I k).length<=t+1:=λk _ hk=>by
  rw[h];have:=P8 L (AN A7 ld) p.1.toNat p.2.1 p.2.2 k;split<;>omega
 cases bo with
 | true=>
  rw[Ai rfl]at h;have z:Rel I (pd++[p]) ld A7:=by
   rw[h];obtain⟨k,tt,v⟩:=p;obtain⟨⟨k0,k8⟩,aF,_⟩:=hp;dsimp only at k0 k8 aF ⊢;obtain⟨k',rfl⟩:∃k':Nat,k=k':=⟨k.toNat,by omega⟩;exact hR.aF hs (by omega) aF
  have aD:=z.cG λx E=>(hq x E).2.1
  refine⟨a1,a2,a7,a3,λh0=>⟨z,(a6 h0).2⟩,λhd q Y _=>?_,λhn=>absurd aD hn,d,aB⟩;rcases Y with rfl|⟨-,hn⟩
  ·exact⟨z,St.cV a1 a3 (a4 rfl) hq O aG hd⟩
  ·exact absurd aD hn
 | false=>
  rw[Af (by simp)]at h;subst h;have⟨b1,b2⟩:=a5 rfl;have aA:∀x∈pd,Ay x.2.1:=λx E=>(X.pu x E).2.1
  refine⟨a1,a2,a7,a3,λh0=>absurd (a6 h0).1 (by simp),λhd q Y hT=>?_,λ_=>hR.cG aA,d,aB⟩;rcases Y with rfl|⟨rfl,-⟩
  ·have z:=YV hR aA hT;refine⟨z,St.cV a1 a3 (b2.to ?_) hq O aG hd⟩;(have e0:(pd++[p]).take pd.length=pd:=by rw[JP]);have e1:(pd++[p]).take (pd.length+1)=pd++[p]:=El (by simp);have:=RL (pd:=pd++[p]) hq (n0:=pd.length) (n:=pd.length+1) (by omega) (ld:=ld) (A7:=A7) λk hk=>by
    rw[e0,e1];exact(hR.cG aA k hk).symm.trans (hT k hk)
   rwa [e0,e1]at this
  ·exact⟨hR,St.cV a1 b1 b2 X.pu (by have:=X.Be;omega) X.le hd⟩
end
end
section
open Go.RowKit
attribute [local go_sem ↓] Go.wp_at_zero Go.wp_at_succ
section
variable{w w':gx}{H wb sb ab b t B:Nat}{n:WN}{ld wc A7:Int}{ro:Bool}{L:Nat->gD Pt}{A:Ar}{P:PD}{FT:Nat->Prop}{pd:gD Pu}{ls:gD (gy×Int)}{Ad:Nat}
def LW.bQ(h:LW w H wb n b ld (KS sb ab b ld wc A7 ro L A P) FT pd ls):∃Ft,LW w H wb n b ld (KD b P) Ft pd ls:=by
 have⟨Ft,h1,h2,h3⟩:=SF.dk h.Et;exact⟨Ft,h.Ae,h.Df,h.Gb,KD.E5 b P,h1,h2,h.DC,h.EL,λk d z=>h.nw k d (h3 k z),h.Ef,λk d=>h.FO k (h3 k d)⟩
def LR(t H wb sb ab b Ad:Nat)(ld wc A7:Int)(w':gx)(n:WN)(ls:gD (gy×Int)):Prop:=
 ∃h d I z E q,z.D.n.Av=E7 n.Av/\((∃ro,LW w' H wb {n with pv:=d,CQ:=ro} b ld (KS sb ab b ld wc A7 ro E I z) h q ls/\St (t+1) I z q Ad (AN A7 ld) ro/\Rel E q ld A7/\∀k,k<8->(E k).length<=t+1)\/
  (LW w' H wb {n with pv:=d,CQ:=true,sv:=.pointer none} b ld (KD b z) h q ls/\EH (t+1) z q Ad (AN A7 ld) n.fell))
def Wt(w:gx)(kd k z v:Int)(tv:gy)(h:LW w H wb n b ld (KS sb ab b ld wc A7 false L A P) FT pd ls)(aW:n.sv=(A5 sb))(b1:n.CQ=false)(bX:n.Cx=A7)(hS:St t A P pd Ad (AN A7 ld) false)(hR:Rel L pd ld A7)(b6:t+1<=330000)(aE:P.D.n.Av=E7 n.Av)(aV:Bm (k,z,v))(bV:∀k,k<8->(L k).length<=t)(hl:1<=ld/\ld<=4611686018427387904)(hc:Ay A7)(hL:Lets B w)(cZ:B<=H):
 Ag 54 #[A5 wb,.agg #[A0 kd,A0 k,A0 z,A0 v,tv]] w (Aj (.bool true) λw'=>A4 (Up H) w w'/\
  LR t H wb sb ab b Ad ld wc A7 w' n ls):=by
 have ht:t<=330000:=by omega
 have hp:=hS.pb;obtain⟨⟨bo,cd,aO,aF⟩,bC⟩:∃x,A.af P (k,z,v)=x:=⟨_,rfl⟩;obtain⟨aA,b3⟩:∃aA,aA=if bo=true then EB L (AN A7 ld) k.toNat z v else L:=⟨_,rfl⟩
 have aT:∀k,k<8->DP (L k):=by obtain⟨lv,F0,q,-⟩:=h.Et;exact q.E6.G7
 have⟨z1,z2,z3,z4,z5,z6,z7,z8,z9⟩:=Zh hS b6 (k,z,v) aV hR aT bC b3;have cC:∀X aP,KS sb ab b ld wc A7 false L A P X aP->(∀k,aP k->k<X.heap.size)->Lets B X->(∀k,aP k->H<=k)->Ag 23 #[A5 sb,A0 k,A0 z,A0 v] X (Aj (A0 cd) λw'=>Ap X aP w' (KS sb ab b ld wc A7 (decide (cd≠0)) aA aO aF)):=λX aP g1 g2 g3 g4=>by
  have:=Sy X (k,z,v) g1 g2 hS b6 aV g3 (λk hk=>AP cZ (g4 k hk)) bV hl hc;rw[bC]at this;rw[b3];exact this
 have bT:pd.length<=330000:=by have:=hS.Be;omega
 have dC:∀p∈pd++[(k,z,v)],Ay p.2.1:=λp hp=>by
  rcases AX.1 hp with hp|hp
  ·exact(hS.pu p hp).2.1
  ·simp at hp;subst hp;exact aV.2.1
 have bU:∀p∈pd++[(k,z,v)],Bm p:=λp hp=>by
  rcases AX.1 hp with hp|hp
  ·exact hS.pu p hp
  ·simp at hp;subst hp;exact aV
 have bS:∀k,k<8->(aA k).length<=t+1:=λk hk=>z9 k hk (bV k hk);have hk:=aV.1;have dE:Hid (aF.D.n.Bh=true->EH (t+1) aF (pd++[(k,z,v)]) Ad (AN A7 ld) n.fell):=λhd=>⟨z1,z4,bU,by have:=hS.Be;simp;omega,by have:=hS.le;simp;omega,.inl hd⟩
 have b8:=A1 z2;have cA:=A1 z3;have cS:=A1 z5;have dF:=A1 z6;have cI:=A1 z7;have aM:=A1 z8;have aN:=A1 bS;have b5:=A1 dC;have b4:=A1 cC;have cL:=A1 hL;have bL:=A1 bT;have bM:Hid (0<=P.D.n.Bk/\P.D.n.Bk<=330000):=by have:=hp.refQ;exact⟨by omega,by omega⟩
 have bE:Hid (0<=P.D.n.fulls/\P.D.n.fulls<=330000):=by have:=hp.JB;exact⟨by omega,by omega⟩
 have hA:=(A4.C Aa w).aj (BL kd k z v tv);obtain⟨-,o1,o2,o3⟩:=GB w kd k z v tv;have h1:=h.ak hA;have hwl:=h.Ae.lt;have dI:=h.lt;have bA:w.heap.size<(w.alloc (BL kd k z v tv)).heap.size:=by simp
 generalize cP:w.alloc (BL kd k z v tv)=w1 at hA o1 o2 o3 h1 bA;unfold BL at cP;obtain⟨rf,bK⟩:∃rf,P.D.n.Bk=rf:=⟨_,rfl⟩;obtain⟨fu,bH⟩:∃fu,P.D.n.fulls=fu:=⟨_,rfl⟩;obtain⟨cn,cJ⟩:∃cn,P.D.n.Bc=cn:=⟨_,rfl⟩;obtain⟨rm,aG⟩:∃rm,P.D.n.Av=rm:=⟨_,rfl⟩;obtain⟨us,aL⟩:∃us,AU P.F P.D.A6=us:=⟨_,rfl⟩;have b9:=Pw hp ht;have dS:=A1 h1.dR;rw[bK,bH]at dS;rw[aG,aL]at b9;have hrmk:=aG;rw[aG]at aE;have aS:=A1 bK;have cD:=A1 bH;have cV:=A1 cJ;have bJ:Hid (AU P.F P.D.A6=us/\us<=4611686018427387904):=⟨aL,by rw[<-aL];exact hp.bB ht⟩;have dY:=A1 hA;have cN:=A1 h1;have dG:=A1 dI;have b2:Hid (∀g,n.pv.oB g->g<w.heap.size):=λg hg=>Aw h.DC hg;rw[bK]at bM;rw[bH]at bE;rw[aG,aL]at cA;rw[aG]at aM
 go_enter func54,ntmps54
 go_wp2_with (fail);refine dS.k ?_;rintro w2 k2;have v4:(w2.alloc (.cells #[A0 rf,A0 fu] 85)).cell? (A9 wb 4)=some (A5 b):=((cN.o.ak (k2.aj _)).Ae.c4).trans (by rw[cN.o.Df]);go_wp2_with (fail);have k3:A4 Aa w1 (w2.alloc (.cells #[A0 rf,A0 fu] 85)):=k2.aj _;have bZ:=Bl w2 (.cells #[A0 rf,A0 fu] 85);have m0:(w2.alloc (.cells #[A0 rf,A0 fu] 85)).cell? (A9 w2.heap.size 0)=some (A0 rf):=D7 bZ;have m1:(w2.alloc (.cells #[A0 rf,A0 fu] 85)).cell? (A9 w2.heap.size 1)=some (A0 fu):=D7 bZ;have cE:Hid (w1.heap.size<=w2.heap.size/\w.heap.size<w1.heap.size):=⟨k2.Ak,bA⟩;generalize w2.alloc (.cells #[A0 rf,A0 fu] 85)=w3 at k3 m0 m1 v4 ⊢;have cF:=A1 (cN.o.ak k3);have dX:=A1 <| dY.o.tr k3;have p1:=k3.ah o1;have p2:=k3.ah o2;have p3:=k3.ah o3;have dR:=A1 cF.o.Bc;rw[cV.o]at dR;refine dR.k ?_;rintro X rfl;have c2:=cF.o.Ae.c2;have eA:=A1 (Ol w3.drew aE);have eB:Hid (Ag 90 #[A5 b] w3.drew (Aj (A0 us) λw'=>A4 Aa w3.drew w')):=by
  have:=(cF.o.ak (A4.C Aa w3).aa).bB (by rw[bJ.o.1];exact bJ.o.2);rw[bJ.o.1]at this;exact this
 go_wp2;refine Br (λw'=>w'.cell? (A9 wb 2)=some (A0 n.Av)/\w'.cell? (A9 wb 4)=some (A5 b)) 12
  (Ba [0,1,2,3,4,6,7,8,9,5,10,11] [5,10]) ⟨c2,v4⟩ ?_
 iterate 9 refine B4 ?_
 refine Bf λK hK=>?_;go_simp;refine eA.k ?_;rintro X rfl;refine hK _ _ ⟨c2,v4⟩ (λhS=>?_);refine Bf λK hK=>?_;go_simp;refine eB.k ?_;rintro X k4;have aD:A4 Aa w3 X:=⟨k4.os,k4.DU,k4.DW,k4.Ak,k4.Al⟩;refine hK _ _ ⟨aD.ah c2,aD.ah v4⟩ (λhS=>?_);have dL:=A1 (cF.o.ak (aD.AH (A4.C Aa X).aa λ_ h _=>h));have dM:=A1 <| dX.o.tr (aD.AH (A4.C Aa X).aa λ_ h _=>h);have q1:=aD.ah p1;have q2:=aD.ah p2;have q3:=aD.ah p3;have n0:=aD.ah m0;have n1:=aD.ah m1;refine B4 ?_;refine Bo ?_;go_wp2
 have eC:Hid (Ag 23 #[A5 sb,A0 k,A0 z,A0 v] X.drew (Aj (A0 cd) λw'=>A4 (Up H) X w'/\w'.cell? (A9 wb 5)=some (A5 sb)/\w'.cell? (A9 w.heap.size 1)=some (A0 k)/\w'.cell? (A9 w.heap.size 2)=some (A0 z)/\w'.cell? (A9 w.heap.size 3)=some (A0 v)/\
  w'.cell? (A9 w2.heap.size 0)=some (A0 rf)/\w'.cell? (A9 w2.heap.size 1)=some (A0 fu)/\∃cT,LW w' H wb n b ld (KS sb ab b ld wc A7 (decide (cd≠0)) aA aO aF) cT pd ls)):=by
  have a5:=dL.o;have h4:=dM.o;refine(b4.o X.drew FT a5.Et a5.lt (cL.o.aL h4) a5.FO).k ?_;rintro w' hS;have⟨r1,FT2,r2⟩:=a5.cM (KS.E5 sb ab b ld wc A7 (decide (cd≠0)) aA aO aF) hS;have nb:∀x,w.heap.size<=x->¬FT x:=λx hx hy=>by have:=dG.o x hy;omega
  have hm:w.heap.size<=w2.heap.size:=by have:=cE.o;omega
  exact⟨rfl,⟨r1.os,r1.DU,r1.DW,r1.Ak,r1.Al⟩,r2.Ae.c5.trans (by rw[aW]),Dt (w:=X.drew) hS.1 q1 (nb _ (Ao _)),Dt (w:=X.drew) hS.1 q2 (nb _ (Ao _)),Dt (w:=X.drew) hS.1 q3 (nb _ (Ao _)),Dt (w:=X.drew) hS.1 n0 (nb _ hm),Dt (w:=X.drew) hS.1 n1 (nb _ hm),FT2,r2⟩
 have c5:=dL.o.Ae.c5;rw[aW]at c5;have cM:=A1 <| dM.o;refine Br (λw'=>w'.cell? (A9 wb 5)=some (A5 sb)/\w'.cell? (A9 w.heap.size 1)=some (A0 k)/\w'.cell? (A9 w.heap.size 2)=some (A0 z)/\w'.cell? (A9 w.heap.size 3)=some (A0 v)) 11
  (Ba [0,1,2,3,4,5,6,7,8,9,10] [10]) ⟨c5,q1,q2,q3⟩ ?_
 iterate 10 refine B4 ?_
 refine Bf λK hK=>?_;go_simp;refine eC.k ?_;rintro w5⟨k5,d5,r1,r2,r3,m5,m6,aJ,hR⟩;refine hK _ _ ⟨d5,r1,r2,r3⟩ (λhS=>?_);have eF:=A1 <| (cM.o.aT (S:=Up H)).tr (⟨k5.os,k5.DU,k5.DW,k5.Ak,k5.Al⟩:A4 (Up H) X.drew w5);have dV:=A1 hR;have d9:=hR.Ae.c9;rw[b1]at d9;have d6:=hR.Ae.c6;have d4:=hR.Ae.c4;rw[hR.Df]at d4
 (try simp only[BO])
 refine Bo ?_;have dZ:Hid (∀w',Ag 91 #[A0 k] w' (Aj (.bool true) λw2=>w'=w2)):=λw'=>by
  have:=Mz k w';have e:FF (k:Int)=true:=by unfold FF;simp;omega
  rwa [e]at this
 obtain⟨ap,cp,a0,hp1,hp2,-⟩:=hR.DC.BW;rw[a0]at d6;go_wp2_with (go_at_call 91;refine(dZ.o _).k ?_;rintro w6 rfl);have⟨i0,hi,hz0,hz1,hz2⟩:=DL Tryz.fp;have k6:A4 Aa w5 (w5.alloc (.cells #[A0 k,A0 z,A0 v] 141)).drew:=((A4.C Aa w5).aj _).aa;have dK:=A1 (dV.o.ak k6);have dD:GS (w5.alloc (.cells #[A0 k,A0 z,A0 v] 141)).drew (.slice ap pd.length cp) pd:=by
  have:=dK.o.DC;rwa [a0]at this
 have cX:=A1 dD;have eD:Hid (Src Tryz.prog 3 37 (AA w5.heap.size 1 1) 1 (B5 [(k,z,v)]) (w5.alloc (.cells #[A0 k,A0 z,A0 v] 141)).drew):=
  Src.cc (w:=(w5.alloc (.cells #[A0 k,A0 z,A0 v] 141)).drew) (cs:=#[A0 k,A0 z,A0 v]) Nq (Bl w5 _) 1 1 rfl (Hu [(k,z,v)])
 have cY:Hid (∀g,n.pv.oB g->g<w.heap.size):=b2.o
 have dB:Hid (∀w7 v',App (w5.alloc (.cells #[A0 k,A0 z,A0 v] 141)).drew w7 141 3 (.slice ap pd.length cp) v' (pd.length+1) (B5 pd++B5 [(k,z,v)])->
  w7.cell? (A9 wb 6)=some (.slice ap pd.length cp)/\w7.frozen? (A9 wb 6)=false/\A4 (Up H) w5 (w7.setCell (A9 wb 6) v')/\LW (w7.setCell (A9 wb 6) v') H wb {n with pv:=v'} b ld (KS sb ab b ld wc A7 (decide (cd≠0)) aA aO aF) aJ (pd++[(k,z,v)]) ls/\
  (∀x,w.heap.size<=x->∀o u,w5.cell? (A9 x o)=some u->w7.cell? (A9 x o)=some u/\(w7.setCell (A9 wb 6) v').cell? (A9 x o)=some u)):=λw7 v' hA=>by
  rw[<-a0]at hA;have⟨a1,a2,a3,a4⟩:=dK.o.e3 hA;rw[a0]at a1;refine⟨a1,a2,(k6.aT (S:=Up H)).tr a3,a4,λx hx o u hu=>?_⟩;have q:=Dt hA.cw (k6.ah hu) (λe=>by have:=cY.o x e;omega);exact⟨q,(GN _ _ _ _ (by simp;try omega)).trans q⟩
 refine Br (λw'=>w'.cell? (A9 wb 6)=some (.slice ap pd.length cp)/\w'.cell? (A9 w.heap.size 1)=some (A0 k)/\w'.cell? (A9 w.heap.size 2)=some (A0 z)/\w'.cell? (A9 w.heap.size 3)=some (A0 v)) 14
  (Ba [0,1,2,3,4,5,6,7,8,9,10,11,12,13] [12,13]) ⟨d6,r1,r2,r3⟩ ?_
 iterate 12 refine B4 ?_
 refine Bf λK hK=>?_;go_simp;have a6:A4 Aa w5 (w5.alloc (.cells #[A0 k,A0 z,A0 v] 141)).drew:=((A4.C Aa w5).aj _).aa;refine hK _ _ ⟨a6.ah d6,a6.ah r1,a6.ah r2,a6.ah r3⟩ (λhS=>?_);refine Dv rfl (by rfl) (λK hK=>?_);refine HP (.tmp 83) (.tmp 91) 37 37 rfl 141 i0 _ 3 24 Nq hi hz0 hz1 hz2 rfl (by decide) (.slice ap pd.length cp) pd.length (B5 pd) (by rfl) cX.o _ 1 _ (by rfl) eD.o (by have:=bL.o;omega) ?_;intro Y d w7 hA;have⟨y6,z6,k8,h8,hbox⟩:=dB.o w7 _ hA;refine hK _ _ ⟨y6,(hbox _ (Ao _) 1 _ r1).1,(hbox _ (Ao _) 2 _ r2).1,(hbox _ (Ao _) 3 _ r3).1⟩ (λhS=>?_);have m8:=(hbox w2.heap.size (by have:=cE.o;omega) 0 _ m5).2;have m9:=(hbox w2.heap.size (by have:=cE.o;omega) 1 _ m6).2;have bF:=A1 h8;have dH:Hid (A4 (Up H) w (w7.setCell (A9 wb 6) (.slice Y (pd.length+1) d))):=eF.o.tr k8;have e4:(w7.setCell (A9 wb 6) (.slice Y (pd.length+1) d)).cell? (A9 wb 4)=some (A5 b):=by
  rw[h8.Ae.c4];exact Ep some h8.Df
 (try simp only[BO])
 refine Bo ?_;go_wp2;generalize (w7.setCell (A9 wb 6) (.slice Y (pd.length+1) d))=w8 at m8 m9 bF dH e4 ⊢;have eE:=A1 (bF.o.ak (A4.C Aa w8).aa).Bk;refine Br (λw'=>w'.cell? (A9 wb 4)=some (A5 b)/\w'.cell? (A9 w2.heap.size 0)=some (A0 rf)) 7
  (Ba [0,1,2,3,5,6,4] [4]) ⟨e4,m8⟩ ?_
 iterate 6 refine B4 ?_
 refine Bf λK hK=>?_;go_simp;refine eE.k ?_;rintro w9 rfl;refine hK _ _ ⟨e4,m8⟩ (λhS=>?_)
 (try simp only[BO])
 refine Bo ?_;have dU:Hid (∃aX,aF.D.n.Bk=aX):=⟨_,rfl⟩;have⟨aX,hrf2⟩:=dU.o;rw[hrf2];have cO:(cd=0/\aX=rf)\/((cd=5\/cd=6)/\aX=rf+1):=by
  rcases b8.o with⟨q1,q2,-⟩|⟨q1,q2,-⟩|⟨q1,q2,-⟩
  ·exact .inl ⟨q1,by rw[<-hrf2,q2,aS.o]⟩
  ·exact .inr ⟨.inl q1,by rw[<-hrf2,q2,aS.o]⟩
  ·exact .inr ⟨.inr q1,by rw[<-hrf2,q2,aS.o]⟩
 rcases cO with⟨rfl,rfl⟩|⟨aY,rfl⟩
 ·have cB:=A1 (cS.o rfl);go_wp2;go_ret;refine⟨rfl,dH.o.aa,aJ,.slice Y (pd.length+1) d,aO,aF,aA,pd++[(k,z,v)],aM.o.trans aE,.inl ⟨false,?_,cB.o.2,cB.o.1,aN.o⟩⟩;have:=bF.o.ak (A4.C Aa w8).aa;have en:({n with pv:=.slice Y (pd.length+1) d,CQ:=false}:WN) = {n with pv:=.slice Y (pd.length+1) d}:=by rw[<-b1]
  rw[en];exact this
 ·have HNE:Hid (¬(rf+1=rf)):=by intro h;omega
  have z9:=bF.o.Ae.fz 9;have s9:=bF.o.Ae.c9;have dW:Hid (∀w',LW w' H wb {n with pv:=.slice Y (pd.length+1) d,CQ:=true} b ld (KS sb ab b ld wc A7 (decide (cd≠0)) aA aO aF) aJ (pd++[(k,z,v)]) ls->Ag 51 #[A5 wb,A0 cd,.agg #[A0 rf,A0 fu]] w' λe a9=>e=.returned (.bool true)/\A4 Aa w' a9):=λw' hw=>by
   rcases b8.o with⟨q1,-⟩|⟨q1,q2,q3⟩|⟨q1,q2,q3,-⟩
   ·rcases aY with h|h<;>omega
   ·subst q1;exact Vj w' rf fu hw (by rw[q2,aS.o]) (by rw[q3,cD.o]) bM.o bE.o
   ·subst q1;exact Vh w' rf fu hw (by rw[q2,aS.o]) (by rw[q3,cD.o]) bM.o bE.o
  go_wp2_with (fail);have cQ:=bF.o.CO (n':={n with pv:=.slice Y (pd.length+1) d,CQ:=true}) 9 (.bool true) (bF.o.Ae.s9 true) rfl rfl rfl rfl;obtain⟨k9,h9⟩:=cQ;have mb8:w2.heap.size≠wb:=by have:=cE.o;omega
  have n8:(w8.setCell (A9 wb 9) (.bool true)).cell? (A9 w2.heap.size 0)=some (A0 rf):=(GN _ _ _ _ (by simp;try omega)).trans m8;have n9:(w8.setCell (A9 wb 9) (.bool true)).cell? (A9 w2.heap.size 1)=some (A0 fu):=(GN _ _ _ _ (by simp;try omega)).trans m9;have dN:=A1 h9;have dQ:Hid (A4 (Up H) w (w8.setCell (A9 wb 9) (.bool true))):=dH.o.tr k9;have dP:=A1 (dW.o _ (h9.ak (A4.C Aa _).aa));generalize (w8.setCell (A9 wb 9) (.bool true))=w9 at dN dQ dP n8 n9 ⊢;refine dP.k ?_;rintro aB a7;have a7:A4 Aa w9 aB:=(A4.C Aa w9).aa.tr a7;have O:=A1 (dN.o.ak a7);have bI:Hid (A4 (Up H) w aB):=dQ.o.bl a7;have e4:=O.o.Ae.c4;have bQ:=A1 O.o.Bh;rw[O.o.Df]at e4;have bB:cd=6->¬(200<=IntKind.i64.wrap (E7 n.Av-(us:Int))):=λe=>by have:=cA.o e;rw[<-aE,b9];omega
  have z5:=O.o.Ae.fz 5;have s5:=O.o.Ae.c5;have s6:=O.o.Ae.c6;have z6:=O.o.Ae.fz 6;have aZ:(pd++[(k,z,v)]).length=pd.length+1:=by simp
  obtain⟨a8,c8,aR,bG,bP,-⟩:=O.o.DC.BW;rw[aZ]at bG aR;simp only[Value.slice.injEq,true_and]at aR;obtain⟨-,aR⟩:=aR;subst aR;unfold maxLen at bP;have hcap0:pd.length<=d:=by omega
  have hnum:IntKind.i64.wrap ((pd.length:Int)+1)=((pd.length+1:Nat):Int):=by
   have:=bL.o;simp[IntKind.wrap,IntKind.bits,IntKind.signed];omega
  have cH:(pd++[(k,z,v)]).take (pd.length+1)=pd++[(k,z,v)]:=El (by simp);have hpl:pd.length<1099511627775:=by have:=bL.o;omega
  have cU:decide (cd≠0)=true:=by rcases aY with h|h<;>(subst h;rfl)
  rw[cU]at O;have dO:=A1 (λw' (aI:A4 Aa aB w')=>O6 w' (pd.length+1) (O.o.ak aI) aW rfl bX (by rw[aZ];omega) (by rw[aZ];omega) b5.o (λk hk=>by have:=aN.o k hk;omega) hl hc);rw[cH]at dO;cases hdd:aF.D.n.Bh with
  | true=>
   rw[hdd]at bQ;have E:Hid (A4 (Up H) w (aB.setCell (A9 wb 5) (.pointer none))/\LR t H wb sb ab b Ad ld wc A7 (aB.setCell (A9 wb 5) (.pointer none)) n ls):=by
    have⟨W,h11⟩:=O.o.CO (n':={n with pv:=.slice Y (pd.length+1) d,CQ:=true,sv:=.pointer none}) 5 (.pointer none) (O.o.Ae.s5 _) rfl rfl rfl rfl;have⟨Ft,h12⟩:=h11.bQ;exact⟨bI.o.tr W,Ft,.slice Y (pd.length+1) d,aO,aF,aA,pd++[(k,z,v)],aM.o.trans aE,.inr ⟨h12,dE.o hdd⟩⟩
   rcases aY with rfl|rfl
   ·go_wp2_with (go_at_call 36;refine bQ.k ?_;rintro I rfl);go_ret;exact⟨rfl,E.o⟩
   ·have h2:=bB rfl;have h3:decide (200<=IntKind.i64.wrap (E7 n.Av-(us:Int)))=false:=Cv h2;go_wp2_with (go_at_call 36;refine bQ.k ?_;rintro I rfl);go_ret;exact⟨rfl,E.o⟩
  | false=>
   rw[hdd]at bQ;have dT:=A1 (dF.o hdd);have bD:Hid (∀w',A4 Aa aB w'->Fk aA (pd++[(k,z,v)]) ld A7->A4 (Up H) w w'/\LR t H wb sb ab b Ad ld wc A7 w' n ls):=λw' aI hT=>by
    have⟨g1,g2⟩:=dT.o _ (.inl rfl) hT;exact⟨bI.o.bl aI,aJ,.slice Y (pd.length+1) d,aO,aF,aA,pd++[(k,z,v)],aM.o.trans aE,.inl ⟨true,O.o.ak aI,g2,g1,aN.o⟩⟩
   have bY:Hid (∀w',A4 Aa aB w'->¬Fk aA (pd++[(k,z,v)]) ld A7->A4 (Up H) w (w'.setCell (A9 wb 6) (.slice Y pd.length d))/\
    LW (w'.setCell (A9 wb 6) (.slice Y pd.length d)) H wb {n with pv:=.slice Y pd.length d,CQ:=true} b ld (KS sb ab b ld wc A7 true aA aO aF) aJ pd ls/\Fk aA pd ld A7/\(Rel aA pd ld A7/\St (t+1) aO aF pd Ad (AN A7 ld) true)):=λw' aI hT=>by
    have bW:=cI.o hT;have hw:=O.o.ak aI;have dA:GS w' (.slice Y pd.length d) pd:=by
     have h1:=hw.DC;unfold GS at h1 ⊢;rw[aZ]at h1;have h2:=OI h1 (m:=pd.length) (by omega);rw[Ig,List.take_left' (Zm pd)]at h2;exact h2
    have⟨g1,g2⟩:=hw.ev dA λg hg=>⟨hw.Ef g (.inr (.inl (by
     simp only[Value.ownBlock]at hg ⊢;cases Y with
     | none=>simp at hg
     | some a=>simpa using hg))),hw.nw g (.inr (.inl (by
     simp only[Value.ownBlock]at hg ⊢;cases Y with
     | none=>simp at hg
     | some a=>simpa using hg)))⟩
    exact⟨(bI.o.bl aI).tr g1,g2,bW,dT.o _ (.inr ⟨rfl,hT⟩) bW⟩
   have bR:Hid (∀w' b0,LW w' H wb {n with pv:=.slice Y pd.length d,CQ:=true} b ld (KS sb ab b ld wc A7 true aA aO aF) b0 pd ls->Fk aA pd ld A7->Ag 89 #[A5 wb,A0 pd.length] w' λe a9=>e=.returned (.bool true)/\A4 Aa w' a9):=λw' b0 hw hT=>by
    have:=O6 w' pd.length hw aW rfl bX (Ao _) (by omega) (λp hp=>b5.o p (G1 _ hp)) (λk hk=>by have:=aN.o k hk;omega) hl hc;rw[C5]at this;refine this.mono ?_;rintro e a9⟨t0,rfl,h1,h2⟩;exact⟨by rw[h1.2 hT],h2⟩
   (have e1:((pd.length+1:Nat):Int)=(pd.length:Int)+1:=by omega);have aU:=A1 (dO.o aB (A4.C _ _));rw[e1]at aU;have cG:=A1 (λw' (k:A4 Aa aB w')=>(O.o.ak k).Ae);rcases aY with rfl|rfl
   ·go_wp2_with (go_at_call 36;refine bQ.k ?_;rintro I rfl);refine aU.m ?_;rintro e I⟨t0,rfl,aK,W⟩;cases t0 with
    | true=>
     have E:=A1 (bD.o I W (aK.1 rfl));go_wp2;go_ret;exact⟨rfl,E.o⟩
    | false=>
     (have aQ:¬Fk aA (pd++[(k,z,v)]) ld A7:=λh=>by have:=aK.2 h;cases this);have⟨g1,g2,g3,g4,g5⟩:=bY.o I W aQ;have s6:=(cG.o I W).c6;have z6:=(cG.o I W).fz 6;have dJ:=A1 (bR.o _ _ g2 g3);have E:Hid (∀w',A4 Aa (I.setCell (A9 wb 6) (.slice Y pd.length d)) w'->A4 (Up H) w w'/\LR t H wb sb ab b Ad ld wc A7 w' n ls):=λw' k=>⟨g1.bl k,aJ,.slice Y pd.length d,aO,aF,aA,pd,aM.o.trans aE,.inl ⟨true,g2.ak k,g5,g4,aN.o⟩⟩
     clear aK aU g1 g2 g3 g4 g5 aQ;go_wp2_with (fail);refine dJ.k ?_;rintro bO bN;have aH:=A1 (E.o bO bN);go_wp2;go_ret;exact⟨rfl,aH.o⟩
   ·have h2:=bB rfl;have h3:decide (200<=IntKind.i64.wrap (E7 n.Av-(us:Int)))=false:=Cv h2;go_wp2_with (go_at_call 36;refine bQ.k ?_;rintro I rfl);refine aU.m ?_;rintro e I⟨t0,rfl,aK,W⟩;cases t0 with
    | true=>
     have E:=A1 (bD.o I W (aK.1 rfl));go_wp2;go_ret;exact⟨rfl,E.o⟩
    | false=>
     (have aQ:¬Fk aA (pd++[(k,z,v)]) ld A7:=λh=>by have:=aK.2 h;cases this);have⟨g1,g2,g3,g4,g5⟩:=bY.o I W aQ;have s6:=(cG.o I W).c6;have z6:=(cG.o I W).fz 6;have dJ:=A1 (bR.o _ _ g2 g3);have E:Hid (∀w',A4 Aa (I.setCell (A9 wb 6) (.slice Y pd.length d)) w'->A4 (Up H) w w'/\LR t H wb sb ab b Ad ld wc A7 w' n ls):=λw' k=>⟨g1.bl k,aJ,.slice Y pd.length d,aO,aF,aA,pd,aM.o.trans aE,.inl ⟨true,g2.ak k,g5,g4,aN.o⟩⟩
     clear aK aU g1 g2 g3 g4 g5 aQ;go_wp2_with (fail);refine dJ.k ?_;rintro bO bN;have aH:=A1 (E.o bO bN);go_wp2;go_ret;exact⟨rfl,aH.o⟩
end
def Tryz.e9:(Tryz.prog.info? 91).map (λi=>(i.zero,i.size,i.bytes))=some (some (.agg #[.slice none 0 0,A0 0]),2,32):=by kernel_rfl
section
variable{H wb b:Nat}{ld:Int}{R:Kind}{FT:Nat->Prop}{pd:gD Pu}
def KA(n0 n:WN):Prop:=n = {n0 with lv:=n.lv,FV:=n.FV}
structure Nz (w:gx) (H wb:Nat) (n:WN) (FT:Nat->Prop) (v:gy) (l:gD Pt):Prop where
 Bp:Ck w v l
 CE:l.length<1099511627776
 HC:∀g,v.ownBlock=some g->H<=g/\¬FY wb n g/\¬FT g
structure Gq (w0 w:gx) (H wb:Nat) (n0 n:WN) (b:Nat) (ld:Int) (R:Kind) (FT:Nat->Prop) (pd:gD Pu) (ls:gD (gy×Int)) (xb:Nat) (a c:Int) (v:gy) (l:gD Pt):Prop where
 GC:LW w H wb n b ld R FT pd ls
 EX:Nz w H wb n FT v l
 x0:w.cell? ⟨xb,0,none⟩=some (.int .i64 a)
 x1:w.cell? ⟨xb,1,none⟩=some (.int .i64 c)
 xn:∀g,v.ownBlock=some g->g≠xb
 xw:¬FY wb n xb
 Il:n.FV=c
 Nb:KA n0 n
 Am:A4 (Up H) w0 w
def Gq.Ak{d w:gx}{n0 n:WN}{z:gD (gy×Int)}{xb:Nat}{a c:Int}{v:gy}{l:gD Pt}(h:Gq d w H wb n0 n b ld R FT pd z xb a c v l):xb<w.heap.size:=GO w _ h.x0
def Gq.ak{z w w':gx}{n0 n:WN}{E:gD (gy×Int)}{xb:Nat}{a c:Int}{v:gy}{l:gD Pt}(h:Gq z w H wb n0 n b ld R FT pd E xb a c v l)(d:A4 Aa w w'):Gq z w' H wb n0 n b ld R FT pd E xb a c v l:=
 ⟨h.GC.ak d,⟨Au h.EX.Bp λg I=>d.Al g (Aw h.EX.Bp I) (λh=>h),h.EX.CE,h.EX.HC⟩,d.ah h.x0,d.ah h.x1,h.xn,h.xw,h.Il,h.Nb,h.Am.bl d⟩
def Gq.dx{L w w':gx}{n0 n:WN}{I:gD (gy×Int)}{xb:Nat}{a c:Int}{v z:gy}{l:gD Pt}{p:gy×Int}(h:Gq L w H wb n0 n b ld R FT pd I xb a c v l)(X:App w w' 91 2 n.lv z (I.length+1) (He I++He [p])):
 w'.cell? (A9 wb 14)=some n.lv/\w'.frozen? (A9 wb 14)=false/\Gq L (w'.setCell (A9 wb 14) z) H wb n0 {n with lv:=z} b ld R FT pd (I++[p]) xb a c v l:=by
 have⟨a1,a2,a3,a4,a5⟩:=h.GC.dx X;have O:=h.Ak;have d:∀k,(k=wb\/n.lv.oB k)->FY wb n k:=λk W=>W.elim .inl (λe=>.inr (.inr e));refine⟨a1,a2,a4,⟨?_,h.EX.CE,λg E=>?_⟩,?_,?_,h.xn,?_,h.Il,(show KA n0 {n with lv:=z} from (Ep (λm:WN=>({m with lv:=z}:WN)) (show n = {n0 with lv:=n.lv,FV:=n.FV} from h.Nb):({n with lv:=z}:WN) = {n0 with lv:=z,FV:=n.FV})),?_⟩
 ·exact Au h.EX.Bp λg E=>a3.Al g (Aw h.EX.Bp E) λe=>(h.EX.HC g E).2.1 (d g e)
 ·have⟨f1,f2,f3⟩:=h.EX.HC g E;refine⟨f1,?_,f3⟩;rintro (e|e|e)
  ·exact f2 (.inl e)
  ·exact f2 (.inr (.inl e))
  ·rcases a5 with q|q
   ·simp only at e;rw[q]at e;exact f2 (.inr (.inr e))
   ·simp only at e;rw[q]at e;cases e;have:=Aw h.EX.Bp E;omega
 ·exact Dt a3 h.x0 λe=>h.xw (d xb e)
 ·exact Dt a3 h.x1 λe=>h.xw (d xb e)
 ·rintro (e|e|e)
  ·exact h.xw (.inl e)
  ·exact h.xw (.inr (.inl e))
  ·rcases a5 with q|q
   ·simp only at e;rw[q]at e;exact h.xw (.inr (.inr e))
   ·simp only at e;rw[q]at e;cases e;omega
 ·exact h.Am.AH a3 λx O _=>h.GC.Ef x (d x O)
def Gq.fE{X w w':gx}{n0 n:WN}{W:gD (gy×Int)}{xb:Nat}{a c:Int}{v O:gy}{l:gD Pt}{p:Pt}(h:Gq X w H wb n0 n b ld R FT pd W xb a c v l)(E:App w w' 70 2 v O (l.length+1) (B7 l++B7 [p]))(hs:l.length+1<1099511627776):
 Gq X w' H wb n0 n b ld R FT pd W xb a c O (l++[p]):=by
 have I:=E.cw;have z:=h.Ak;have Y:=h.GC.Ak;refine⟨h.GC.bz I (λk L e=>(h.EX.HC k e).2.1 L) (λk L e=>(h.EX.HC k e).2.2 L),⟨?_,by simpa using hs,λg d=>?_⟩,Dt I h.x0 λe=>h.xn xb e rfl,Dt I h.x1 λe=>h.xn xb e rfl,λg d=>?_,h.xw,h.Il,h.Nb,h.Am.AH I λx z _=>(h.EX.HC x z).1⟩
 ·unfold Ck;have:=E.AB;rw[<-Lc]at this;simpa using this
 ·rcases E.BY with e|e
  ·rw[e]at d;exact h.EX.HC g d
  ·rw[e]at d;cases d;exact⟨Y,λz=>by have:=h.GC.ct z;omega,λz=>by have:=h.GC.lt _ z;omega⟩
 ·rcases E.BY with e|e
  ·rw[e]at d;exact h.xn g d
  ·rw[e]at d;cases d;omega
def Rc{n:WN}{ls:gD (gy×Int)}(w:gx)(v:gy)(l:gD Pt)(h:LW w H wb n b ld R FT pd ls)(hm:Nz w H wb n FT v l)(hll:l.length<1099511627000)(hls:ls.length<1099511627000):
 Ag 94 #[A5 wb,v] w (Aj (.tuple #[]) λw'=>A4 (Up H) w w'/\∃n' z,LW w' H wb n' b ld R FT pd z/\z.length=ls.length+4/\KA n n'):=by
 obtain⟨ad,cap,rfl,l1,l2,l3,-,-⟩:=B8 hm.Bp;have c15:=h.Ae.cT;have z15:=h.Ae.fz 15;have aO:=hm.CE;obtain⟨d,hcn⟩:∃d,IntKind.i64.wrap (n.FV+1)=d:=⟨_,rfl⟩;have hq:=h.CO (n':={n with FV:=d}) 15 (A0 d) (h.Ae.fm d) rfl rfl rfl rfl;obtain⟨k1,h1⟩:=hq;have aD:=A1 h1;have a4:=A1 k1;have a3:=A1 hm;have aK:=A1 l3;have aL:Hid (∀g,(Value.slice ad l.length cap).oB g->g<w.heap.size/\g≠wb):=λg hg=>⟨Aw hm.Bp hg,λe=>(hm.HC g hg).2.1 (.inl e)⟩
 have aA:(w.setCell (A9 wb 15) (A0 d)).cell? (A9 wb 15)=some (A0 d):=h1.Ae.cT
 go_enter func94,ntmps94
 go_wp2;generalize aE:(w.setCell (A9 wb 15) (A0 d))=w1 at aD a4 aA ⊢;have aW:w1.heap.size=w.heap.size:=by rw[<-aE];simp
 refine Br (λw'=>w'.cell? (A9 wb 15)=some (A0 d)) 11
  (Ba [0,1,2,3,4,5,6,7,8,9,10] [10]) aA ?_
 iterate 10 refine B4 ?_
 refine Bf λK hK=>?_;go_simp;have k2:A4 Aa w1 (w1.alloc (.cells #[A0 0,A0 0] 70)).drew:=((A4.C _ w1).aj _).aa;have X:(w1.alloc (.cells #[A0 0,A0 0] 70)).drew.heap[w.heap.size]?=some (.cells #[A0 0,A0 0] 70 (0,0)):=by rw[<-aW];exact Bl w1 _
 refine hK _ _ (k2.ah aA) (λhS=>?_);generalize (w1.alloc (.cells #[A0 0,A0 0] 70)).drew=w2 at k2 X ⊢;obtain⟨a,ha⟩:∃a,IntKind.i64.wrap (-d)=a:=⟨_,rfl⟩;have x0:w2.cell? (A9 w.heap.size 0)=some (A0 0):=D7 X;have x1:w2.cell? (A9 w.heap.size 1)=some (A0 0):=D7 X;have f0:w2.frozen? (A9 w.heap.size 0)=false:=by simp[World.frozen?,X]
 have f1:w2.frozen? (A9 w.heap.size 1)=false:=by simp[World.frozen?,X]
 have aN:Hid (Gq w ((w2.setCell (A9 w.heap.size 0) (A0 a)).setCell (A9 w.heap.size 1) (A0 d)) H wb n {n with FV:=d} b ld R FT pd ls w.heap.size a d (.slice ad l.length cap) l):=by
  have aG:((w2.setCell (A9 w.heap.size 0) (A0 a)).setCell (A9 w.heap.size 1) (A0 d)).heap[w.heap.size]?=some (.cells #[A0 a,A0 d] 70 (0,0)):=BQ (BQ X);have aB:=((A4.C (One w.heap.size) w2).ao (b:=w.heap.size) rfl 0 (A0 a)).ao (b:=w.heap.size) rfl 1 (A0 d);have h2:=aD.o.ak k2;have hf:∀k,FY wb n k->k≠w.heap.size:=λk E e=>by
   have:=aD.o.ct (k:=k) E;omega
  have aT:∀k,FT k->k≠w.heap.size:=λk E e=>by
   have:=aD.o.lt _ E;omega
  refine⟨h2.bz aB (λk E e=>hf k E e) (λk E e=>aT k E e),⟨?_,aO,a3.o.HC⟩,by simp only[World.cell?,aG];rfl,by simp only[World.cell?,aG];rfl,λg hg=>by have:=(aL.o g hg).1;omega,λhx=>hf _ hx rfl,rfl,rfl,?_⟩
  ·have E:A4 (λx=>x=wb\/x=w.heap.size) w ((w2.setCell (A9 w.heap.size 0) (A0 a)).setCell (A9 w.heap.size 1) (A0 d)):=by
    (have q1:A4 (One wb) w w1:=by rw[<-aE];exact(A4.C (One wb) w).ao rfl 15 _);exact((q1.ai (S':=λx=>x=wb\/x=w.heap.size) λ_ _ e=>.inl e).bl k2).AH aB λx hx _=>.inr hx
   exact Au a3.o.Bp λg hg=>E.Al g (aL.o g hg).1 λe=>by
    have:=aL.o g hg;rcases e with e|e<;>omega
  ·have hz:=aD.o.Ak;(exact(a4.o.bl k2).AH aB λx hx _=>by cases hx;unfold Up;omega)
 rw[ha];refine Bo ?_;go_wp2;generalize ((w2.setCell (A9 w.heap.size 0) (A0 a)).setCell (A9 w.heap.size 1) (A0 d))=w3 at aN ⊢;go_loopw [5] (λiv wr=>∃k:Nat,k<=l.length/\iv=A0 k/\Hid (∃l',l'.length=l.length/\Gq w wr H wb n {n with FV:=d} b ld R FT pd ls w.heap.size a d (.slice ad l.length cap) l')) (λiv _=>l.length-(intOf iv).toNat)
 ·exact⟨0,Ch _,rfl,l,rfl,aN.o⟩
 ·obtain⟨k,E,rfl,hT⟩:=hrel;obtain⟨w0,aY⟩:∃w0,w0=wr:=⟨_,rfl⟩;subst aY;have k0:=BJ k;by_cases aP:k<l.length
  ·(have i1:(k:Int)<(l.length:Int):=by omega);have⟨l',hl',hT'⟩:=hT.o;obtain⟨g,rfl⟩:=aK.o (by omega);(have O:k<l'.length:=by omega);have W:Ck w0 (AA g l.length cap) l':=hT'.EX.Bp;have⟨o0,o1⟩:=W.bu k O;have z0:=EK W (g:=g) rfl (k*2);have z1:=EK W (g:=g) rfl (k*2+1);have x0:=hT'.x0;have x1:=hT'.x1;have aX:Hid (∃l2,l2.length=l.length/\Gq w ((w0.setCell (A9 g (k*2)) (A0 a)).setCell (A9 g (k*2+1)) (A0 d)) H wb n {n with FV:=d} b ld R FT pd ls w.heap.size a d (AA g l.length cap) l2):=by
    have L:=W;unfold Ck at L;rw[hl']at L;have s1:=(L.stored (k*2) (A0 a)).1;have s2:=(s1.stored (k*2+1) (A0 d)).1;have e:=La l' k (a,d) O;simp only at e;rw[e]at s2;have⟨f1,f2,f3⟩:=hT'.EX.HC g rfl;have hc:=((A4.C (One g) w0).ao (b:=g) rfl (k*2) (A0 a)).ao (b:=g) rfl (k*2+1) (A0 d);have aQ:=hT'.xn g rfl;have hx:∀o u,w0.cell? (A9 w.heap.size o)=some u->((w0.setCell (A9 g (k*2)) (A0 a)).setCell (A9 g (k*2+1)) (A0 d)).cell? (A9 w.heap.size o)=some u:=λo u hu=>Dt hc hu λe=>aQ e.symm;refine⟨l'.set k (a,d),by rw[HK];exact hl',hT'.GC.bz hc (λk E e=>f2 (by cases e;exact E)) (λk E e=>f3 (by cases e;exact E)),⟨?_,by rw[HK];exact hT'.EX.CE,hT'.EX.HC⟩,hx _ _ x0,hx _ _ x1,hT'.xn,hT'.xw,rfl,rfl,hT'.Am.AH hc λx hx _=>by cases hx;exact f1⟩;unfold Ck;rw[HK,hl'];exact s2
   obtain⟨u0,aS⟩:∃u0,(l'[k]'O).1=u0:=⟨_,rfl⟩;obtain⟨u1,a0⟩:∃u1,(l'[k]'O).2=u1:=⟨_,rfl⟩;rw[aS]at o0;rw[a0]at o1;go_wp2;go_roundw
   ·exact⟨k+1,by omega,by go_num,aX.o⟩
   ·simp[intOf];omega
  ·(obtain rfl:k=l.length:=by omega);clear aN;go_wp2;clear aK aL;have⟨l0,hl0,hT0⟩:=hT.o;have aF:=A1 hT0;have⟨i0,hi,hz0,hz1,hz2⟩:=DL Tryz.e9;have⟨j0,hj,hy0,hy1,hy2⟩:=DL Tryz.cr;clear hT hT0;go_loopw [1,6] (λvv iv wr=>∃k:Nat,k<=4/\iv=A0 k/\Hid (∃l' n' z,l'.length<=l.length+k/\z.length=ls.length+k/\Gq w wr H wb n n' b ld R FT pd z w.heap.size a d vv l')) (λ_ iv _=>4-(intOf iv).toNat)
   ·exact⟨0,by omega,rfl,l0,_,ls,by omega,rfl,aF.o⟩
   ·obtain⟨k,E,rfl,hT⟩:=hrel;obtain⟨w4,aM⟩:∃w4,w4=wr:=⟨_,rfl⟩;subst aM;have k0:=BJ k;by_cases aP:k<4
    ·(have i1:(k:Int)<4:=by omega);have⟨l',n',z,hl',hls',hT'⟩:=hT.o;have c14:=hT'.GC.Ae.eA;have c15:=hT'.GC.Ae.cT;rw[hT'.Il]at c15;have x0:=hT'.x0;have x1:=hT'.x1;obtain⟨aa,cc,rfl,-⟩:=B8 hT'.EX.Bp;have aJ:=A1 hT';have a1:=A1 hl';have aU:=A1 hls';(have bl:l'.length+1<1099511627776:=by omega);(have bls:z.length+1<1099511627776:=by omega);clear hT hT' aF hl' hls';go_wp2;refine Br (λw'=>w'.cell? (A9 wb 14)=some n'.lv/\w'.cell? (A9 wb 15)=some (A0 d)) 13
      (Ba [0,1,2,3,4,5,6,7,8,9,10,11,12] [11,12]) ⟨c14,c15⟩ ?_
     iterate 11 refine B4 ?_
     refine Bf λK hK=>?_;go_simp;have k5:A4 Aa w4 (w4.alloc (.cells #[.slice aa l'.length cc,A0 d] 91)).drew:=((A4.C _ w4).aj _).aa;refine hK _ _ ⟨k5.ah c14,k5.ah c15⟩ (λhS=>?_);clear hK K hS;have I:=A1 (aJ.o.ak k5);have aV:Hid (Src Tryz.prog 2 38 (AA w4.heap.size 1 1) 1 (He [(.slice aa l'.length cc,d)]) (w4.alloc (.cells #[.slice aa l'.length cc,A0 d] 91)).drew):=
      Src.cc (w:=(w4.alloc (.cells #[.slice aa l'.length cc,A0 d] 91)).drew) (cs:=#[.slice aa l'.length cc,A0 d]) underlying38 (Bl w4 _) 1 1 rfl (by
       intro u hu;simp at hu;rcases hu with rfl|rfl<;>rfl)
     clear k5 aJ;generalize (w4.alloc (.cells #[.slice aa l'.length cc,A0 d] 91)).drew=w5 at I aV ⊢;refine Dv rfl (by rfl) (λK hK=>?_);refine HP (.tmp 43) (.tmp 50) 38 38 rfl 91 i0 _ 2 32 underlying38 hi hz0 hz1 hz2 rfl (by decide) n'.lv z.length (He z) (by rfl) I.o.GC.EL _ 1 _ (by rfl) aV.o (by omega) ?_;intro b6 Y w6 hA;have⟨y14,z14,hT6⟩:=I.o.dx hA;have aH:w6.cell? (A9 wb 15)=some (A0 d):=Dt hA.cw (I.o.GC.Ae.cT.trans (by rw[I.o.Il])) I.o.GC.b9;refine hK _ _ ⟨y14,aH⟩ (λhS=>?_);have x0':=hT6.x0;have x1':=hT6.x1;have a2:=A1 hT6;clear hK K hS hA aV I hT6 c14 c15 x0 x1 aH;refine Bo ?_;have aI:=A1 (a2.o.ak ((A4.C Aa (w6.setCell (A9 wb 14) (.slice b6 (z.length+1) Y))).aj (.cells #[A0 a,A0 d] 70)));have aZ:Hid (Src Tryz.prog 2 66 (AA w6.heap.size 1 1) 1 (B7 [(a,d)]) ((w6.setCell (A9 wb 14) (.slice b6 (z.length+1) Y)).alloc (.cells #[A0 a,A0 d] 70))):=
      Src.bc (B:=w6.heap.size) underlying66 (w6.setCell (A9 wb 14) (.slice b6 (z.length+1) Y)) #[A0 a,A0 d] 70 (by simp) 1 1 rfl (Lb [(a,d)])
     go_wp2_with (at_builtin;refine CU rfl (.tmp 54) (.tmp 56) 66 66 rfl 70 j0 _ 2 16 underlying66 hj hy0 hy1 hy2 rfl (by decide) (.slice aa l'.length cc) l'.length (B7 l') (by rfl) aI.o.EX.Bp _ 1 _ (by rfl) aZ.o (by omega) ?_;intro b8 cap8 w8 hA;have aR:=A1 (aI.o.fE hA (by omega));clear hA);go_roundw
     ·exact⟨k+1,by omega,by go_num,l'++[(a,d)],_,_,by have:=a1.o;simp;omega,by have:=aU.o;simp;omega,aR.o⟩
     ·simp[intOf];omega
    ·(obtain rfl:k=4:=by omega);go_wp2;go_end0;have⟨l',n',z,hl',hls',hT'⟩:=hT.o;exact⟨rfl,hT'.Am,n',z,hT'.GC,hls',hT'.Nb⟩
end
section
variable{w w':gx}{H wb sb ab b:Nat}{n:WN}{ld wc A7:Int}{ro:Bool}{L:Nat->gD Pt}{A:Ar}{P:PD}{FT:Nat->Prop}{pd:gD Pu}{ls:gD (gy×Int)}
def LW.cH(h:LW w H wb n b ld (KS sb ab b ld wc A7 ro L A P) FT pd ls):∃lv,Bx w sb 0 (A5 ab) ld wc A7 ro lv/\Es w lv L:=by
 obtain⟨lv,F0,d,-⟩:=h.Et;exact⟨lv,d.Ae,d.E6⟩
def A3H(w:gx)(a Y c3:Int)(tv:gy)(h:LW w H wb n b ld (KS sb ab b ld wc A7 ro L A P) FT pd ls)(aA:n.sv=(A5 sb))(aI:n.Cx=A7)(aD:n.CQ=ro):
 Ag 55 #[A5 wb,.agg #[A0 5,A0 a,A0 Y,A0 c3,tv]] w (Aj (.bool true) λw'=>A4 Aa w w'):=by
 have hA:=(A4.C Aa w).aj (BL 5 a Y c3 tv);obtain⟨o0,-,-,-⟩:=GB w 5 a Y c3 tv;have I:=h.ak hA;generalize aH:w.alloc (BL 5 a Y c3 tv)=w1 at hA o0 I;unfold BL at aH;have c4:=I.Ae.c4;rw[I.Df]at c4;have c5:=I.Ae.c5;rw[aA]at c5;have E:Hid (∀w',A4 Aa w1 w'->Ag 49 #[A5 b] w' (Aj (A0 P.D.n.Bc) λd=>w'=d)):=λw' k=>(I.ak k).Bc
 obtain⟨lv,aB,-⟩:=I.cH;have ST:=A1 (Rw w1 aB);generalize hcn:P.D.n.Bc=cn at E;have aL:=A1 (E.o w1 (A4.C _ _));have aK:=A1 hA;have aJ:=A1 I
 go_enter func55,ntmps55
 go_wp2_with (first
  | (go_at_call 49;refine aL.k ?_;rintro d rfl)
  | (go_at_call 38;refine ST.k ?_;rintro d aF;have aG:=A1 aF))
 have z:A4 Aa w1 (d.alloc (.cells #[.bool ro,A0 A7] 74)):=aG.o.aj _;have W:=Bl d (.cells #[.bool ro,A0 A7] 74);have d0:A8 (d.alloc (.cells #[.bool ro,A0 A7] 74)) d.heap.size 0 (.bool ro):=D7 W;have d1:A8 (d.alloc (.cells #[.bool ro,A0 A7] 74)) d.heap.size 1 (A0 A7):=D7 W;generalize (d.alloc (.cells #[.bool ro,A0 A7] 74))=w3 at z d0 d1 ⊢;have b9:=(aJ.o.ak z).Ae.c9;rw[aD]at b9;have O:=(aJ.o.ak z).Ae.bt;rw[aI]at O;have e4:=z.ah c4;have X:=A1 z;refine Br (λw'=>A8 w' d.heap.size 0 (.bool ro)/\A8 w' d.heap.size 1 (A0 A7)/\A8 w' wb 9 (.bool ro)/\A8 w' wb 10 (A0 A7)) 16
  (Ba [0,1,2,3,4,5,6,7,8,9,10,11,12,13,14,15] []) ⟨d0,d1,b9,O⟩ ?_
 iterate 16 refine B4 ?_
 refine Bo ?_;have aE:=A1 (E.o w3.drew X.o.aa);go_wp2_with (go_at_call 49;refine aE.k ?_;rintro w4 rfl);go_ret;exact⟨rfl,aK.o.tr X.o.aa⟩
def A3I{k:Nat}(w:gx)(a d:Int)(tv:gy)(h:LW w H wb n b ld (KS sb ab b ld wc A7 ro L A P) FT pd ls)(aF:n.sv=(A5 sb))(aJ:n.Cx=A7)(hR:Rel L pd ld A7)(hk:k<8)(hp:∀p∈pd,Ay p.2.1)(hpl:pd.length<1099511627000)(aP:ls.length<1099511627000)(hl:1<=ld/\ld<=4611686018427387904)(hc:Ay A7):
 Ag 55 #[A5 wb,.agg #[A0 3,A0 k,A0 a,A0 d,tv]] w (Aj (.bool true) λw'=>A4 (Up H) w w'/\∃n' O,LW w' H wb n' b ld (KS sb ab b ld wc A7 ro L A P) FT pd O/\O.length=ls.length+4/\KA n n'):=by
 have hA:=(A4.C Aa w).aj (BL 3 k a d tv);have⟨o0,o1,o2,o3⟩:=GB w 3 k a d tv;have W:=h.ak hA;generalize aI:w.alloc (BL 3 k a d tv)=w1 at hA o0 o1 o2 o3 W;unfold BL at aI;have c4:=W.Ae.c4;rw[W.Df]at c4;have c5:=W.Ae.c5;rw[aF]at c5;have aZ:=A1 (W.Bc);generalize aG:P.D.n.Bc=cn at aZ;have aK:=A1 aG;have a1:=A1 hA;have aH:=W.ak (A4.C Aa w1).aa;have⟨lv,hsb,hrw⟩:=aH.cH;have aL:=A1 (MC w1.drew k a d hsb hrw hk hl hc);have aU:=hR.dD hp hk a d;rw[aU]at aL;have aQ:=Sk pd k a d ld A7;have aS:Hid (∀w',A4 Aa w1 w'->_):=λw' k'=>Sw w' n.pv pd pd.length (W.ak k').DC (Ao _) (by omega) hp k a d ld A7 hl hc;rw[C5]at aS;generalize hQ:refQ pd k a d ld A7=Q at aL aS aQ;have a2:Hid (∀w',Ag 91 #[A0 k] w' (Aj (.bool true) λw2=>w'=w2)):=λw'=>by
  have:=Mz k w';have e:FF (k:Int)=true:=by unfold FF;simp;omega
  rwa [e]at this
 have I:=A1 W;obtain⟨ap,cp,aA,-⟩:=W.DC.BW
 go_enter func55,ntmps55
 go_wp2_with (go_at_call 49;refine aZ.k ?_;rintro w2 rfl);refine Br (λw'=>A8 w' wb 5 (A5 sb)/\A8 w' w.heap.size 1 (A0 k)/\A8 w' w.heap.size 2 (A0 a)/\A8 w' w.heap.size 3 (A0 d)) 15
  (Ba [0,1,2,3,4,5,6,7,8,9,10,11,12,13,14] [10]) ⟨c5,o1,o2,o3⟩ ?_
 iterate 10 refine B4 ?_
 refine Bf λK hK=>?_;go_simp;refine aL.m ?_;rintro e w2⟨v,rfl,hv,z,aR⟩;have k2:A4 Aa w1 w2:=⟨z.os,z.DU,z.DW,z.Ak,z.Al⟩;have p1:=k2.ah o1;have p2:=k2.ah o2;have p3:=k2.ah o3;refine hK _ _ ⟨k2.ah c5,p1,p2,p3⟩ (λhS=>?_);have aW:=A1 k2;have aY:=A1 hv;have a3:Hid (∀g,v.oB g->w1.heap.size<=g):=aR;have aE:=A1 (I.o.ak k2)
 iterate 4 refine B4 ?_
 refine Bo ?_;go_wp2_with (go_at_call 91;refine(a2.o _).k ?_;rintro w6 rfl);have c6:=aE.o.Ae.c6;rw[aA]at c6;have c0:=aE.o.Ae.c0;rw[aE.o.Gb]at c0;have c10:=aE.o.Ae.bt;rw[aJ]at c10;have aX:=A1 (aS.o w2.drew aW.o.aa);rw[aA]at aX;refine Br (λw'=>A8 w' wb 6 (.slice ap pd.length cp)/\A8 w' wb 0 (A0 ld)/\A8 w' wb 10 (A0 A7)/\A8 w' w.heap.size 1 (A0 k)/\A8 w' w.heap.size 2 (A0 a)/\A8 w' w.heap.size 3 (A0 d)) 25
  (Ba [0,1,2,3,4,5,6,7,8,9,10,11,12,13,14,15,16,17,18,19,20,21,22,23,24] [24]) ⟨c6,c0,c10,p1,p2,p3⟩ ?_
 iterate 24 refine B4 ?_
 refine Bf λK hK=>?_;go_simp;refine aX.m ?_;rintro e w3⟨v2,rfl,aN,E,hfr3⟩;have X:A4 Aa w2 w3:=⟨E.os,E.DU,E.DW,E.Ak,E.Al⟩;refine hK _ _ ⟨X.ah c6,X.ah c0,X.ah c10,X.ah p1,X.ah p2,X.ah p3⟩ (λhS=>?_);have a0:Hid (A4 Aa w1 w3):=aW.o.tr X;have Y:Hid (Ck w3 v Q):=Au aY.o λg hg=>X.Al g (Aw aY.o hg) (λh=>h);have a9:Hid (Ag 93 #[v,v2] w3 (Aj (.bool true) λw'=>A4 Aa w3 w')):=by
  have:=RK w3 v v2 Q Q Y.o aN (by omega) (by omega)
  rwa [Cu rfl]at this
 refine Bo ?_;go_wp2_with (go_at_call 93;refine a9.k ?_;rintro w4 k4;have aV:Hid (A4 Aa w1 w4):=a0.o.tr k4;have aO:Hid (Ck w4 v Q):=Au Y.o (λg hg=>k4.Al g (Aw Y.o hg) (λh=>h)));have a4:=A1 (I.o.ak aV.o)
 have a6:Hid (Nz w4 H wb n FT v Q):=⟨aO.o,by omega,λg hg=>by
  have aM:=a3.o g hg
  exact⟨AP I.o.Ak aM,λhx=>by have:=I.o.ct hx;omega,λhx=>by have:=I.o.lt _ hx;omega⟩⟩
 have a8:=A1 (Rc w4 v Q a4.o a6.o (by omega) aP);refine a8.k ?_;rintro w5⟨k5,n',O,hW,aT,aD⟩;have aB:=A1 (hW.Bc);rw[aK.o]at aB;have d4:=hW.Ae.c4;rw[hW.Df]at d4;have a7:Hid (A4 (Up H) w w5):=((a1.o.tr aV.o).aT (S:=Up H)).tr k5;have a5:=A1 hW;go_wp2_with (go_at_call 49;refine aB.k ?_;rintro w6 rfl);go_ret;exact⟨rfl,a7.o,n',O,a5.o,aT,aD⟩
def A3J(w:gx)(k a I:Int)(tv:gy)(h:LW w H wb n b ld (KS sb ab b ld wc A7 ro L A P) FT pd ls)(aA:n.sv=(A5 sb))(hk:¬(0<=k/\k<8))(aJ:ls.length<1099511627000):
 Ag 55 #[A5 wb,.agg #[A0 3,A0 k,A0 a,A0 I,tv]] w (Aj (.bool true) λw'=>A4 (Up H) w w'/\∃n' z,LW w' H wb n' b ld (KS sb ab b ld wc A7 ro L A P) FT pd z/\z.length=ls.length+4/\KA n n'):=by
 have hA:=(A4.C Aa w).aj (BL 3 k a I tv);have⟨o0,o1,o2,o3⟩:=GB w 3 k a I tv;have E:=h.ak hA;generalize aH:w.alloc (BL 3 k a I tv)=w1 at hA o0 o1 o2 o3 E;unfold BL at aH;have c4:=E.Ae.c4;rw[E.Df]at c4;have c5:=E.Ae.c5;rw[aA]at c5;have aL:=A1 (E.Bc);generalize aB:P.D.n.Bc=cn at aL;have aD:=A1 aB;have aP:=A1 hA;have aG:=E.ak (A4.C Aa w1).aa;obtain⟨lv,aF,-⟩:=aG.cH;have aN:=A1 (Zd w1.drew k a I aF hk);have aS:Hid (∀w',Ag 91 #[A0 k] w' (Aj (.bool false) λO=>w'=O)):=λw'=>by
  have:=Mz k w';have e:FF k=false:=by unfold FF;simp;omega
  rwa [e]at this
 have aI:=A1 E
 go_enter func55,ntmps55
 go_wp2_with (go_at_call 49;refine aL.k ?_;rintro O rfl);refine Br (λw'=>A8 w' wb 5 (A5 sb)/\A8 w' w.heap.size 1 (A0 k)/\A8 w' w.heap.size 2 (A0 a)/\A8 w' w.heap.size 3 (A0 I)) 15
  (Ba [0,1,2,3,4,5,6,7,8,9,10,11,12,13,14] [10]) ⟨c5,o1,o2,o3⟩ ?_
 iterate 10 refine B4 ?_
 refine Bf λK hK=>?_;go_simp;refine aN.k ?_;rintro O d;have Y:A4 Aa w1 O:=⟨d.os,d.DU,d.DW,d.Ak,d.Al⟩;have p1:=Y.ah o1;refine hK _ _ ⟨Y.ah c5,p1,Y.ah o2,Y.ah o3⟩ (λhS=>?_);have aK:=A1 Y
 iterate 4 refine B4 ?_
 refine Bo ?_;have aQ:=A1 (aI.o.ak aK.o);have aM:Hid (Nz O H wb n FT (.slice none 0 0) []):=⟨Co _ _ _ _,by decide,λg hg=>by simp[Value.ownBlock]at hg⟩;have aT:=A1 (Rc O (.slice none 0 0) [] aQ.o aM.o (by decide) aJ)
 go_wp2_with (first
  | (go_at_call 91;refine(aS.o _).k ?_;rintro w6 rfl))
 refine aT.k ?_;rintro w5⟨k5,n',z,hW,aE,X⟩;have W:=A1 (hW.Bc);rw[aD.o]at W;have d4:=hW.Ae.c4;rw[hW.Df]at d4;have aO:Hid (A4 (Up H) w w5):=((aP.o.tr aK.o).aT (S:=Up H)).tr k5;have aR:=A1 hW;go_wp2_with (go_at_call 49;refine W.k ?_;rintro w6 rfl);go_ret;exact⟨rfl,aO.o,n',z,aR.o,aE,X⟩
end
section
variable{w w':gx}{H wb sb ab b:Nat}{n:WN}{ld wc A7:Int}{ro:Bool}{L:Nat->gD Pt}{A:Ar}{P:PD}{FT:Nat->Prop}{pd:gD Pu}{ls:gD (gy×Int)}
def X9(w:gx)(X a W c3:Int)(tv:gy)(h:LW w H wb n b ld (KS sb ab b ld wc A7 ro L A P) FT pd ls)(Y:n.sv=(A5 sb))(ha:a<0):
 Ag 56 #[A5 wb,.agg #[A0 X,A0 a,A0 W,A0 c3,tv]] w (Aj (.bool true) λw'=>A4 Aa w w'):=by
 have hA:=(A4.C Aa w).aj (BL X a W c3 tv);obtain⟨-,o1,-,-⟩:=GB w X a W c3 tv;have z:=h.ak hA;generalize aB:w.alloc (BL X a W c3 tv)=w1 at hA o1 z;unfold BL at aB;have c4:=z.Ae.c4;rw[z.Df]at c4;have c5:=z.Ae.c5;rw[Y]at c5;have aE:=A1 (z.Bc);obtain⟨lv,aA,-⟩:=(z.ak (A4.C Aa w1).aa).cH;have aF:=A1 (Xb w1.drew a aA ha);have I:Hid (∀w',A4 Aa w1 w'->Ag 49 #[A5 b] w' (Aj (A0 P.D.n.Bc) λE=>w'=E)):=λw' k=>(z.ak k).Bc
 generalize hcn:P.D.n.Bc=cn at aE I;have aH:=A1 hA;have aI:Hid (∀w',A4 Aa w1 w'->A8 w' wb 4 (A5 b)):=λw' k=>k.ah c4
 go_enter func56,ntmps56
 go_wp2_with (go_at_call 49;refine aE.k ?_;rintro E rfl);refine Br (λw'=>A8 w' wb 5 (A5 sb)/\A8 w' w.heap.size 1 (A0 a)) 7
  (Ba [0,1,2,3,4,5,6] [6]) ⟨c5,o1⟩ ?_
 iterate 6 refine B4 ?_
 refine Bf λK hK=>?_;go_simp;refine aF.k ?_;rintro E O;have d:A4 Aa w1 E:=⟨O.os,O.DU,O.DW,O.Ak,O.Al⟩;have d5:=d.ah c5;have p1:=d.ah o1;refine hK _ _ ⟨d5,p1⟩ (λhS=>?_);have aD:=A1 (I.o E d);have d4:=aI.o E d;have aG:Hid (A4 Aa w E):=aH.o.tr d;refine Bo ?_;go_wp2_with (go_at_call 49;refine aD.k ?_;rintro w3 rfl);go_ret;exact⟨rfl,aG.o⟩
def X8(w:gx)(X a W c3:Int)(tv:gy)(h:LW w H wb n b ld (KS sb ab b ld wc A7 ro L A P) FT pd ls)(O:n.sv=(A5 sb))(aG:n.Cx=A7)(ha:0<=a/\a<=9223372036854775807)(hl:1<=ld/\ld<=4611686018427387904)(hc:Ay A7):
 Ag 56 #[A5 wb,.agg #[A0 X,A0 a,A0 W,A0 c3,tv]] w (Aj (.bool true) λw'=>A4 (Up H) w w'/\
  ∃d z,LW w' H wb {n with Cx:=DJ A7 a} b ld (KS sb ab b ld wc (DJ A7 a) ro z A P) d pd ls/\Hr L z (AN (DJ A7 a) ld)):=by
 have hA:=(A4.C Aa w).aj (BL X a W c3 tv);obtain⟨-,o1,-,-⟩:=GB w X a W c3 tv;have I:=h.ak hA;have aE:w.heap.size<(w.alloc (BL X a W c3 tv)).heap.size:=by simp
 have aB:=h.lt;have hwl:=h.Ae.lt;generalize aF:w.alloc (BL X a W c3 tv)=w1 at hA o1 I aE;unfold BL at aF;have c4:=I.Ae.c4;rw[I.Df]at c4;have c5:=I.Ae.c5;rw[O]at c5;have aH:=A1 (I.Bc)
 have aI:Hid (Ag 27 #[A5 sb,A0 a] w1.drew (Aj (A0 0) λw'=>A4 (Up H) w1 w'/\w'.cell? (A9 wb 5)=some (A5 sb)/\w'.cell? (A9 w.heap.size 1)=some (A0 a)/\w'.cell? (A9 wb 10)=some (A0 A7)/\w'.frozen? (A9 wb 10)=false/\
  ∃d z,LW w' H wb n b ld (KS sb ab b ld wc (DJ A7 a) ro z A P) d pd ls/\Hr L z (AN (DJ A7 a) ld))):=by
  have Y:=I.ak (A4.C Aa w1).aa;have⟨lv,F0,hs0,hsub⟩:=Y.Et;refine(Rb w1.drew a hs0.Ae hs0.E6 ha hl hc).k ?_;rintro w'⟨lv',z,hS,hF⟩;have E:=hs0.cO hsub hS;have⟨q1,FT2,q2⟩:=Y.cM (KS.E5 sb ab b ld wc (DJ A7 a) ro z A P) E;refine⟨rfl,⟨q1.os,q1.DU,q1.DW,q1.Ak,q1.Al⟩,?_,?_,?_,q2.Ae.fz 10,FT2,z,q2,hF⟩
  ·rw[q2.Ae.c5,O]
  ·exact Dt (w:=w1.drew) E.1 o1 (λhx=>by have:=aB _ hx;omega)
  ·rw[q2.Ae.bt,aG]
 have aM:=A1 (Ra A7 a);generalize hcn:P.D.n.Bc=cn at aH;have aK:=A1 hA
 go_enter func56,ntmps56
 go_wp2_with (go_at_call 49;refine aH.k ?_;rintro w2 rfl);refine Br (λw'=>w'.cell? (A9 wb 5)=some (A5 sb)/\w'.cell? (A9 w.heap.size 1)=some (A0 a)) 7
  (Ba [0,1,2,3,4,5,6] [6]) ⟨c5,o1⟩ ?_
 iterate 6 refine B4 ?_
 refine Bf λK hK=>?_;go_simp;refine aI.k ?_;rintro w2⟨k2,d5,p1,d10,z10,hR⟩;refine hK _ _ ⟨d5,p1⟩ (λhS=>?_);have aL:=A1 hR;have aJ:Hid (A4 (Up H) w w2):=(aK.o.aT (S:=Up H)).tr k2;have aD:=A1 (aM.o w2.drew hc ha);refine Bo ?_;obtain⟨ha1,ha2⟩:=ha;go_wp2;refine Br (λw'=>w'.cell? (A9 wb 10)=some (A0 A7)/\w'.cell? (A9 w.heap.size 1)=some (A0 a)) 8
  (Ba [0,1,2,3,4,5,6,7] [7]) ⟨d10,p1⟩ ?_
 iterate 7 refine B4 ?_
 refine Bf λK hK=>?_;go_simp;refine aD.k ?_;rintro w3 rfl;refine hK _ _ ⟨d10,p1⟩ (λhS=>?_);refine Bo ?_;go_wp2;go_ret;have⟨d,z,q1,q2⟩:=aL.o;have aA:=q1.ak (A4.C Aa w2).aa;have⟨r1,r2⟩:=aA.CO 10 (A0 (DJ A7 a)) (aA.Ae.cm (DJ A7 a)) rfl rfl rfl rfl;exact⟨rfl,aJ.o.aa.tr r1,d,z,r2,q2⟩
end
def EA.al{H:Nat}{w w':gx}{v:gy}(h:EA H w v)(I:A4 (Up H) w w'):EA H w' v:=by
 obtain⟨ts,⟨z,cap,e,X,hj⟩,L,E⟩:=h;refine⟨ts,⟨z,cap,e,X,λj d=>?_⟩,L,E⟩;have⟨tb,to_,e2,h4,h5⟩:=hj j d;have W:=E z _ cap (A9 tb to_) (λO=>absurd (O ▸ d) (KC _)) e e2;exact⟨tb,to_,e2,Bn h4 I.Ak,Dt I h5 λY=>by unfold Up at Y;dsimp only at W;omega⟩
section
variable{w w':gx}{H wb t t' B:Nat}{ld:Int}{n:WN}{pd:gD Pu}{ls:gD (gy×Int)}
def DA.ai(h:DA t H wb ld w n pd ls)(d:t<=t'):DA t' H wb ld w n pd ls:=by
 obtain⟨h1,W,h3,h4,b,Ad,P,FT,h5,h6,h7⟩:=h;refine⟨h1,W,h3,by omega,b,Ad,P,FT,h5,h6,?_⟩;rcases h7 with⟨sb,ab,X,L,A,E,z,I,g4,g5,O,g7,g8,Y⟩|⟨E,z,I⟩
 ·exact .inl ⟨sb,ab,X,L,A,E,z,I,g4,g5,O,g7.ai d,g8,λk hk=>AP (Y k hk) d⟩
 ·exact .inr ⟨E,z,I.ai d⟩
def DA.ak(h:DA t H wb ld w n pd ls)(E:A4 Aa w w'):DA t H wb ld w' n pd ls:=by
 obtain⟨h1,W,h3,Y,b,Ad,P,FT,h5,h6,h7⟩:=h;refine⟨h1,W,h3.al (E.aT),Y,b,Ad,P,FT,h5,h6,?_⟩;rcases h7 with⟨sb,ab,X,L,A,z,d,I,g4,g5,O,g7⟩|⟨z,d,I⟩
 ·exact .inl ⟨sb,ab,X,L,A,z,d,I,g4,g5,O.ak E,g7⟩
 ·exact .inr ⟨z,d.ak E,I⟩
def DA.Ae(h:DA t H wb ld w n pd ls):AS w wb n:=by
 obtain⟨-,-,-,-,b,Ad,P,FT,-,-,d⟩:=h;rcases d with⟨_,_,_,_,_,_,_,_,_,_,g,-⟩|⟨-,g,-⟩<;>exact g.Ae
def LI(w:gx)(H wb:Nat)(ld:Int)(t:Nat):Prop:=∃n pd ls,DA t H wb ld w n pd ls
def Wr(w:gx)(kd k tt v:Int)(tv:gy)(h:DA t H wb ld w n pd ls)(aA:n.sv≠.pointer none)(hL:Lets B w)(aB:B<=H)(ht:t+1<=330000)(aD:Ay tt)(hv:Ay v):
 Ag 54 #[A5 wb,.agg #[A0 kd,A0 k,A0 tt,A0 v,tv]] w (Aj (.bool true) λw'=>A4 (Up H) w w'/\LI w' H wb ld (t+1)):=by
 obtain⟨X,h2,h3,h4,b,Ad,P,FT,h5,h6,h7⟩:=h;rcases h7 with⟨sb,ab,O,L,A,E,W,g3,g4,g5,g6,Y,g8,g9⟩|⟨E,-⟩
 ·by_cases hk:0<=k/\k<8
  ·cases O with
   | true=>
    refine(Ws w kd k tt v tv g6 E W Y.pb (by omega) h6 hk).k ?_;rintro w'⟨z,d,hW⟩;exact⟨rfl,z,n,pd,ls,DA.ai ⟨X,h2,h3.al z,h4,b,Ad,P,d,h5,h6,.inl ⟨sb,ab,true,L,A,E,W,g3,g4,g5,hW,Y,g8,g9⟩⟩ (by omega)⟩
   | false=>
    refine(Wt (Ad:=Ad) w kd k tt v tv g6 E W rfl Y g8 ht h6 ⟨hk,aD,hv⟩ g9 g4 X hL aB).k ?_;rintro w'⟨z,d,I,aF,aE,aG,q,q1,q2⟩;rcases q2 with⟨O,r1,r2,r3,r4⟩|⟨r1,r2⟩
    ·exact⟨rfl,z,{n with pv:=I,CQ:=O},q,ls,X,h2,h3.al z,by omega,b,Ad,aE,d,h5,q1,.inl ⟨sb,ab,O,aG,aF,E,rfl,g3,g4,g5,r1,r2,r3,r4⟩⟩
    ·exact⟨rfl,z,{n with pv:=I,CQ:=true,sv:=.pointer none},q,ls,X,h2,h3.al z,by omega,b,Ad,aE,d,h5,q1,.inr ⟨rfl,r1,r2⟩⟩
  ·refine(Wu w kd k tt v tv g6 E W Y.pb (by omega) h6 hk).k ?_;rintro w'⟨z,d,hW⟩;exact⟨rfl,z,n,pd,ls,DA.ai ⟨X,h2,h3.al z,h4,b,Ad,P,d,h5,h6,.inl ⟨sb,ab,O,L,A,E,W,g3,g4,g5,hW,Y,g8,g9⟩⟩ (by omega)⟩
 ·exact absurd E aA
def A3G(w:gx)(kd k a Y:Int)(tv:gy)(aB:kd=3\/kd=5)(h:DA t H wb ld w n pd ls)(aA:n.sv≠.pointer none)(ht:t+1<=330000):
 Ag 55 #[A5 wb,.agg #[A0 kd,A0 k,A0 a,A0 Y,tv]] w (Aj (.bool true) λw'=>A4 (Up H) w w'/\LI w' H wb ld (t+1)):=by
 obtain⟨h1,h2,h3,h4,b,Ad,P,FT,h5,h6,h7⟩:=h;rcases h7 with⟨sb,ab,ro,L,A,E,g2,g3,g4,g5,X,g7,g8,g9⟩|⟨E,-⟩
 ·have hlen:=g7.Be;have fin:∀w' n' d,A4 (Up H) w w'->KA n n'->LW w' H wb n' b ld (KS sb ab b ld n.wc n.Cx ro L A P) FT pd d->d.length=ls.length+4->LI w' H wb ld (t+1):=λw' n' d z W O hl=>by
   obtain⟨lv',c',rfl⟩:∃lv' c',n' = {n with lv:=lv',FV:=c'}:=⟨_,_,W⟩;exact⟨{n with lv:=lv',FV:=c'},pd,d,h1,h2,h3.al z,by omega,b,Ad,P,FT,h5,h6,.inl ⟨sb,ab,ro,L,A,E,g2,g3,g4,g5,O,g7.ai (ER t),g8,λk hk=>JO (g9 k hk)⟩⟩
  rcases aB with rfl|rfl
  ·by_cases hk:0<=k/\k<8
   ·obtain⟨k',rfl⟩:∃k':Nat,k=k':=⟨k.toNat,by omega⟩;refine(A3I w a Y tv X E rfl g8 (by omega) (λp hp=>(g7.pu p hp).2.1) (by omega) (by omega) g4 h1).k ?_;rintro w'⟨z,n',d,O,I,W⟩;exact⟨rfl,z,fin w' n' d z W O I⟩
   ·refine(A3J w k a Y tv X E hk (by omega)).k ?_;rintro w'⟨z,n',d,O,I,W⟩;exact⟨rfl,z,fin w' n' d z W O I⟩
  ·refine(A3H w k a Y tv X E rfl g2).k ?_;rintro w' z;exact⟨rfl,z.aT,n,pd,ls,DA.ai (DA.ak ⟨h1,h2,h3,h4,b,Ad,P,FT,h5,h6,.inl ⟨sb,ab,ro,L,A,E,g2,g3,g4,g5,X,g7,g8,g9⟩⟩ z) (by omega)⟩
 ·exact absurd E aA
def X7(w:gx)(kd a b3 c3:Int)(tv:gy)(h:DA t H wb ld w n pd ls)(Y:n.sv≠.pointer none)(ha:Ay a):
 Ag 56 #[A5 wb,.agg #[A0 kd,A0 a,A0 b3,A0 c3,tv]] w (Aj (.bool true) λw'=>A4 (Up H) w w'/\LI w' H wb ld (t+1)):=by
 obtain⟨O,h2,h3,h4,b,Ad,P,FT,h5,h6,h7⟩:=h;rcases h7 with⟨sb,ab,ro,L,A,d,g2,g3,g4,g5,W,g7,g8,g9⟩|⟨d,-⟩
 ·obtain⟨ha1,z⟩:=ha;by_cases h0:a<0
  ·refine(X9 w kd a b3 c3 tv W d h0).k ?_;rintro w' I;exact⟨rfl,I.aT,n,pd,ls,DA.ai (DA.ak ⟨O,h2,h3,h4,b,Ad,P,FT,h5,h6,.inl ⟨sb,ab,ro,L,A,d,g2,g3,g4,g5,W,g7,g8,g9⟩⟩ I) (by omega)⟩
  ·have E:n.Cx<=DJ n.Cx a:=by
    obtain⟨k1,k2⟩:=O;unfold DJ;split<;>omega
   refine(X8 w kd a b3 c3 tv W d rfl ⟨by omega,z⟩ g4 O).k ?_;rintro w'⟨I,X,aA,hW,hF⟩;refine⟨rfl,I,{n with Cx:=DJ n.Cx a},pd,ls,DA.ai ⟨Mm O (by omega) z,h2,h3.al I,h4,b,Ad,P,X,h5,h6,.inl ⟨sb,ab,ro,aA,A,d,g2,g3,g4,g5,hW,g7.bj (MK E),g8.eY (λp hp=>(g7.pu p hp).2.1) E hF,λk hk=>?_⟩⟩ (by omega)⟩;have:=hF.Be hk;have:=g9 k hk;omega
 ·exact absurd d Y
def XK(w:gx)(d a z c3:Int)(tv:gy)(h:DA t H wb ld w n pd ls)(E:n.sv≠.pointer none)(hL:Lets B w)(aH:B<=H)(ht:t+1<=330000)(ha:Ay a)(hb:Ay z)(aJ:Ay c3)(hk:d∉[1,6,7,8,9,10,11]):
 Ag 18 #[A5 wb,.agg #[A0 d,A0 a,A0 z,A0 c3,tv]] w (Aj (.bool true) λw'=>A4 (Up H) w w'/\LI w' H wb ld (t+1)):=by
 have hA:=(A4.C Aa w).aj (BL d a z c3 tv);have⟨o0,o1,o2,o3⟩:=GB w d a z c3 tv;have o4:(w.alloc (BL d a z c3 tv)).cell? (A9 w.heap.size 4)=some tv:=by
  have Y:=Bl w (BL d a z c3 tv);unfold BL at Y ⊢;simp only[World.cell?,Y];rfl
 have O:=h.ak hA;have aA:=hL.aL hA;generalize aF:w.alloc (BL d a z c3 tv)=w1 at hA o0 o1 o2 o3 o4 O aA;unfold BL at aF;have c5:∃sb,w1.cell? (A9 wb 5)=some (A5 sb):=by
  have hb:=O.Ae.c5;obtain⟨-,-,-,-,b,Ad,P,FT,-,-,h7⟩:=O;rcases h7 with⟨sb,ab,ro,L,A,g1,-⟩|⟨g1,-⟩
  ·exact⟨sb,by rw[hb,g1]⟩
  ·exact absurd g1 E
 obtain⟨sb,c5⟩:=c5;have aN:Hid (∀d,Ag 54 #[A5 wb,.agg #[A0 d,A0 a,A0 z,A0 c3,tv]] w1 (Aj (.bool true) λw'=>A4 (Up H) w1 w'/\LI w' H wb ld (t+1))):=λd=>Wr w1 d a z c3 tv O E aA aH ht hb aJ;have aL:Hid (∀d,d=3\/d=5->Ag 55 #[A5 wb,.agg #[A0 d,A0 a,A0 z,A0 c3,tv]] w1 (Aj (.bool true) λw'=>A4 (Up H) w1 w'/\LI w' H wb ld (t+1))):=λd aE=>A3G w1 d a z c3 tv aE O E ht;have aK:Hid (∀d,Ag 56 #[A5 wb,.agg #[A0 d,A0 a,A0 z,A0 c3,tv]] w1 (Aj (.bool true) λw'=>A4 (Up H) w1 w'/\LI w' H wb ld (t+1))):=λd=>X7 w1 d a z c3 tv O E ha;have aM:Hid (LI w1 H wb ld (t+1)):=⟨n,pd,ls,O.ai (ER t)⟩;have aB:Hid (A4 (Up H) w w1):=hA.aT;simp only[BS,VV,or_false,not_or]at hk;obtain⟨n1,n6,n7,n8,n9,n10,n11⟩:=hk;by_cases e2:d=2
 ·subst e2;have aG:=A1 (aN.o 2)
  go_enter func18,ntmps18
  go_wp2_with (go_at_call 54;refine aG.k ?_;rintro w2⟨k2,hI⟩;have W:=A1 k2;have X:=A1 hI);go_ret;exact⟨rfl,aB.o.tr W.o,X.o⟩
 ·by_cases I:d=3\/d=5
  ·have aD:=A1 (aL.o d I);rcases I with rfl|rfl
   all_goals
    go_enter func18,ntmps18
    go_wp2_with (go_at_call 55;refine aD.k ?_;rintro w2⟨k2,hI⟩;have W:=A1 k2;have X:=A1 hI);go_ret;exact⟨rfl,aB.o.tr W.o,X.o⟩
  ·by_cases e4:d=4
   ·subst e4;have aI:=A1 (aK.o 4)
    go_enter func18,ntmps18
    go_wp2_with (go_at_call 56;refine aI.k ?_;rintro w2⟨k2,hI⟩;have W:=A1 k2;have X:=A1 hI);go_ret;exact⟨rfl,aB.o.tr W.o,X.o⟩
   ·have e3:¬d=3:=λe=>I (.inl e);have e5:¬d=5:=λe=>I (.inr e)
    go_enter func18,ntmps18
    go_wp2;go_ret;exact⟨rfl,aB.o,aM.o⟩
def XM(w:gx)(d a z c3:Int)(tv:gy)(h:AS w wb n)(E:n.sv=.pointer none)(O:d∉[1,6,7,8,9,10,11]):
 Ag 18 #[A5 wb,.agg #[A0 d,A0 a,A0 z,A0 c3,tv]] w (Aj (.bool true) λw'=>A4 Aa w w'):=by
 have I:=(A4.C Aa w).aj (BL d a z c3 tv);have⟨o0,o1,o2,o3⟩:=GB w d a z c3 tv;have W:=h.ak I;generalize L:w.alloc (BL d a z c3 tv)=w1 at I o0 o1 o2 o3 W;unfold BL at L;have c5:=W.c5;rw[E]at c5;have X:=A1 I;simp only[BS,VV,or_false,not_or]at O;obtain⟨n1,n6,n7,n8,n9,n10,n11⟩:=O
 go_enter func18,ntmps18
 go_wp2;go_ret;exact⟨rfl,X.o⟩
end
end
end Go.Proofs.YtodcnkbblippnaaGreatDoor
