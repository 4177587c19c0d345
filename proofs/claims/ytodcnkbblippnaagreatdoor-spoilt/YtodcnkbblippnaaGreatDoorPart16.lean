/- Part 16 of a proof: walks of the program. -/
import Derived.Test.YtodcnkbblippnaaGreatDoorPart13
namespace Go.Proofs.YtodcnkbblippnaaGreatDoor
set_option maxRecDepth 100000
set_option maxHeartbeats 32000000
set_option linter.defProp false
open Go.Proofs.Tryz
section
open Go.RowKit
attribute [local go_sem ↓] Go.wp_at_zero Go.wp_at_succ
def A3n(w:ga)(b:Nat)(D:DS)(F:Nat->FC)(Ft:Nat->Prop)(h:Dh w b D F Ft)(hs:D.A4.length<549755813888/\D.AI.length<549755813888/\∀l∈D.As,l.length<1099511627776)(bR:∀l:gh Nat,l.Nodup->(∀f∈l,D.Ap f)->l.length<1099511627776)(hs2:D.As.length<1099511627776)(hF:∀f,D.Ap f->(F f).1.length<=1099511627776):
 Ag 47 #[A5 b] w λe w'=>∃b2 r bF aL,e=.returned (A5 b2)/\Dh w' b2 (D.ren r) bF aL/\(∀k,aL k->w.heap.size<=k/\k<w'.heap.size)/\A3 Ab w w'/\
  (∀f,D.Ap f->bF (r f)=F f)/\∀f f',D.Ap f->D.Ap f'->r f=r f'->f=f':=by
 obtain⟨vd,vs,vc,vals,bH,Y,hft⟩:=h;obtain⟨hsA,hsB,bS⟩:=hs;have bX:=A1 bS;have bU:=A1 bR;have aA:=A1 Y;have bK:=A1 hF;have c0:=Y.Ah.c0;have c1:=Y.Ah.c1;have c2:=Y.Ah.c2;have c3:=Y.Ah.c3;have c4:=Y.Ah.c4;have c5:=Y.Ah.c5;have c6:=Y.Ah.c6;have c7:=Y.Ah.c7;have c8:=Y.Ah.c8;have c9:=Y.Ah.c9;have c10:=Y.Ah.bW;obtain⟨ac,pc,rfl,hc1,bP,aJ,hcnone,hcform⟩:=B9 Y.Al;unfold maxLen at bP;have aX:=A1 aJ
 have bY:Hid (∀(vl:gd) (es:gh AM) (W:ga) (L M:gh Nat) (vo vm:gd) (aS:Nat->gd),D8 w vl es->(∀f,Dm f es->D.Ap f)->es.length<1099511627776->A3 Ab w W->CS w.heap.size W (w.heap.size+1) (w.heap.size+2) F L M vo vm aS->L.length<1099511627776->
  Ag 87 #[vl,A5 (w.heap.size+1),A5 (w.heap.size+2)] W λe w'=>∃v b1 bZ a4 a8 a7 bM,e=.returned v/\EE w.heap.size W (w.heap.size+1) (w.heap.size+2) F L M vo vm aS es es.length es.length v w' b1 bZ a4 a8 a7 bM):=
  λvl es W L M vo vm aS h1 h2 h3 h4 h5 h6=>A0v aA.o h4 h5 h1 h2 bK.o ⟨h3,h6⟩
 have bW:Hid (∀W,A3 Ab w W->W.cell? (Ac b 0)=some vd/\W.cell? (Ac b 1)=some vs):=λW hc=>
  ⟨(E3 (hc.An b aA.o.Ah.lt (λh=>h))).trans aA.o.Ah.c0,(E3 (hc.An b aA.o.Ah.lt (λh=>h))).trans aA.o.Ah.c1⟩
 have a9:w.heap.size≠b:=by have:=aA.o.Ah.lt;omega
 go_enter func47,ntmps47
 go_wp2;refine L6 33 (by kernel_rfl) (by kernel_rfl) ?_;simp only[M7,Fe,EZ,DW,Dz]
 repeat still_step
 refine L7 ?_;go_wp2;generalize bQ:(((w.alloc (.cells #[.slice none 0 0,.slice none 0 0,.slice none 0 0,A0 D.n.AA,A0 D.n.AQ,A0 D.n.Ce,A0 D.n.Cv,A0 D.n.BC,A0 D.n.Bl,A0 D.n.fulls,.bool D.n.AW] 95)).alloc (.cells #[.slice none 0 0] 138)).alloc (.cells #[.slice none 0 0] 138)).drew=W1;have⟨cs1,hb1,hc1W⟩:=A3m w D.n F bH W1 bQ.symm;have bT:=A1 hb1;have aD:=A1 cs1;have I:=A1 hc1W;refine G0 (λw'=>w'.cell? (Ac b 0)=some vd/\w'.cell? (Ac b 1)=some vs) 17
  (BG [0,1,2,3,4,5,6,8,9,10,11,12,7,13,14,15,16] [7,13,16]) (by kernel_rfl) (by kernel_rfl) (λ_ _ _ _ _ h=>h) (bW.o _ I.o.ag) ?_
 iterate 12 (refine Ek (v:=?_) rfl (by rfl) ?_ ?_;rotate_left;(· (intro w' O;(try dsimp only at O);go_simp;try with_reducible rfl));(try simp only[Cs]))
 refine Eb rfl (by rfl) (λK hK=>?_);go_simp;refine(bY.o vd D.A4 _ _ _ _ _ _ aA.o.A4 (λf hf=>.inl hf) (by omega) I.o.ag (aD.o.Al (A3.I Ab W1).ag (λ_ _ h=>h) (λ_ _ h=>h)) (by simp)).mono ?_;rintro e w2⟨v1,L,M,vo,vm,a7,e1,rfl,aN⟩;obtain⟨a1,k1,rfl,-⟩:=D8.Cd aN.EW;have aQ:=A1 aN;have aR:=A1 <| aN.cz I.o.ag (aD.o.Al (A3.I Ab W1).ag (λ_ _ h=>h) (λ_ _ h=>h));have hL:L.length<=D.A4.length:=by
  have⟨o,q1,q2,_⟩:=aN.GO;rw[q1];simpa using q2
 refine hK _ _ (bW.o _ aR.o) (λO=>?_)
 (try simp only[Cs])
 refine Eb rfl (by rfl) (λK hK=>?_);go_simp;refine(bY.o vs D.AI _ _ _ _ _ _ aA.o.AI (λf hf=>.inr (.inl hf)) (by omega) aR.o aQ.o.cs (by omega)).mono ?_;rintro e w3⟨v2,b1,bZ,a4,a8,VB3,e2,rfl,aT⟩;obtain⟨a2,k2,rfl,-⟩:=D8.Cd aT.EW;have a3:Hid (A3 Ab w w3):=aT.cz aR.o aQ.o.cs;have aK:=A3l (aD.o.Al (A3.I Ab W1).ag (λ_ _ h=>h) (λ_ _ h=>h)) ((bT.o:AK W1.drew _ _ _ _ _)) I.o.ag aQ.o aT;have z0:=aK.1.c0;have z1:=aK.1.c1;have zf:=aK.1.fz;have bE:=A1 aK.2;refine hK _ _ (bW.o _ a3.o) (λO=>?_);obtain⟨s0,s1⟩:=O
 (try simp only[Cs])
 iterate 2 (refine Ek (v:=?_) rfl (by rfl) ?_ ?_;rotate_left;(· (intro w' O;(try dsimp only at O);go_simp;try with_reducible rfl));(try simp only[Cs]))
 refine Eb rfl (by rfl) (λK hK=>?_);go_simp;refine hK _ _ ?_ (λO=>?_)
 ·simp[World.cell?_setCell_far,a9,s0,s1]
 (try simp only[Cs])
 have c2b:w3.cell? (Ac b 2)=some (.slice ac D.As.length pc):=(E3 (a3.o.An b aA.o.Ah.lt (λh=>h))).trans c2;refine G1 ?_;simp only[DW,Dz];go_wp2;generalize hW4:(w3.setCell (Ac w.heap.size 0) (.slice a1 e1.length k1)).setCell (Ac w.heap.size 1) (.slice a2 e2.length k2)=W4 at bE ⊢;go_loopw [67] (λiv wr=>∃i:Nat,i<=D.As.length/\iv=A0 i/\Hid (∃L M vo vm z bH d cs,CR w.heap.size w wr w.heap.size (w.heap.size+1) (w.heap.size+2) D F i L M vo vm (.slice a1 e1.length k1) (.slice a2 e2.length k2) z bH d e1 e2 cs)) (λiv _=>D.As.length-(intOf iv).toNat)
 ·exact⟨0,Cb _,rfl,_,_,_,_,_,_,_,_,bE.o⟩
 ·obtain⟨i,hi,rfl,bD⟩:=hrel;by_cases aG:i<D.As.length
  ·have⟨L3,M3,vo3,vm3,z,VB4,d,cs,k0⟩:=bD.o;have aI:=A1 k0;obtain⟨gc,rfl⟩:=aX.o (by omega);have⟨vk,hvk,hek⟩:=aA.o.Df i aG;have bL:=AF aA.o.Al (g:=gc) rfl;have m1:wr.cell? (Ac gc i)=some vk:=(E3 (k0.Al.An gc bL (λh=>h))).trans (BH aA.o.Al (g:=gc) rfl hvk);obtain⟨E,H,rfl,hk1,hk2,-⟩:=D8.Cd hek;have bA:=A1 hek;obtain⟨es,aF⟩:∃es,D.As[i]'aG=es:=⟨_,rfl⟩;(have bB:es.length<1099511627776:=by rw[<-aF];exact bX.o _ (BU aG));have bI:L3.length<1099511627776:=bU.o _ k0.GU.IG k0.Uw;rw[aF]at bA;have bV:=A1 aF;have aY:Hid (∀f,Dm f es->D.Ap f):=λf hf=>.inr (.inr ⟨_,BU aG,aF ▸ hf⟩);have hi0:=C3 i;(have hi1:(i:Int)<(D.As.length:Int):=by omega);rw[aF]at m1;have⟨p0,hp,hp0,hp1,hp2⟩:=Eg Tryz.dT;have hsz:w.heap.size<wr.heap.size:=aI.o.Ah.lt;have aM:Hid (CS w.heap.size ((wr.alloc (.cells #[.slice E es.length H] 120)).drew) (w.heap.size+1) (w.heap.size+2) F L3 M3 vo3 vm3 VB4):=aI.o.GU.Al ((A3.I Ab wr).al (.cells #[.slice E es.length H] 120)).ag (λ_ _ h=>h) (λ_ _ h=>h);have bG:Hid (A3 Ab w ((wr.alloc (.cells #[.slice E es.length H] 120)).drew)):=(aI.o.Al.al (.cells #[.slice E es.length H] 120)).ag;have aZ:=BL wr (.cells #[.slice E es.length H] 120);(have n0:(wr.alloc (.cells #[.slice E es.length H] 120)).cell? (Ac wr.heap.size 0)=some (.slice E es.length H):=by unfold World.cell?;rw[aZ];rfl);have n1:(wr.alloc (.cells #[.slice E es.length H] 120)).cell? (Ac w.heap.size 2)=some z:=(aI.o.Ah.al (.cells #[.slice E es.length H] 120)).c2;have b0:=A1 aZ;go_wp2;refine G0 (λw'=>w'.cell? (Ac w.heap.size 2)=some z/\w'.cell? (Ac wr.heap.size 0)=some (.slice E es.length H)) 12
    (BG [0,1,2,3,4,5,6,7,8,9,10,11] [8,10,11]) (by kernel_rfl) (by kernel_rfl) (λ_ _ _ _ _ h=>h) ⟨n1,n0⟩ ?_
   iterate 8 (refine Ek (v:=?_) rfl (by rfl) ?_ ?_;rotate_left;(· (intro w' O;(try dsimp only at O);go_simp;try with_reducible rfl));(try simp only[Cs]))
   refine Eb rfl (by rfl) (λK hK=>?_);go_simp;refine(bY.o _ es _ _ _ _ _ _ bA.o aY.o bB bG.o aM.o bI).mono ?_;rintro e w5⟨v5,L5,M5,vo5,vm5,VB5,aE,rfl,aB⟩;obtain⟨a5,k5,rfl,-⟩:=D8.Cd aB.EW;have bN:=A1 aB;have bC:AK w5 w.heap.size (.slice a1 e1.length k1) (.slice a2 e2.length k2) z D.n:=
    (aB.Al.An _ (by simp;omega) (aM.o.b3 (aI.o.Ah.al (.cells #[.slice E es.length H] 120)) (.inr (.inr rfl)))).trans (aI.o.Ah.al (.cells #[.slice E es.length H] 120))
   have a0:w5.heap[wr.heap.size]?=some (.cells #[.slice E es.length H] 120 (0,0)):=(aB.Al.An _ (by simp) (aM.o.b3 b0.o (.inr (.inl rfl)))).trans b0.o;have aO:w5.ownsRow 0 120 1 z i d:=Ax aI.o.ch λg hg=>by
    have⟨c,hh⟩:=Be aI.o.ch hg;have h1:((wr.alloc (.cells #[.slice E es.length H] 120)).drew).heap[g]?=some (Obj.cells c 120 (0,0)):=(Di _ _ _ (Bv hh)).trans hh;exact((aB.Al.An _ (Bv h1) (aM.o.b3 h1 (.inr (.inl rfl)))).trans h1).trans hh.symm
   have p1:=bC.c2;(have p2:w5.cell? (Ac wr.heap.size 0)=some (.slice E es.length H):=by simp[World.cell?,a0]);have aH:=A1 bC;have aV:=A1 a0;have aP:Hid ((w5.alloc (.cells #[.slice a5 aE.length k5] 120)).ownsRow 0 120 1 z i d):=Ax aO λg hg=>Di _ _ _ (AF aO hg);have aU:Hid (∀w6 v6 n xs,App (w5.alloc (.cells #[.slice a5 aE.length k5] 120)) w6 120 1 z v6 n xs->(w6.cell? (Ac w.heap.size 2)=some z/\w6.cell? (Ac wr.heap.size 0)=some (.slice E es.length H))/\w6.frozen? (Ac w.heap.size 2)=false):=by
    intro w6 v6 n xs hA
    have x1:w6.heap[w.heap.size]?=w5.heap[w.heap.size]?:=(hA.Cx.block _ (by have:=aH.o.lt;simp;omega) (λe=>by
     have⟨c,hh⟩:=Be aP.o e.symm
     exact BR hh (aH.o.al _) (by decide) rfl)).trans (Di _ _ _ aH.o.lt)
    have x2:w6.heap[wr.heap.size]?=w5.heap[wr.heap.size]?:=(hA.Cx.block _ (by have:=Bv aV.o;simp;omega) (λe=>by
     have:=AF aI.o.ch e.symm;omega)).trans (Di _ _ _ (Bv aV.o))
    exact⟨⟨(E3 x1).trans aH.o.c2,by simp[World.cell?,x2,aV.o]⟩,(aH.o.ay x1).fz 2⟩
   have bO:Hid (Src Tryz.prog 1 93 (AH w5.heap.size 1 1) 1 [.slice a5 aE.length k5] (w5.alloc (.cells #[.slice a5 aE.length k5] 120))):=
    Src.bh underlying93 w5 #[.slice a5 aE.length k5] 120 w5.heap.size rfl 1 1 rfl (by simp[Value.oneCell'])
   (have bJ:(i+1)*24<=140737488355328:=by omega);refine hK _ _ ⟨p1,p2⟩ (λO=>?_)
   (try simp only[Cs])
   (refine Ek (v:=?_) rfl (by rfl) ?_ ?_;rotate_left;(· (intro w' O;(try dsimp only at O);go_simp;try with_reducible rfl));(try simp only[Cs]))
   refine Eb rfl (by rfl) (λK hK=>?_);go_simp;refine hK _ _ ?_ (λO=>?_)
   ·simp[World.cell?_alloc_some,p1,p2]
   (try simp only[Cs])
   refine Eb rfl (by rfl) (λK hK=>?_);refine Ir (.tmp 75) (.tmp 81) 93 93 (by rfl) 120 p0 _ 1 24 underlying93 hp hp0 hp1 hp2 rfl (by decide) z i d (by rfl) aP.o _ 1 _ (by rfl) bO.o bJ ?_;intro a6 k6 w6 hA;have⟨r1,r2⟩:=aU.o _ _ _ _ hA;have aW:=A1 (aI.o.a7 (nq:=0) aG bV.o (((A3.I Ab wr).al (.cells #[.slice E es.length H] 120)).ag) bN.o hA);refine hK _ _ r1 (λO=>?_);obtain⟨r1,-⟩:=r1
   (try simp only[Cs])
   refine G1 ?_;simp only[DW,Dz];go_wp2;go_roundw
   ·exact⟨i+1,by omega,by go_num,_,_,_,_,_,_,_,_,aW.o⟩
   ·simp[intOf];omega
  ·(obtain rfl:i=D.As.length:=by omega);have⟨L3,M3,vo3,vm3,z,VB4,d,cs,k0⟩:=bD.o;have⟨r,bF,aL,q1,q2,q3,q4,q5⟩:=k0.e4;have b6:=A1 q1;have b7:=A1 q2;have b4:=A1 q4;have b5:=A1 q5;have b3:=A1 q3;go_wp2;go_ret;exact⟨_,r,bF,aL,rfl,b6.o,b7.o,b3.o,b4.o,b5.o⟩
def TQ:∀ {l m:gh Nat},l.Nodup->(∀x∈l,x∈m)->l.length<=m.length
 | [],_,_,_=>Cb _
 | x::r,m,h,hs=>by
  have z:=hs x (Bt ..);have d:=KL.1 h;have:=TQ (m:=m.erase x) d.2 λy hy=>(A41 λe=>d.1 (by rw[<-e];exact hy)).2 (hs y (Bp _ hy))
  rw[A44 z]at this;have:=A43 z;simp only[Cg];omega
def Xb(D:DS)(F:Nat->FC):Prop:=∃K,K<1099511627776/\(∀f,D.Ap f->f<K)/\D.A4.length<549755813888/\D.AI.length<549755813888/\(∀l∈D.As,l.length<1099511627776)/\D.As.length<1099511627776/\∀f,D.Ap f->(F f).1.length<=1099511627776
def VC{w:ga}{b:Nat}{D:DS}{F:Nat->FC}{Ft:Nat->Prop}(h:B1 w b D F Ft)(hC:Xb D F):
 Ag 47 #[A5 b] w λe w'=>∃W z,e=.returned (A5 W)/\B1 w' W D F z/\(∀k,z k->w.heap.size<=k/\k<w'.heap.size)/\A3 Ab w w':=by
 obtain⟨r,G,h1,h2,h3⟩:=h;obtain⟨K,c1,c2,c3,c4,c5,c6,c7⟩:=hC;have⟨l1,l2,l3,l4⟩:=Ks D r
 refine(A3n w b _ G Ft h1 ⟨by rw[l1];exact c3,by rw[l2];exact c4,λl Y=>?_⟩ (λl hn Y=>?_) (by rw[l3];exact c6) (λf' d=>by
  obtain⟨f,E,rfl⟩:=DS.cJ d
  rw[h2 f E];exact c7 f E)).mono ?_
 ·obtain⟨l0,E,rfl⟩:=CC.1 Y;rw[Jj];exact c5 l0 E
 ·have:=TQ (m:=(List.range K).map r) hn λx H=>by
   obtain⟨f,E,rfl⟩:=DS.cJ (Y x H);exact E5 (NN.2 (c2 f E))
  rw[FW,List.length_range]at this;omega
 rintro e w'⟨W,O,aA,z,E,q2,q3,q4,q5,q6⟩;have I:(D.ren r).ren O=D.ren (λf=>O (r f)):=by
  have e:∀es:gh AM,Go.Proofs.YtodcnkbblippnaaGreatDoor.ren O (Go.Proofs.YtodcnkbblippnaaGreatDoor.ren r es)=Go.Proofs.YtodcnkbblippnaaGreatDoor.ren (λf=>O (r f)) es:=λes=>by simp[Go.Proofs.YtodcnkbblippnaaGreatDoor.ren]
  simp only[DS.ren,e,WO]
  congr 1
  exact NP λc _=>e c
 have hid:∀f,D.Ap f->(D.ren r).Ap (r f):=by
  rintro f (⟨x,H,rfl⟩|⟨x,H,rfl⟩|⟨c,hc,x,H,rfl⟩)
  ·exact .inl ⟨_,E5 H,rfl⟩
  ·exact .inr (.inl ⟨_,E5 H,rfl⟩)
  ·exact .inr (.inr ⟨_,E5 hc,_,E5 H,rfl⟩)
 refine⟨W,z,E,⟨λf=>O (r f),aA,I ▸ q2,λf L=>?_,λf f' L d e=>?_⟩,q3,q4⟩
 ·rw[q5 (r f) (hid f L),h2 f L]
 ·exact h3 f f' L d (q6 _ _ (hid f L) (hid f' d) e)
end
end Go.Proofs.YtodcnkbblippnaaGreatDoor
