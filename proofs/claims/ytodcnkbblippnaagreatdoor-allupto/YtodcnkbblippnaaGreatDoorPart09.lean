/- Part 9 of a proof: walks of the program. -/
import Derived.Test.YtodcnkbblippnaaGreatDoorPart08
namespace Go.Proofs.YtodcnkbblippnaaGreatDoor
set_option maxRecDepth 100000
set_option maxHeartbeats 32000000
set_option linter.defProp false
open Go.Proofs.Tryz
section
open Go.RowKit
attribute [local go_sem ↓] Go.wp_at_zero Go.wp_at_succ
def A20(w:gC)(b:Nat)(D:DS)(F:Nat->FC)(Ft:Nat->Prop)(h:Dk w b D F Ft)(hs:D.A6.length<549755813888/\D.AG.length<549755813888/\∀l∈D.As,l.length<1099511627776)(bR:∀l:gF Nat,l.Nodup->(∀f∈l,D.Aq f)->l.length<1099511627776)(hs2:D.As.length<1099511627776)(hF:∀f,D.Aq f->(F f).1.length<=1099511627776):
 Ag 47 #[A5 b] w λe w'=>∃b2 r bF aL,e=.returned (A5 b2)/\Dk w' b2 (D.ren r) bF aL/\(∀k,aL k->w.heap.size<=k/\k<w'.heap.size)/\A4 Aa w w'/\
  (∀f,D.Aq f->bF (r f)=F f)/\∀f f',D.Aq f->D.Aq f'->r f=r f'->f=f':=by
 obtain⟨vd,vs,vc,vals,bH,Y,hft⟩:=h;obtain⟨hsA,hsB,bS⟩:=hs;have bX:=A1 bS;have bU:=A1 bR;have aA:=A1 Y;have bK:=A1 hF;have c0:=Y.Ae.c0;have c1:=Y.Ae.c1;have c2:=Y.Ae.c2;have c3:=Y.Ae.c3;have c4:=Y.Ae.c4;have c5:=Y.Ae.c5;have c6:=Y.Ae.c6;have c7:=Y.Ae.c7;have c8:=Y.Ae.c8;have c9:=Y.Ae.c9;have c10:=Y.Ae.br;obtain⟨ac,pc,rfl,hc1,bP,aJ,hcnone,hcform⟩:=B8 Y.Am;unfold maxLen at bP;have aX:=A1 aJ
 have bY:Hid (∀(vl:gD) (es:gF AP) (W:gC) (L M:gF Nat) (vo vm:gD) (aS:Nat->gD),Df w vl es->(∀f,Dr f es->D.Aq f)->es.length<1099511627776->A4 Aa w W->CS w.heap.size W (w.heap.size+1) (w.heap.size+2) F L M vo vm aS->L.length<1099511627776->
  Ag 87 #[vl,A5 (w.heap.size+1),A5 (w.heap.size+2)] W λe w'=>∃v b1 bZ a4 a8 a7 bM,e=.returned v/\EV w.heap.size W (w.heap.size+1) (w.heap.size+2) F L M vo vm aS es es.length es.length v w' b1 bZ a4 a8 a7 bM):=
  λvl es W L M vo vm aS h1 h2 h3 h4 h5 h6=>ZT aA.o h4 h5 h1 h2 bK.o ⟨h3,h6⟩
 have bW:Hid (∀W,A4 Aa w W->W.cell? (A9 b 0)=some vd/\W.cell? (A9 b 1)=some vs):=λW hc=>
  ⟨(DU (hc.Al b aA.o.Ae.lt (λh=>h))).trans aA.o.Ae.c0,(DU (hc.Al b aA.o.Ae.lt (λh=>h))).trans aA.o.Ae.c1⟩
 have a9:w.heap.size≠b:=by have:=aA.o.Ae.lt;omega
 go_enter func47,ntmps47
 go_wp2;refine La 33 (by kernel_rfl) (by kernel_rfl) ?_;simp only[M1,FW,Fw,DK,Dm]
 repeat still_step
 refine Lb ?_;go_wp2;generalize bQ:(((w.alloc (.cells #[.slice none 0 0,.slice none 0 0,.slice none 0 0,A0 D.n.Av,A0 D.n.Bc,A0 D.n.CZ,A0 D.n.E7,A0 D.n.BG,A0 D.n.Bm,A0 D.n.fulls,.bool D.n.Bh] 95)).alloc (.cells #[.slice none 0 0] 138)).alloc (.cells #[.slice none 0 0] 138)).drew=W1;have⟨cs1,hb1,hc1W⟩:=A2Z w D.n F bH W1 bQ.symm;have bT:=A1 hb1;have aD:=A1 cs1;have O:=A1 hc1W;refine G1 (λw'=>w'.cell? (A9 b 0)=some vd/\w'.cell? (A9 b 1)=some vs) 17
  (Ba [0,1,2,3,4,5,6,8,9,10,11,12,7,13,14,15,16] [7,13,16]) (by kernel_rfl) (by kernel_rfl) (λ_ _ _ _ _ h=>h) (bW.o _ O.o.aa) ?_
 iterate 12 (refine E8 (v:=?_) rfl (by rfl) ?_ ?_;rotate_left;(· (intro w' X;(try dsimp only at X);go_simp;try with_reducible rfl));(try simp only[BO]))
 refine Dy rfl (by rfl) (λK hK=>?_);go_simp;refine(bY.o vd D.A6 _ _ _ _ _ _ aA.o.A6 (λf hf=>.inl hf) iC O.o.aa (aD.o.Am (A4.C Aa W1).aa (λ_ _ h=>h) (λ_ _ h=>h)) iE).mono ?_;rintro e w2⟨v1,L,M,vo,vm,a7,e1,rfl,aN⟩;obtain⟨a1,k1,rfl,-⟩:=Df.BW aN.DT;have aQ:=A1 aN;have aR:=A1 <| aN.cP O.o.aa (aD.o.Am (A4.C Aa W1).aa (λ_ _ h=>h) (λ_ _ h=>h));have hL:L.length<=D.A6.length:=by
  have⟨o,q1,q2,_⟩:=aN.H9;rw[q1];simpa using q2
 refine hK _ _ (bW.o _ aR.o) (λX=>?_)
 (try simp only[BO])
 refine Dy rfl (by rfl) (λK hK=>?_);go_simp;refine(bY.o vs D.AG _ _ _ _ _ _ aA.o.AG (λf hf=>.inr (.inl hf)) iC aR.o aQ.o.cs iC).mono ?_;rintro e w3⟨v2,b1,bZ,a4,a8,VB3,e2,rfl,aT⟩;obtain⟨a2,k2,rfl,-⟩:=Df.BW aT.DT;have a3:Hid (A4 Aa w w3):=aT.cP aR.o aQ.o.cs;have aK:=A2Y (aD.o.Am (A4.C Aa W1).aa (λ_ _ h=>h) (λ_ _ h=>h)) ((bT.o:AM W1.drew _ _ _ _ _)) O.o.aa aQ.o aT;have z0:=aK.1.c0;have z1:=aK.1.c1;have zf:=aK.1.fz;have bE:=A1 aK.2;refine hK _ _ (bW.o _ a3.o) (λX=>?_);obtain⟨s0,s1⟩:=X
 (try simp only[BO])
 iterate 2 (refine E8 (v:=?_) rfl (by rfl) ?_ ?_;rotate_left;(· (intro w' X;(try dsimp only at X);go_simp;try with_reducible rfl));(try simp only[BO]))
 refine Dy rfl (by rfl) (λK hK=>?_);go_simp;refine hK _ _ ?_ (λX=>?_)
 ·simp[World.cell?_setCell_far,a9,s0,s1]
 (try simp only[BO])
 have c2b:w3.cell? (A9 b 2)=some (.slice ac D.As.length pc):=(DU (a3.o.Al b aA.o.Ae.lt (λh=>h))).trans c2;refine FD ?_;simp only[DK,Dm];go_wp2;generalize hW4:(w3.setCell (A9 w.heap.size 0) (.slice a1 e1.length k1)).setCell (A9 w.heap.size 1) (.slice a2 e2.length k2)=W4 at bE ⊢;go_loopw [67] (λiv wr=>∃i:Nat,i<=D.As.length/\iv=A0 i/\Hid (∃L M vo vm z bH d cs,CR w.heap.size w wr w.heap.size (w.heap.size+1) (w.heap.size+2) D F i L M vo vm (.slice a1 e1.length k1) (.slice a2 e2.length k2) z bH d e1 e2 cs)) (λiv _=>D.As.length-(intOf iv).toNat)
 ·exact⟨0,Cb _,rfl,_,_,_,_,_,_,_,_,bE.o⟩
 ·obtain⟨i,hi,rfl,bD⟩:=hrel;by_cases aG:i<D.As.length
  ·have⟨L3,M3,vo3,vm3,z,VB4,d,cs,k0⟩:=bD.o;have aI:=A1 k0;obtain⟨gc,rfl⟩:=aX.o iC;have⟨vk,hvk,hek⟩:=aA.o.Dj i aG;have bL:=Aw aA.o.Am (g:=gc) rfl;have m1:wr.cell? (A9 gc i)=some vk:=(DU (k0.Am.Al gc bL (λh=>h))).trans (Bu aA.o.Am (g:=gc) rfl hvk);obtain⟨E,I,rfl,hk1,hk2,-⟩:=Df.BW hek;have bA:=A1 hek;obtain⟨es,aF⟩:=iG (D.As[i]'aG);(have bB:es.length<1099511627776:=by rw[<-aF];exact bX.o _ (BT aG));have bI:L3.length<1099511627776:=bU.o _ k0.Hf.IV k0.U7;rw[aF]at bA;have bV:=A1 aF;have aY:Hid (∀f,Dr f es->D.Aq f):=λf hf=>.inr (.inr ⟨_,BT aG,aF ▸ hf⟩);have hi0:=BJ i;have hi1:(i:Int)<(D.As.length:Int):=iC;rw[aF]at m1;have⟨p0,hp,hp0,hp1,hp2⟩:=DQ Tryz.eu;have hsz:w.heap.size<wr.heap.size:=aI.o.Ae.lt;have aM:Hid (CS w.heap.size ((wr.alloc (.cells #[.slice E es.length I] 120)).drew) (w.heap.size+1) (w.heap.size+2) F L3 M3 vo3 vm3 VB4):=aI.o.Hf.Am ((A4.C Aa wr).ai (.cells #[.slice E es.length I] 120)).aa (λ_ _ h=>h) (λ_ _ h=>h);have bG:Hid (A4 Aa w ((wr.alloc (.cells #[.slice E es.length I] 120)).drew)):=(aI.o.Am.ai (.cells #[.slice E es.length I] 120)).aa;have aZ:=Bn wr (.cells #[.slice E es.length I] 120);(have n0:(wr.alloc (.cells #[.slice E es.length I] 120)).cell? (A9 wr.heap.size 0)=some (.slice E es.length I):=by unfold World.cell?;rw[aZ];rfl);have n1:(wr.alloc (.cells #[.slice E es.length I] 120)).cell? (A9 w.heap.size 2)=some z:=(aI.o.Ae.ai (.cells #[.slice E es.length I] 120)).c2;have b0:=A1 aZ;go_wp2;refine G1 (λw'=>w'.cell? (A9 w.heap.size 2)=some z/\w'.cell? (A9 wr.heap.size 0)=some (.slice E es.length I)) 12
    (Ba [0,1,2,3,4,5,6,7,8,9,10,11] [8,10,11]) (by kernel_rfl) (by kernel_rfl) (λ_ _ _ _ _ h=>h) ⟨n1,n0⟩ ?_
   iterate 8 (refine E8 (v:=?_) rfl (by rfl) ?_ ?_;rotate_left;(· (intro w' X;(try dsimp only at X);go_simp;try with_reducible rfl));(try simp only[BO]))
   refine Dy rfl (by rfl) (λK hK=>?_);go_simp;refine(bY.o _ es _ _ _ _ _ _ bA.o aY.o bB bG.o aM.o bI).mono ?_;rintro e w5⟨v5,L5,M5,vo5,vm5,VB5,aE,rfl,aB⟩;obtain⟨a5,k5,rfl,-⟩:=Df.BW aB.DT;have bN:=A1 aB;have bC:AM w5 w.heap.size (.slice a1 e1.length k1) (.slice a2 e2.length k2) z D.n:=
    (aB.Am.Al _ (by simp;omega) (aM.o.cf (aI.o.Ae.ai (.cells #[.slice E es.length I] 120)) (.inr (.inr rfl)))).trans (aI.o.Ae.ai (.cells #[.slice E es.length I] 120))
   have a0:w5.heap[wr.heap.size]?=some (.cells #[.slice E es.length I] 120 (0,0)):=(aB.Am.Al _ iE (aM.o.cf b0.o (.inr (.inl rfl)))).trans b0.o;have aO:w5.ownsRow 0 120 1 z i d:=Au aI.o.ch λg hg=>by
    have⟨c,hh⟩:=B9 aI.o.ch hg;have h1:((wr.alloc (.cells #[.slice E es.length I] 120)).drew).heap[g]?=some (Obj.cells c 120 (0,0)):=(CW _ _ _ (Bv hh)).trans hh;exact((aB.Am.Al _ (Bv h1) (aM.o.cf h1 (.inr (.inl rfl)))).trans h1).trans hh.symm
   have p1:=bC.c2;(have p2:w5.cell? (A9 wr.heap.size 0)=some (.slice E es.length I):=by simp[World.cell?,a0]);have aH:=A1 bC;have aV:=A1 a0;have aP:Hid ((w5.alloc (.cells #[.slice a5 aE.length k5] 120)).ownsRow 0 120 1 z i d):=Au aO λg hg=>CW _ _ _ (Aw aO hg);have aU:Hid (∀w6 v6 n xs,App (w5.alloc (.cells #[.slice a5 aE.length k5] 120)) w6 120 1 z v6 n xs->(w6.cell? (A9 w.heap.size 2)=some z/\w6.cell? (A9 wr.heap.size 0)=some (.slice E es.length I))/\w6.frozen? (A9 w.heap.size 2)=false):=by
    intro w6 v6 n xs hA
    have x1:w6.heap[w.heap.size]?=w5.heap[w.heap.size]?:=(hA.C7.block _ (by have:=aH.o.lt;simp;omega) (λe=>by
     have⟨c,hh⟩:=B9 aP.o e.symm
     exact BR hh (aH.o.ai _) iF rfl)).trans (CW _ _ _ aH.o.lt)
    have x2:w6.heap[wr.heap.size]?=w5.heap[wr.heap.size]?:=(hA.C7.block _ (by have:=Bv aV.o;simp;omega) (λe=>by
     have:=Aw aI.o.ch e.symm;omega)).trans (CW _ _ _ (Bv aV.o))
    exact⟨⟨(DU x1).trans aH.o.c2,by simp[World.cell?,x2,aV.o]⟩,(aH.o.av x1).fz 2⟩
   have bO:Hid (Src Tryz.prog 1 93 (AA w5.heap.size 1 1) 1 [.slice a5 aE.length k5] (w5.alloc (.cells #[.slice a5 aE.length k5] 120))):=
    Src.bb underlying93 w5 #[.slice a5 aE.length k5] 120 w5.heap.size rfl 1 1 rfl (by simp[Value.oneCell'])
   have bJ:(i+1)*24<=140737488355328:=iC;refine hK _ _ ⟨p1,p2⟩ (λX=>?_)
   (try simp only[BO])
   (refine E8 (v:=?_) rfl (by rfl) ?_ ?_;rotate_left;(· (intro w' X;(try dsimp only at X);go_simp;try with_reducible rfl));(try simp only[BO]))
   refine Dy rfl (by rfl) (λK hK=>?_);go_simp;refine hK _ _ ?_ (λX=>?_)
   ·simp[World.cell?_alloc_some,p1,p2]
   (try simp only[BO])
   refine Dy rfl (by rfl) (λK hK=>?_);refine I1 (.tmp 75) (.tmp 81) 93 93 (by rfl) 120 p0 _ 1 24 underlying93 hp hp0 hp1 hp2 rfl iF z i d (by rfl) aP.o _ 1 _ (by rfl) bO.o bJ ?_;intro a6 k6 w6 hA;have⟨r1,r2⟩:=aU.o _ _ _ _ hA;have aW:=A1 (aI.o.aZ (nq:=0) aG bV.o (((A4.C Aa wr).ai (.cells #[.slice E es.length I] 120)).aa) bN.o hA);refine hK _ _ r1 (λX=>?_);obtain⟨r1,-⟩:=r1
   (try simp only[BO])
   refine FD ?_;simp only[DK,Dm];go_wp2;go_roundw
   ·exact⟨i+1,iC,by go_num,_,_,_,_,_,_,_,_,aW.o⟩
   ·simp[intOf];omega
  ·(obtain rfl:i=D.As.length:=iC);have⟨L3,M3,vo3,vm3,z,VB4,d,cs,k0⟩:=bD.o;have⟨r,bF,aL,q1,q2,q3,q4,q5⟩:=k0.fA;have b6:=A1 q1;have b7:=A1 q2;have b4:=A1 q4;have b5:=A1 q5;have b3:=A1 q3;go_wp2;go_ret;exact⟨_,r,bF,aL,rfl,b6.o,b7.o,b3.o,b4.o,b5.o⟩
def Tt:∀ {l m:gF Nat},l.Nodup->(∀x∈l,x∈m)->l.length<=m.length
 | [],_,_,_=>Cb _
 | x::r,m,h,hs=>by
  have E:=hs x (BI ..);have z:=K3.1 h;have:=Tt (m:=m.erase x) z.2 λy d=>(Wj λe=>z.1 (by rw[<-e];exact d)).2 (hs y (BC _ d))
  rw[A4P E]at this;have:=A4O E;simp only[CA];omega
def WG(D:DS)(F:Nat->FC):Prop:=∃K,K<1099511627776/\(∀f,D.Aq f->f<K)/\D.A6.length<549755813888/\D.AG.length<549755813888/\(∀l∈D.As,l.length<1099511627776)/\D.As.length<1099511627776/\∀f,D.Aq f->(F f).1.length<=1099511627776
def Vb{w:gC}{b:Nat}{D:DS}{F:Nat->FC}{Ft:Nat->Prop}(h:AU w b D F Ft)(hC:WG D F):
 Ag 47 #[A5 b] w λe w'=>∃b2 z,e=.returned (A5 b2)/\AU w' b2 D F z/\(∀k,z k->w.heap.size<=k/\k<w'.heap.size)/\A4 Aa w w':=by
 obtain⟨r,G,h1,h2,h3⟩:=h;obtain⟨K,c1,c2,c3,c4,c5,c6,c7⟩:=hC;have⟨l1,l2,l3,l4⟩:=KG D r
 refine(A20 w b _ G Ft h1 ⟨by rw[l1];exact c3,by rw[l2];exact c4,λl Y=>?_⟩ (λl hn Y=>?_) (by rw[l3];exact c6) (λf' d=>by
  obtain⟨f,E,rfl⟩:=DS.de d
  rw[h2 f E];exact c7 f E)).mono ?_
 ·obtain⟨l0,E,rfl⟩:=Cn.1 Y;rw[Jw];exact c5 l0 E
 ·have:=Tt (m:=(List.range K).map r) hn λx I=>by
   obtain⟨f,E,rfl⟩:=DS.de (Y x I);exact Ej (KT.2 (c2 f E))
  rw[Fx,A4N]at this;omega
 rintro e w'⟨b2,X,aA,z,E,q2,q3,q4,q5,q6⟩;have L:(D.ren r).ren X=D.ren (λf=>X (r f)):=by
  have e:∀es:gF AP,Go.Proofs.YtodcnkbblippnaaGreatDoor.ren X (Go.Proofs.YtodcnkbblippnaaGreatDoor.ren r es)=Go.Proofs.YtodcnkbblippnaaGreatDoor.ren (λf=>X (r f)) es:=λes=>by simp[Go.Proofs.YtodcnkbblippnaaGreatDoor.ren]
  simp only[DS.ren,e,Wk]
  congr 1
  exact NR λc _=>e c
 have hid:∀f,D.Aq f->(D.ren r).Aq (r f):=by
  rintro f (⟨x,I,rfl⟩|⟨x,I,rfl⟩|⟨c,hc,x,I,rfl⟩)
  ·exact .inl ⟨_,Ej I,rfl⟩
  ·exact .inr (.inl ⟨_,Ej I,rfl⟩)
  ·exact .inr (.inr ⟨_,Ej hc,_,Ej I,rfl⟩)
 refine⟨b2,z,E,⟨λf=>X (r f),aA,L ▸ q2,λf O=>?_,λf f' O d e=>?_⟩,q3,q4⟩
 ·rw[q5 (r f) (hid f O),h2 f O]
 ·exact h3 f f' O d (q6 _ _ (hid f O) (hid f' d) e)
end
section
open Go.RowKit
def U8(a b:gE):less a b=true↔a.data.toList<b.data.toList:=by
 unfold less;rw[Vn,L4,L4,Ea]
def A1K(l:gF gE)(x:gE):∀k,k<=l.length->(∀i (z:i<l.length),ET l x k<=i->i<k->less x (l[i]'z)=true)/\∀(_:0<ET l x k) (z:ET l x k-1<l.length),less x (l[ET l x k-1]'z)=false:=by
 intro k
 induction k with
 | zero=>intro _;exact⟨λi z E I=>iC,λh=>by simp[ET]at h⟩
 | succ k ih=>
  intro hk;have d:k<l.length:=iC
  have⟨i1,i2⟩:=ih iC;by_cases h:less x (l[k]'d)=true
  ·rw[Us l x k d h];refine⟨λi z E I=>?_,i2⟩;by_cases e:i=k
   ·subst e;exact h
   ·exact i1 i z E iC
  ·rw[Ur l x k d (by simpa using h)];exact⟨λi z E I=>iC,λ_ _=>by simpa using h⟩
def M4(l:gF gE):Prop:=l.Pairwise λa b=>a.data.toList<b.data.toList
def A1C{l:gF gE}(h:M4 l){x:gE}(hx:x∉l):M4 (ins l x):=by
 have⟨h1,h2⟩:=A1K l x l.length (An _);have aA:=Ut l x l.length;unfold ins;generalize ET l x l.length=k at h1 h2 aA;have hp:M4 (l.take k++l.drop k):=by rw[Ec];exact h
 have E:=EL.1 hp;refine EL.2 ⟨E.1,Dl.2 ⟨λy hy=>?_,E.2.1⟩,λa ha b hb=>?_⟩
 ·obtain⟨i,hi,rfl⟩:=DD hy;rw[Cz]at hi;rw[List.getElem_drop];exact(U8 _ _).1 (h1 (k+i) iC iC iC)
 ·rcases BS.1 hb with rfl|hb
  ·obtain⟨i,hi,rfl⟩:=DD ha;rw[BK]at hi;have z:k-1<l.length:=iC;have O:=h2 iC z;have d:(l[k-1]'z).data.toList<b.data.toList:=by
    (have X:¬b.data.toList<(l[k-1]'z).data.toList:=λY=>by rw[(U8 _ _).2 Y]at O;cases O);have L:=List.not_lt.1 X;by_cases I:(l[k-1]'z).data.toList<b.data.toList
    ·exact I
    ·refine absurd ?_ hx;have e:=List.le_antisymm L (List.not_lt.1 I);(have:l[k-1]'z=b:=by rw[<-G4 (l[k-1]'z),<-G4 b,e]);rw[<-this];exact BT _
   rw[QA];by_cases e:i=k-1
   ·subst e;exact d
   ·have:=K1.1 h i (k-1) iC z iC;exact List.lt_trans this d
  ·exact E.2.2 a ha b hb
def A2A(es:gF AP)(E:(es.map (·.1)).Nodup):∀k,k<=es.length->M4 (Fc es k):=by
 intro k
 induction k with
 | zero=>intro _;simp[Fc,M4]
 | succ k ih=>
  intro hk;have d:k<es.length:=iC
  rw[Nk es k d];refine A1C (ih iC) λh=>?_;have:=(V0 es k iC).mem_iff.1 h;have⟨e,he,h2⟩:=Cn.1 this;obtain⟨i,z,rfl⟩:=DD he;rw[BK]at z;rw[QA]at h2;have:i=k:=JC E (by simp;omega) (by simpa using d) (by simpa using h2);omega
def Cm.up{P:PD}{N R:Nat}(h:Cm P N R):P.Az.Pairwise (· < ·):=by
 unfold PD.Az;rw[KR];exact A2A P.D.A6 h.Ck _ (An _)
def Ha:Nat->Nat->Bs
 | 0,_=>[]
 | k+1,u=>Ha k (u/10)++[UInt8.ofNat (48+u % 10)]
def MV:∀k u,(Ha k u).length=k
 | 0,_=>rfl
 | k+1,u=>by simp[Ha,MV k]
def T7:∀k,Ha k 0=List.replicate k 48
 | 0=>rfl
 | k+1=>by
  unfold Ha;rw[Nat.zero_div,T7 k,List.replicate_succ'];rfl
def T8:∀k u,u<10 ^ (k+1)->List.replicate (k+1-Lib.nDigits u) 48++Lib.decDigits u=Ha (k+1) u
 | 0,u,h=>by
  have d:u<10:=by simpa using h
  rw[QD d,Lib.decDigits,Q3 d];simp[Ha,Nat.mod_eq_of_lt d]
 | k+1,u,h=>by
  by_cases d:u<10
  ·rw[QD d,Lib.decDigits,Q3 d];unfold Ha;rw[Nat.div_eq_of_lt d,T7,Nat.mod_eq_of_lt d];rfl
  ·have z:=T8 k (u/10) (by rw[KO]at h;omega);rw[Wy d,Lib.decDigits,Q4 d,<-Ci];(have e:k+1+1-(Lib.nDigits (u/10)+1)=k+1-Lib.nDigits (u/10):=iC);rw[e,z]
   conv=>rhs;unfold Ha
def TX:∀ {a b x y:Bs},a.length=b.length->a<b->a++x<b++y
 | [],b,x,y,hl,h=>by
  have:b=[]:=HE.1 hl.symm;subst this;exact absurd h (Mh _)
 | c::a,[],x,y,hl,h=>by simp at hl
 | c::a,d::b,x,y,hl,h=>by
  rw[Ga,Ga,K6];rw[K6]at h;rcases h with h|⟨E,z⟩
  ·exact .inl h
  ·exact .inr ⟨E,TX (by simpa using hl) z⟩
def TW:∀ {a x y:Bs},x<y->a++x<a++y
 | [],x,y,h=>h
 | c::a,x,y,h=>by rw[Ga,Ga,K6];exact .inr ⟨rfl,TW h⟩
def OU:∀k {u v:Nat},v<10 ^ k->u<v->Ha k u<Ha k v
 | 0,u,v,hv,h=>by simp at hv;omega
 | k+1,u,v,hv,h=>by
  have d:v/10<10 ^ k:=by rw[KO]at hv;omega
  unfold Ha;by_cases z:u/10<v/10
  ·exact TX (by rw[MV,MV]) (OU k d z)
  ·have e:u/10=v/10:=iC;rw[e];refine TW ?_;rw[K6];refine .inl ?_;rw[UInt8.lt_iff_toNat_lt];simp;omega
def Ls{n:Int}(h0:1<=n)(h1:n<=4611686018427387904):Lib.repeatL [48] (19-(Lib.itoa n).length)++Lib.itoa n=Ha 19 n.toNat:=by
 rw[N5 iC,Wz,Si];exact T8 18 n.toNat (by (have:(10:Nat) ^ 19=10000000000000000000:=iF);omega)
def A0w{a b:Int}(d:isNum a=true)(z:isNum b=true)(h:a<b):Ah a<Ah b:=by
 unfold isNum at d z;simp at d z;rw[JF,JF,Ls d.1 d.2,Ls z.1 z.2,K6];exact .inr ⟨rfl,OU 19 (by (have:(10:Nat) ^ 19=10000000000000000000:=iF);omega) iC⟩
def A0s{a b:Int}(d:isNum a=true)(z:isNum b=true)(h:a<b):AH a<AH b:=by
 unfold isNum at d z;simp at d z;rw[IY,IY,Ls d.1 d.2,Ls z.1 z.2,K6];exact .inr ⟨rfl,OU 19 (by (have:(10:Nat) ^ 19=10000000000000000000:=iF);omega) iC⟩
def A0L{f:Int->Bs}(z:∀a b,isNum a=true->isNum b=true->a<b->f a<f b){a b:Int}(E:isNum a=true)(I:isNum b=true)(h:f a<f b):a<b:=by
 rcases Int.lt_trichotomy a b with d|d|d
 ·exact d
 ·subst d;exact absurd h (Mh _)
 ·exact absurd (List.lt_trans h (z b a I E d)) (Mh _)
def P7{f:Int->Bs}(z:∀a b,isNum a=true->isNum b=true->a<b->f a<f b)(g:Bs->Option Int)(d:∀nm n,g nm=some n->isNum n=true/\f n=nm):∀ {l:gF Bs},l.Pairwise (· < ·)->(l.filterMap g).Pairwise (· < ·)
 | [],_=>iE
 | nm::r,h=>by
  have E:=Dl.1 h;have I:=P7 z g d E.2;cases hx:g nm with
  | none=>rw[List.filterMap_cons_none hx];exact I
  | some n=>
   rw[List.filterMap_cons_some hx];refine Dl.2 ⟨λm L=>?_,I⟩;have⟨nm2,h2,h3⟩:=Mg.1 L;have⟨a1,a2⟩:=d nm n hx;have⟨b1,b2⟩:=d nm2 m h3;exact A0L z a1 b1 (by rw[a2,b2];exact E.1 nm2 h2)
def A0O{l:gF Bs}(d:Int)(h:l.Pairwise (· < ·)):(BV d l).Pairwise (· < ·):=by
 unfold BV;refine P7 (f:=Ah) (λa b=>A0w) _ (λnm n z=>?_) h;by_cases E:(Br nm).1=1/\d<=(Br nm).2
 ·rw[Ai E]at z;simp at z;subst z;have:=Pe E.1;exact⟨by unfold isNum;simp;exact this.1,this.2⟩
 ·rw[Af E]at z;cases z
def YB{l:gF Bs}(h:l.Pairwise (· < ·)):(l.filterMap λnm=>if (Br nm).1=2 then some (Br nm).2 else none).Pairwise (· < ·):=by
 refine P7 (f:=AH) (λa b=>A0s) _ (λnm n d=>?_) h;by_cases z:(Br nm).1=2
 ·rw[Ai z]at d;simp at d;subst d;have:=Pc z;exact⟨by unfold isNum;simp;exact this.1,this.2⟩
 ·rw[Af z]at d;cases d
def OF{l:gF Int}(h:l.Pairwise (· < ·)){n:Int}(z:n∈l)(d:Int):n<=l.getLastD d:=by
 have E:l≠[]:=λe=>by subst e;cases z
 obtain⟨m,x,rfl⟩:∃m x,l=m++[x]:=⟨l.dropLast,l.getLast E,(NZ E).symm⟩;have e:(m++[x]).getLastD d=x:=iE
 rw[e];rcases AX.1 z with z|z
 ·exact Int.le_of_lt ((EL.1 h).2.2 n z x iE)
 ·simp at z;omega
def Sd:∀ {l l':gF Int},l.Pairwise (· < ·)->l'.Pairwise (· < ·)->(∀x,x∈l↔x∈l')->l=l'
 | [],[],_,_,_=>rfl
 | [],y::r,_,_,h=>by have:=(h y).2 (BI ..);cases this
 | x::r,[],_,_,h=>by have:=(h x).1 (BI ..);cases this
 | x::r,y::s,h1,h2,h=>by
  have E:=Dl.1 h1;have d:=Dl.1 h2;have L:x=y:=by
   rcases BS.1 ((h x).1 (BI ..)) with e|e
   ·exact e
   ·rcases BS.1 ((h y).2 (BI ..)) with O|O
    ·exact O.symm
    ·have a:=d.1 x e;have b:=E.1 y O;omega
  subst L
  congr 1
  refine Sd E.2 d.2 λz=>⟨λI=>?_,λI=>?_⟩
  ·rcases BS.1 ((h z).1 (BC _ I)) with e|e
   ·subst e;have:=E.1 z I;omega
   ·exact e
  ·rcases BS.1 ((h z).2 (BC _ I)) with e|e
   ·subst e;have:=d.1 z I;omega
   ·exact e
def shut(cl:gF (Int×gF Pu))(d:Int):Option (gF Pu)->gF (Int×gF Pu)
 | none=>cl
 | some l=>cl++[(d,l)]
def Ou(cl:gF (Int×gF Pu))(d:Int)(ol:Option (gF Pu)):Ax (shut cl d ol)=Ax cl++ol.getD []:=by
 cases ol<;>simp[shut,Ax]
section
variable{P P':PD}{A:Ar}{sg cl:gF (Int×gF Pu)}{ol:Option (gF Pu)}{N R:Nat}
def Lay.bX(h:Lay P A sg cl ol):A.j.Ao=(shut cl A.j.Ac ol).map (·.1):=by
 have:=h.AB;cases ol with
 | none=>exact this.2
 | some l=>rw[this.2.1];simp[shut]
def Lay.ek(h:Lay P A sg cl ol)(d:(Ax cl).length<=1099511627776):Fv P 0 (shut cl A.j.Ac ol):=by
 have E:=h.AB;cases ol with
 | none=>exact h.Ao
 | some l=>
  obtain⟨-,h1,z,I,h4⟩:=E
  exact h.Ao.bY (by
   have:=h.GS;rw[O2,<-this]
   exact Pj (t:=[]) (h.dI d) I iE (by simpa using z))
def Lay.ba(h:Lay P A sg cl ol):P.ba=some A.ix:=by
 rcases h.ix with⟨d,z⟩|d
 ·rw[PC d,z]
 ·exact A1P h.E4 d
def Lay.aT(h:Lay P A sg cl ol)(hc:Cm P N R)(hl:(Ax cl).length<=1099511627776):
 ∃A',Ar.aT P=.ok (A',Bk sg cl ol)/\Lay P A' sg (shut cl A.j.Ac ol) none/\A'.ix=A.ix/\A'.j.Ac<=max A.j.Ac (A.ix.Bd-1)/\A'.Ac<=A.Ac/\A'.AS=A'.aX P:=by
 have aF:=hc.up;have aG:BV A.ix.Bd P.Az=A.j.Ao:=by
  refine Sd (A0O _ aF) h.HQ λn=>⟨λhn=>?_,λhn=>?_⟩
  ·have⟨L,z,h3⟩:=Ph hn;exact h.I4 n (by unfold isNum;simpa using z) L (HL.1 h3)
  ·rw[h.bX]at hn;obtain⟨x,d,rfl⟩:=Cn.1 hn;have Y:isNum x.1=true/\A.ix.Bd<=x.1:=by
    cases ol with
    | none=>exact⟨(h.D7 x d).1.1,h.Fb.1 x d⟩
    | some l=>
     rcases AX.1 d with d|d
     ·exact⟨(h.D7 x d).1.1,h.Fb.1 x d⟩
     ·simp at d;subst d;exact⟨h.AB.2.2.2.2,h.Fb.2 iE⟩
   have aH:=HL.2 ((h.ek hl).DG d);unfold BV;refine Mg.2 ⟨Ah x.1,aH,?_⟩;rw[Lx Y.1];simp[Y.2]
 have aI:P.Az.any (λnm=>decide ((Br nm).1=0))=false:=by
  rw[Bool.eq_false_iff];intro d;have⟨nm,L,z⟩:=Mn.1 d;exact h.EE nm (HL.1 L) (by simpa using z)
 have hp:=h.pd hl;obtain⟨X,aA⟩:=iG ((P.Az.filterMap λnm=>if (Br nm).1=2 then some (Br nm).2 else none));have aB:=YB aF;rw[aA]at aB;have aE:∀n,n∈X↔isNum n=true/\P.bs (AH n)≠none:=λn=>by
  rw[<-aA,Mg];constructor
  ·rintro⟨nm,L,z⟩;by_cases d:(Br nm).1=2
   ·rw[Ai d]at z;simp at z;subst z;have:=Pc d;exact⟨by unfold isNum;simp;exact this.1,by rw[this.2];exact HL.1 L⟩
   ·rw[Af d]at z;cases z
  ·rintro⟨L,z⟩;refine⟨AH n,HL.2 z,?_⟩;rw[Pd L];simp
 obtain⟨A',I⟩:∃A':Ar,(⟨A.ix,⟨A.j.Ao,A.j.Ao.getLastD (A.ix.Bd-1),((Ax cl++ol.getD []).length:Int),none⟩,X.getLastD 0,(⟨A.ix,⟨A.j.Ao,A.j.Ao.getLastD (A.ix.Bd-1),((Ax cl++ol.getD []).length:Int),none⟩,X.getLastD 0,[]⟩:Ar).aX P⟩:Ar)=A':=⟨_,rfl⟩;have aD:Ar.aT P=.ok (A',Bk sg cl ol):=by
  unfold Ar.aT;rw[h.ba];dsimp only
  rw[aI,Af iE,h.cu];dsimp only
  rw[aG,hp,Af iE,aA];have hj:P.bV A.ix.Bd=⟨A.j.Ao,A.j.Ao.getLastD (A.ix.Bd-1),((Ax cl++ol.getD []).length:Int),none⟩:=by
   unfold PD.bV;rw[aG,hp]
  rw[hj,<-I];rfl
 have O:∀x∈shut cl A.j.Ac ol,(isNum x.1=true/\x.1<=A.j.Ac)/\A.ix.Bd<=x.1/\∀p∈x.2,Bo p:=λx d=>by
  cases ol with
  | none=>exact⟨(h.D7 x d).1,h.Fb.1 x d,(h.D7 x d).2⟩
  | some l=>
   rcases AX.1 d with d|d
   ·exact⟨(h.D7 x d).1,h.Fb.1 x d,(h.D7 x d).2⟩
   ·simp at d;subst d;exact⟨⟨h.AB.2.2.2.2,II _⟩,h.Fb.2 iE,h.AB.2.2.2.1⟩
 have E:∀n∈A.j.Ao,n<=A.j.Ao.getLastD (A.ix.Bd-1):=λn hn=>OF h.HQ hn _;have hge:A.ix.Bd-1<=A.j.Ao.getLastD (A.ix.Bd-1):=by
  cases d:A.j.Ao with
  | nil=>simp
  | cons y r=>
   (have hy:y∈A.j.Ao:=by rw[d];exact BI ..);have L:=E y hy;rw[d]at L;have z:A.ix.Bd<=y:=by
    rw[h.bX]at hy;have⟨x,hx3,hx4⟩:=Cn.1 hy;rw[<-hx4];exact(O x hx3).2.1
   omega
 have aJ:A.j.Ao.getLastD (A.ix.Bd-1)<=max A.j.Ac (A.ix.Bd-1):=by
  cases d:A.j.Ao with
  | nil=>simp;omega
  | cons y r=>
   have hm:(y::r).getLastD (A.ix.Bd-1)∈A.j.Ao:=by
    rw[d];(have:(y::r).getLastD (A.ix.Bd-1)=(y::r).getLast iE:=by rw[KX,A4R iE];rfl);rw[this];exact List.getLast_mem _
   rw[h.bX]at hm;have⟨x,hx2,hx3⟩:=Cn.1 hm;have:=(O x hx2).1.2;rw[hx3]at this;omega
 have hfn:1<=A.ix.Bd:=by have:=h.E4.Bd;unfold isNum at this;simp at this;exact this.1
 refine⟨A',aD,?_,by rw[<-I],by rw[<-I];exact aJ,?_,by rw[<-I];rfl⟩
 ·rw[<-I]
  refine⟨h.E4,h.ix,h.sd,h.CD,λx d=>⟨⟨(O x d).1.1,E _ (by rw[h.bX];exact Ej d)⟩,(O x d).2.2⟩,λx _ d=>absurd rfl d,⟨λx d=>(O x d).2.1,λd=>absurd rfl d⟩,h.ek hl,?_,⟨rfl,h.bX⟩,
   ⟨by dsimp only;omega,by dsimp only;omega,λn hk d=>?_⟩,⟨?_,λn hk d=>OF aB ((aE n).2 ⟨hk,d⟩) 0⟩,λnm hm=>?_,h.HQ,h.EE,h.I4⟩
  ·dsimp only;rw[Ou]
  ·dsimp only
   by_cases hf:A.ix.Bd<=n
   ·exact E n (h.I4 n hk hf d)
   ·omega
  ·dsimp only
   cases d:X with
   | nil=>simp
   | cons y r=>
    have L:=OF aB (n:=y) (by rw[d];exact BI ..) 0;have z:=((aE y).1 (by rw[d];exact BI ..)).1;unfold isNum at z;simp at z;rw[d]at L;omega
  ·exact HL.1 (H3.1 hm).1
 ·rw[<-I];dsimp only
  cases d:X with
  | nil=>simp;exact h.EO.1
  | cons y r=>
   have hm:(y::r).getLastD 0∈X:=by
    rw[d];(have:(y::r).getLastD 0=(y::r).getLast iE:=by rw[KX,A4R iE];rfl);rw[this];exact List.getLast_mem _
   have:=(aE _).1 hm;exact h.EO.2 _ this.1 this.2
def Lay.gB(h:∀nm,P.bs nm=none):Lay P ⟨⟨1,[]⟩,⟨[],0,0,none⟩,0,[]⟩ [] [] none:=
 ⟨⟨iF,λn E=>(by cases E),rfl⟩,.inl ⟨h _,rfl⟩,rfl,λx d=>(by cases d),λx d=>(by cases d),λx d=>(by cases d),⟨λx d=>(by cases d),λh=>absurd rfl h⟩,trivial,rfl,⟨rfl,rfl⟩,⟨iF,iF,λn _ d=>absurd (h _) d⟩,⟨iF,λn _ d=>absurd (h _) d⟩,λnm z=>(by cases z),List.Pairwise.nil,λnm z=>absurd (h _) z,λn _ _ d=>absurd (h _) d⟩
end
abbrev View:=Bs->Option FC
def vw(F:Nat->FC)(s:gF AP):View:=λnm=>(lookup s (Ab nm)).map F
def Cd(c:FC):Prop:=c.2=c.1.length
def JI(V:View)(n a:Int):gF Pu×Int:=match V (Ah n) with
 | some c=>GF (AI (Ah n)) a c.1
 | none=>([],8)
def A0W(P:PD)(n a:Int):P.aW n a=JI P.fl n a:=by
 unfold JI;cases hx:P.fl (Ah n) with
 | some c=>
  have d:P.bs (Ah n)=some c.1:=by unfold PD.bs;rw[hx];rfl
  exact U0 d
 | none=>
  have d:P.bs (Ah n)=none:=by unfold PD.bs;rw[hx];rfl
  unfold PD.aW H8;have e:Eh P.D P.F ⟨(Ah n).toArray⟩=([],8):=by have:=@JT P (Ah n);unfold PD.C9 at this;rw[d]at this;exact this
  rw[e];simp
def G8(V:View):Int->gF (Int×gF Pu)->Prop
 | _,[]=>True
 | a,x::r=>JI V x.1 a=(x.2,0)/\G8 V (a+x.2.length) r
def G8.at{P:PD}:∀ {a:Int} {l:gF (Int×gF Pu)},G8 P.fl a l↔Fv P a l
 | _,[]=>QM
 | a,x::r=>by
  unfold G8 Fv;rw[A0W,G8.at]
def G8.bx{V V':View}:∀ {a:Int} {l:gF (Int×gF Pu)},G8 V a l->(∀x∈l,(V' (Ah x.1)).map (·.1)=(V (Ah x.1)).map (·.1))->G8 V' a l
 | _,[],_,_=>trivial
 | a,x::r,h,hb=>by
  refine⟨?_,h.2.bx λy z=>hb y (BC _ z)⟩;rw[<-h.1];have:=hb x (BI ..);unfold JI;cases h1:V (Ah x.1) with
  | none=>rw[h1]at this;cases h2:V' (Ah x.1) with
   | none=>rfl
   | some c=>rw[h2]at this;cases this
  | some c=>rw[h1]at this;cases h2:V' (Ah x.1) with
   | none=>rw[h2]at this;cases this
   | some d=>rw[h2]at this;simp at this;dsimp only;rw[this]
def G8.bY{V:View}:∀ {a:Int} {l:gF (Int×gF Pu)} {x:Int×gF Pu},G8 V a l->JI V x.1 (a+(Ax l).length)=(x.2,0)->G8 V a (l++[x])
 | a,[],x,_,h=>⟨by simpa[Ax] using h,trivial⟩
 | a,y::r,x,h,h2=>⟨h.1,h.2.bY (by
  rw[<-h2];congr 1
  simp only[Ax,Mj,B3];omega)⟩
def IE(b nm:Bs)(d:Int)(l:gF Pu):Prop:=(∃t:Bs,b=Er nm d l++t/\t.length<21)\/(l=[]/\b.length<12)
def IE.aY{b nm:Bs}{d:Int}{l:gF Pu}(h:IE b nm d l)(E:Ay d)(z:∀p∈l,Bo p):GF (AI nm) d b=(l,0):=by
 rcases h with⟨t,rfl,I⟩|⟨rfl,L⟩
 ·exact SK _ _ _ _ E z I
 ·exact Zr _ _ _ L
def U3:∀(l:gF Pu) (s:Nat) (t:Bs) (j:Nat),t.length<21->∃d:Bs,(Ep s l++t).take j=Ep s (l.take (j/21))++d/\d.length<21
 | [],s,t,j,ht=>⟨t.take j,by simp[Ep],by rw[BK];omega⟩
 | p::r,s,t,j,ht=>by
  have h:(AT s (Bg p.1 p.2.1 p.2.2)).length=21:=by rw[EP,FH]
  by_cases hj:j<21
  ·refine⟨(AT s (Bg p.1 p.2.1 p.2.2)).take j,?_,by rw[BK];omega⟩;have e:j/21=0:=iC;rw[e];simp only[Ep,Fw,Fh,Ci];rw[HC iC]
  ·have⟨d,h1,h2⟩:=U3 r (AY s (Bg p.1 p.2.1 p.2.2)) t (j-21) ht;refine⟨d,?_,h2⟩;have e:j/21=(j-21)/21+1:=iC;rw[e,FW];simp only[Ep,Ci];rw[List.take_append,h,h1,Eu iC]
def IE.cg{b nm:Bs}{d:Int}{l:gF Pu}(h:IE b nm d l)(j:Nat)(hj:j<=b.length):IE (b.take j) nm d (l.take ((j-12)/21)):=by
 rcases h with⟨t,rfl,E⟩|⟨rfl,hb⟩
 ·by_cases h12:j<12
  ·exact .inr ⟨by (have:(j-12)/21=0:=iC);rw[this];rfl,by rw[BK];omega⟩
  ·have⟨t',h1,h2⟩:=U3 l (AY (AI nm) (AQ d)) t (j-12) E;refine .inl ⟨t',?_,h2⟩;unfold Er;(have z:(AT (AI nm) (AQ d)).length=12:=by rw[EP,CT]);rw[Ci,List.take_append,z,h1,Eu iC,Ci]
 ·exact .inr ⟨iE,by rw[BK];omega⟩
def Fl(c:FC)(l:gF Pu):Nat:=min l.length ((c.2.toNat-12)/21)
def FU(bd:Int×Int)(nm:Bs):Prop:=(Br nm).1≠0/\((Br nm).1=1->(Br nm).2<=bd.1)/\((Br nm).1=2->(Br nm).2<=bd.2)
def A0D:Br Bx=(4,0):=by
 have h:Ew [108] Bx=none:=Lz iF;have d:Ew [115] Bx=none:=Lz iF;unfold Br HN;rw[h,d];simp[HM,IZ,Bx,AJ]
def A0u{bd:Int×Int}{n:Int}(h:isNum n=true)(d:n<=bd.1):FU bd (Ah n):=by unfold FU;rw[Lx h];exact⟨iE,λ_=>d,λh=>by simp at h⟩
def Tu{bd:Int×Int}{n:Int}(h:isNum n=true)(d:n<=bd.2):FU bd (AH n):=by unfold FU;rw[Pd h];exact⟨iE,λh=>by simp at h,λ_=>d⟩
def A0v(bd:Int×Int):FU bd AJ:=by unfold FU;rw[TH];exact⟨iF,λh=>absurd h iF,λh=>absurd h iF⟩
def Tv(bd:Int×Int):FU bd Bx:=by unfold FU;rw[A0D];exact⟨iF,λh=>absurd h iF,λh=>absurd h iF⟩
def Io(bd:Int×Int)(ix:Ix)(sg:gF (Int×gF Pu)):Prop:=O1 ix/\ix.Bd<=bd.1+1/\∀x∈sg,x.2≠[]
def Ip(bd d:Int×Int):Prop:=bd.1<=d.1/\bd.2<=d.2
def FU.aV{bd d:Int×Int}{nm:Bs}(h:FU bd nm)(z:Ip bd d):FU d nm:=⟨h.1,λe=>Mq (h.2.1 e) z.1,λe=>Mq (h.2.2 e) z.2⟩
def Io.aV{bd d:Int×Int}{ix:Ix}{sg:gF (Int×gF Pu)}(h:Io bd ix sg)(z:Ip bd d):Io d ix sg:=⟨h.1,by have:=h.2.1;have:=z.1;omega,h.2.2⟩
structure Db (bd:Int×Int) (V:View) (ix:Ix) (sg cl:gF (Int×gF Pu)) (lo:Option (Int×gF Pu)):Prop where
 E4:Io bd ix sg
 J6:(V AJ=none/\ix=⟨1,[]⟩)\/∃c,V AJ=some c/\Cd c/\c.1=AT (AI AJ) (Cp ix.Bd ix.sd)
 sd:sg.map (·.1)=ix.sd
 CD:∀x∈sg,((∀p∈x.2,Bo p)/\CE Cx x.2=true)/\∃c,V (AH x.1)=some c/\Cd c/\c.1=AT (AI (AH x.1)) (Cr x.2)
 D7:∀x∈cl,(isNum x.1=true/\ix.Bd<=x.1)/\(∀p∈x.2,Bo p)/\∃c,V (Ah x.1)=some c/\Cd c
 Ao:G8 V 0 cl
 Ac:∀n l,lo=some (n,l)->(isNum n=true/\ix.Bd<=n)/\(∀p∈l,Bo p)/\∃c,V (Ah n)=some c/\IE c.1 (Ah n) (Ax cl).length l
 Fj:(cl.map (·.1)++(lo.map (·.1)).toList).Pairwise (· < ·)
 C9:∀n,isNum n=true->ix.Bd<=n->V (Ah n)≠none->n∈cl.map (·.1)++(lo.map (·.1)).toList
 EE:∀nm,V nm≠none->FU bd nm
 El:∀nm c,V nm=some c->0<=c.2/\c.2<=c.1.length
def IL(V V':View):Prop:=∀nm,(V nm=none/\V' nm=none)\/∃c,∃j:Nat,V nm=some c/\c.2<=j/\j<=c.1.length/\V' nm=some (c.1.take j,(j:Int))
section
variable{bd:Int×Int}{V V':View}{ix:Ix}{sg cl:gF (Int×gF Pu)}{lo:Option (Int×gF Pu)}
def IL.eG(h:IL V V'){nm:Bs}(z:V nm=none):V' nm=Option.none:=by
 rcases h nm with⟨_,E⟩|⟨c,j,d,_⟩
 ·exact E
 ·rw[z]at d;cases d
def IL.b9(h:IL V V'){nm:Bs}{c:FC}(E:V nm=some c):∃j:Nat,c.2<=j/\j<=c.1.length/\V' nm=Option.some (c.1.take j,(j:Int)):=by
 rcases h nm with⟨z,_⟩|⟨d,j,z,I⟩
 ·rw[E]at z;cases z
 ·rw[E]at z;cases z;exact⟨j,I⟩
def IL.GM(h:IL V V'){nm:Bs}{c:FC}(z:V nm=Option.some c)(d:Cd c):V' nm=Option.some c:=by
 have⟨j,h1,h2,h3⟩:=h.b9 z;unfold Cd at d;have e:j=c.1.length:=iC
 rw[h3,e,C5,<-d]
def Db.CZ(h:Db bd V ix sg cl lo)(hc:IL V V'):(∀nm c,V' nm=some c->Cd c)/\
 match lo with
 | none=>Db bd V' ix sg cl none
 | some (n,l)=>∃c i,V (Ah n)=some c/\Fl c l<=i/\i<=l.length/\Db bd V' ix sg cl (some (n,l.take i)):=by
 have Y:∀nm c,V' nm=some c->Cd c:=λnm c L=>by
  rcases hc nm with⟨_,z⟩|⟨d,j,E,z,I,X⟩
  ·rw[L]at z;cases z
  ·rw[X]at L;cases L;unfold Cd;dsimp only;rw[BK];omega
 have aB:∀nm,V' nm≠none->V nm≠none:=λnm L hv=>L (hc.eG hv);have aA:G8 V' 0 cl:=h.Ao.bx λx hx=>by
  have⟨_,_,c,E,z⟩:=h.D7 x hx;rw[hc.GM E z,E]
 have key:∀O:Option (Int×gF Pu),O.map (·.1)=lo.map (·.1)->(∀n l,O=some (n,l)->(isNum n=true/\ix.Bd<=n)/\(∀p∈l,Bo p)/\∃c,V' (Ah n)=some c/\IE c.1 (Ah n) (Ax cl).length l)->Db bd V' ix sg cl O:=λO e hl=>
  ⟨h.E4,by
   rcases h.J6 with⟨E,z⟩|⟨c,E,z,I⟩
   ·exact .inl ⟨hc.eG E,z⟩
   ·exact .inr ⟨c,hc.GM E z,z,I⟩,h.sd,λx hx=>by
   have⟨E,c,z,I,X⟩:=h.CD x hx
   exact⟨E,c,hc.GM z I,I,X⟩,λx hx=>by
   have⟨E,z,c,I,X⟩:=h.D7 x hx
   exact⟨E,z,c,hc.GM I X,X⟩,aA,hl,by rw[e];exact h.Fj,λn E z I=>by rw[e];exact h.C9 n E z (aB _ I),λnm L=>h.EE nm (aB _ L),λnm c L=>by
   have:=Y nm c L;unfold Cd at this;omega⟩
 refine⟨Y,?_⟩;cases lo with
 | none=>exact key none rfl λn l e=>by cases e
 | some x=>
  obtain⟨n,l⟩:=x;have⟨E,z,c,I,X⟩:=h.Ac n l rfl;have⟨j,j1,j2,j3⟩:=hc.b9 I;refine⟨c,min l.length ((j-12)/21),I,?_,Nat.min_le_left _ _,key _ rfl λn' l' e=>?_⟩
  ·unfold Fl;have:(c.2.toNat-12)/21<=(j-12)/21:=A4D iC;omega
  ·cases e;have ht:l.take (min l.length ((j-12)/21))=l.take ((j-12)/21):=by
    rw[List.take_eq_take_iff];omega
   rw[ht];exact⟨E,λp hp=>z p (HD hp),_,j3,X.cg j j2⟩
def Db.bW(h:Db bd V ix sg cl lo)(Y:∀nm,nm=AJ\/(∃x∈sg,nm=AH x.1)\/(∃n,isNum n=true/\ix.Bd<=n/\nm=Ah n)->(V nm=none/\V' nm=none)\/∃c d,V nm=some c/\V' nm=some d/\d.1=c.1/\(d.2=c.2\/Cd d))(h2:∀nm,V' nm≠none->FU bd nm)(h3:∀nm c,V' nm=some c->0<=c.2/\c.2<=c.1.length):Db bd V' ix sg cl lo:=by
 have up:∀ {nm:Bs} {c:FC},(nm=AJ\/(∃x∈sg,nm=AH x.1)\/(∃n,isNum n=true/\ix.Bd<=n/\nm=Ah n))->V nm=some c->∃d,V' nm=some d/\d.1=c.1/\(Cd c->Cd d):=λ{nm c} hn hv=>by
  rcases Y nm hn with⟨q,_⟩|⟨c',d,z,L,I,E⟩
  ·rw[hv]at q;cases q
  ·rw[hv]at z;cases z;refine⟨d,L,I,λhd=>?_⟩;rcases E with E|E
   ·unfold Cd at hd ⊢;rw[I,E];exact hd
   ·exact E
 have O:∀x∈cl,(V' (Ah x.1)).map (·.1)=(V (Ah x.1)).map (·.1):=λx X=>by
  have⟨z,_,c,I,_⟩:=h.D7 x X;have⟨d,d1,d2,_⟩:=up (.inr (.inr ⟨x.1,z.1,z.2,rfl⟩)) I;rw[d1,I];simp[d2]
 refine⟨h.E4,?_,h.sd,λx X=>?_,λx X=>?_,h.Ao.bx O,λn l e=>?_,h.Fj,λn z L I=>h.C9 n z L λq=>?_,h2,h3⟩
 ·rcases h.J6 with⟨z,L⟩|⟨c,z,L,I⟩
  ·rcases Y AJ (.inl rfl) with⟨_,q⟩|⟨c',d,E,_⟩
   ·exact .inl ⟨q,L⟩
   ·rw[z]at E;cases E
  ·have⟨d,d1,d2,d3⟩:=up (.inl rfl) z;exact .inr ⟨d,d1,d3 L,by rw[d2];exact I⟩
 ·have⟨z,c,L,I,E⟩:=h.CD x X;have⟨d,d1,d2,d3⟩:=up (.inr (.inl ⟨x,X,rfl⟩)) L;exact⟨z,d,d1,d3 I,by rw[d2];exact E⟩
 ·have⟨z,L,c,I,E⟩:=h.D7 x X;have⟨d,d1,d2,d3⟩:=up (.inr (.inr ⟨x.1,z.1,z.2,rfl⟩)) I;exact⟨z,L,d,d1,d3 E⟩
 ·have⟨z,L,c,I,E⟩:=h.Ac n l e;have⟨d,d1,d2,d3⟩:=up (.inr (.inr ⟨n,z.1,z.2,rfl⟩)) I;exact⟨z,L,d,d1,by rw[d2];exact E⟩
 ·rcases Y (Ah n) (.inr (.inr ⟨n,z,L,rfl⟩)) with⟨_,E⟩|⟨c,d,E,_⟩
  ·exact I E
  ·rw[q]at E;cases E
def Db.aV{d:Int×Int}(h:Db bd V ix sg cl lo)(z:Ip bd d):Db d V ix sg cl lo:=
 ⟨h.E4.aV z,h.J6,h.sd,h.CD,h.D7,h.Ao,h.Ac,h.Fj,h.C9,λnm E=>(h.EE nm E).aV z,h.El⟩
end
def C4.C(o:Int)(a:gF Pu):C4 o a a:=⟨λ_ _ _=>rfl,λp d=>⟨p,d,rfl,rfl⟩,An _⟩
def C4.AF{o:Int}{a b c:gF Pu}(h:C4 o a b)(d:C4 o b c):C4 o a c:=⟨λk t z=>(h.1 k t z).trans (d.1 k t z),λp E=>by
 have⟨q,hq,e1,e2⟩:=h.2.1 p E;have⟨r,hr,e3,e4⟩:=d.2.1 q hq
 exact⟨r,hr,e3.trans e1,e4.trans e2⟩,AO h.2.2 d.2.2⟩
def C4.bh{o d:Int}{a b:gF Pu}(h:C4 o a b)(ho:o<=d):C4 d a b:=⟨λk t ht=>h.1 k t iC,h.2⟩
def C4.dR{o:Int}{a b:gF Pu}(h:C4 o a b)(c:gF Pu):C4 o (a++c) (b++c):=⟨λk t z=>by rw[Hc,Hc,h.1 k t z],λp d=>by
 rcases AX.1 d with d|d
 ·have⟨q,hq,e⟩:=h.2.1 p d;exact⟨q,G9 _ hq,e⟩
 ·exact⟨p,HW _ d,rfl,rfl⟩,by have:=h.2.2;rw[B3,B3];omega⟩
def C4.eX{o:Int}{a b:gF Pu}(z:∀k t,o<=t->Bz a k t=Bz b k t)(h:∀p∈a,p∈b)(E:a.length<=b.length):C4 o a b:=⟨z,λp d=>⟨p,h p d,rfl,rfl⟩,E⟩
def Holds(bd:Int×Int)(V:View)(pd:gF Pu)(Ad:Nat)(o:Int):Prop:=
 ∃ix z h d nb,Db bd V ix z h d/\nb<=pd.length/\C4 o (Ax z++Ax h) (pd.take nb)/\
  (∀n l,d=some (n,l)->∃c,V (Ah n)=some c/\Ad<=nb+Fl c l/\l=(pd.drop nb).take l.length)/\(d=none->Ad<=nb)
def F7:Option (Int×gF Pu)->gF Pu
 | none=>[]
 | some x=>x.2
section
variable{bd:Int×Int}{V V':View}{pd:gF Pu}{Ad:Nat}{o:Int}
def Holds.CZ(h:Holds bd V pd Ad o)(Y:IL V V'):∃ix d z E n,Db bd V' ix d z E/\(∀nm c,V' nm=some c->Cd c)/\Ad<=n/\n<=pd.length/\C4 o (Ax d++Ax z++F7 E) (pd.take n):=by
 obtain⟨ix,d,z,E,nb,hL,I,L,X,O⟩:=h;have⟨hd,hcut⟩:=hL.CZ Y;cases E with
 | none=>exact⟨ix,d,z,none,nb,hcut,hd,O rfl,I,by simpa[F7] using L⟩
 | some x=>
  obtain⟨n,l⟩:=x;obtain⟨c,i,c1,c2,c3,c4⟩:=hcut;have⟨c',d1,d2,d3⟩:=X n l rfl;rw[c1]at d1;cases d1;have hl:l.length<=(pd.drop nb).length:=by
   have:=Ex List.length d3;rw[BK]at this;omega
  rw[Cz]at hl;refine⟨ix,d,z,some (n,l.take i),nb+i,c4,hd,iC,iC,?_⟩;have e:pd.take (nb+i)=pd.take nb++l.take i:=by
   rw[List.take_add,d3,KQ]
   congr 2;omega
  rw[e];exact L.dR _
def Holds.aV{d:Int×Int}(h:Holds bd V pd Ad o)(I:Ip bd d):Holds d V pd Ad o:=by
 obtain⟨ix,O,z,L,nb,E,r⟩:=h;exact⟨ix,O,z,L,nb,E.aV I,r⟩
def Holds.bh{z:Int}(h:Holds bd V pd Ad o)(I:o<=z):Holds bd V pd Ad z:=by
 obtain⟨ix,sg,E,lo,nb,O,d,Y,X,L⟩:=h;exact⟨ix,sg,E,lo,nb,O,d,Y.bh I,X,L⟩
def Holds.ck(h:Holds bd V pd Ad o)(q:gF Pu):Holds bd V (pd++q) Ad o:=by
 obtain⟨ix,sg,z,E,nb,O,d,Y,X,L⟩:=h;refine⟨ix,sg,z,E,nb,O,by simp;omega,by rw[HC d];exact Y,λn l e=>?_,L⟩;have⟨c,d1,d2,d3⟩:=X n l e;refine⟨c,d1,d2,?_⟩;have I:l.length<=(pd.drop nb).length:=by
  have:=Ex List.length d3;rw[BK]at this;omega
 rw[Ml d,HC I];exact d3
def Holds.bF{ix:Ix}{z h:gF (Int×gF Pu)}(I:Db bd V ix z h none)(E:C4 o (Ax z++Ax h) pd)(d:Ad<=pd.length):Holds bd V pd Ad o:=
 ⟨ix,z,h,none,pd.length,I,An _,by rw[C5];exact E,λn l e=>(by cases e),λ_=>d⟩
def UQ{c d:FC}{l:gF Pu}(E:d.1=c.1)(h:d.2=c.2\/Cd d)(z:c.2<=c.1.length):Fl c l<=Fl d l:=by
 unfold Fl;have:c.2<=d.2:=by
  rcases h with h|h
  ·omega
  ·unfold Cd at h;rw[h,E];exact z
 have:(c.2.toNat-12)/21<=(d.2.toNat-12)/21:=A4D iC;omega
def Holds.bW(h:Holds bd V pd Ad o)(I:∀nm,(∀c,V nm=some c->∃d,V' nm=some d/\d.1=c.1/\(d.2=c.2\/Cd d))/\(V nm=none->V' nm=none)):Holds bd V' pd Ad o:=by
 obtain⟨ix,sg,cl,lo,nb,O,X,hs,g1,Y⟩:=h;have L:∀nm,V' nm≠none->V nm≠none:=λnm z E=>z ((I nm).2 E);refine⟨ix,sg,cl,lo,nb,O.bW (λnm _=>?_) (λnm z=>O.EE nm (L nm z)) (λnm c z=>?_),X,hs,λn l e=>?_,Y⟩
 ·cases E:V nm with
  | none=>exact .inl ⟨rfl,(I nm).2 E⟩
  | some c=>have⟨d,d1,d2,d3⟩:=(I nm).1 c E;exact .inr ⟨c,d,rfl,d1,d2,d3⟩
 ·cases E:V nm with
  | none=>rw[(I nm).2 E]at z;cases z
  | some x=>
   have⟨d,d1,d2,d3⟩:=(I nm).1 x E;rw[d1]at z;cases z;have:=O.El nm x E;rcases d3 with d3|d3
   ·rw[d2,d3];exact this
   ·unfold Cd at d3;omega
 ·have⟨c,d1,d2,d3⟩:=g1 n l e;have⟨d,e1,e2,e3⟩:=(I _).1 c d1;exact⟨d,e1,AO d2 (Mc (UQ e2 e3 (O.El _ _ d1).2) _),d3⟩
def Fs(bd:Int×Int)(V:View)(pd:gF Pu)(Ad:Nat)(o:Int)(n:Int)(h:Nat):Prop:=
 ∃ix z d l nb c,Db bd V ix z d (some (n,l))/\nb<=pd.length/\C4 o (Ax z++Ax d) (pd.take nb)/\V (Ah n)=some c/\c.1=Er (Ah n) h l/\h=(Ax d).length/\Ad<=nb+Fl c l/\l=pd.drop nb
def Fs.aV{d:Int×Int}{n:Int}{z:Nat}(h:Fs bd V pd Ad o n z)(I:Ip bd d):Fs d V pd Ad o n z:=by
 obtain⟨ix,O,E,l,nb,c,L,r⟩:=h;exact⟨ix,O,E,l,nb,c,L.aV I,r⟩
def Fs.cp{n:Int}{ag:Nat}(h:Fs bd V pd Ad o n ag):Holds bd V pd Ad o:=by
 obtain⟨ix,O,Y,l,nb,c,L,d,X,E,h2,h3,z,I⟩:=h;exact⟨ix,O,Y,some (n,l),nb,L,d,X,λn' l' e=>by cases e;exact⟨c,E,z,by rw[<-I,C5]⟩,λe=>by cases e⟩
def Fs.au{n:Int}{ag:Nat}(h:Fs bd V pd Ad o n ag)(p:Pu)(hp:Bo p)(j:Nat){s:Nat}(aE:∀l c,V (Ah n)=some c->c.1=Er (Ah n) ag l->s=FK (Ah n) ag l)(I:∀nm,nm≠Ah n->V' nm=V nm)(h2:∀c,V (Ah n)=some c->V' (Ah n)=some (c.1++(AT s (Bg p.1 p.2.1 p.2.2)).take j,c.2)):
 (21<=j->Fs bd V' (pd++[p]) Ad o n ag)/\(j<21->Holds bd V' pd Ad o):=by
 obtain⟨ix,sg,cl,l,nb,c,E,Y,hs,g1,g2,g3,g4,g5⟩:=h;have aG:=aE l c g1 g2;have hv:=h2 c g1;have hpl:(AT s (Bg p.1 p.2.1 p.2.2)).length=21:=by rw[EP,FH]
 have⟨q1,q2,c',q3,q4⟩:=E.Ac n l rfl;rw[g1]at q3;cases q3;have L:=(EL.1 E.Fj).2.2;have aA:∀x∈cl,Ah x.1≠Ah n:=λx z e=>by
  have e2:=Gq (E.D7 x z).1.1 q1.1 e;have:=L x.1 (Ej z) n iE;omega
 have X:G8 V' 0 cl:=E.Ao.bx λx z=>by rw[I _ (aA x z)]
 have mk:∀l',(∀p∈l',Bo p)->IE (c.1++(AT s (Bg p.1 p.2.1 p.2.2)).take j) (Ah n) (Ax cl).length l'->Db bd V' ix sg cl (some (n,l')):=λl' aD aB=>
  ⟨E.E4,by rw[I _ (I5 n).symm];exact E.J6,E.sd,λx z=>by rw[I _ (Gv n x.1).symm];exact E.CD x z,λx z=>by rw[I _ (aA x z)];exact E.D7 x z,X,
   λn' l2 e=>by cases e;exact⟨q1,aD,_,hv,aB⟩,E.Fj,λk k1 k2 k3=>by
    by_cases e:Ah k=Ah n
    ·have:=Gq k1 q1.1 e;subst this;simp
    ·rw[I _ e]at k3;exact E.C9 k k1 k2 k3,λnm O=>by
    by_cases e:nm=Ah n
    ·subst e;exact E.EE _ (by rw[g1];simp)
    ·rw[I _ e]at O;exact E.EE nm O,λnm d O=>by
    by_cases e:nm=Ah n
    ·subst e;rw[hv]at O;cases O;have:=E.El _ _ g1;dsimp only;rw[B3];omega
    ·rw[I _ e]at O;exact E.El nm d O⟩
 constructor
 ·intro hj;have ht:(AT s (Bg p.1 p.2.1 p.2.2)).take j=AT s (Bg p.1 p.2.1 p.2.2):=Eu iC;have hb:c.1++(AT s (Bg p.1 p.2.1 p.2.2)).take j=Er (Ah n) ag (l++[p]):=by rw[ht,g2,aG,(U6 _ _ _ _).1]
  have aF:∀x∈l++[p],Bo x:=λx z=>by
   rcases AX.1 z with z|z
   ·exact q2 x z
   ·simp at z;subst z;exact hp
  refine⟨ix,sg,cl,l++[p],nb,_,mk _ aF (.inl ⟨[],by rw[hb,g3];simp,iE⟩),by simp;omega,by rw[HC Y];exact hs,hv,hb,g3,?_,by rw[Ml Y,<-g5]⟩;have:Fl c l<=Fl (c.1++(AT s (Bg p.1 p.2.1 p.2.2)).take j,c.2) (l++[p]):=by unfold Fl;simp;omega
  omega
 ·intro hj
  refine⟨ix,sg,cl,some (n,l),nb,mk l q2 (.inl ⟨_,by rw[g2,g3],by rw[BK];omega⟩),Y,hs,λn' l' e=>by
   cases e
   exact⟨_,hv,by unfold Fl at g4 ⊢;exact g4,by rw[<-g5,C5]⟩,λe=>by cases e⟩
end
structure AK (P Q:PD):Prop where
 A6:P.D.A6=Q.D.A6
 AG:P.D.AG=Q.D.AG
 As:P.D.As=Q.D.As
 EI:P.F=Q.F
structure Hz (P:PD):Prop where
 Aq:(P.D.A6.map (·.2)).Nodup
 Ck:(P.D.A6.map (·.1)).Nodup
def PD.aP(P:PD):PD:=⟨{P.D with n:=⟨(AV P.F P.D.A6:Int)+4611686018427387904,0,0,0,0,0,0,false⟩},P.F⟩
def AK.aP(P:PD):AK P P.aP:=⟨rfl,rfl,rfl,rfl⟩
def Hz.aP{P:PD}(h:Hz P):Cm P.aP 4611686018427387904 4611686018427387904:=
 ⟨rfl,rfl,rfl,⟨by simp[PD.aP],by simp[PD.aP]⟩,by simp[PD.aP],h.Aq,h.Ck⟩
def Hu{n:DN}(h:(bg n).2.1=0):(bg n).1=true:=by
 unfold bg at h ⊢;dsimp only at h ⊢;split at h
 ·cases h
 ·split at h
  ·cases h
  ·split at h
   ·cases h
   ·rename_i z d E;rw[Af z,Af d,Af E]
section
variable{P Q:PD}{N R:Nat}{nm oe:gE}
def AK.AW(h:AK P Q):P.D.AW=Q.D.AW:=by unfold DS.AW;rw[h.A6,h.AG,h.As]
def AK.fl(h:AK P Q)(m:Bs):P.fl m=Q.fl m:=by unfold PD.fl;rw[h.A6,h.EI]
def AK.bs(h:AK P Q)(m:Bs):P.bs m=Q.bs m:=by unfold PD.bs;rw[h.fl]
def AK.aq(h:AK P Q)(I:Cm Q (N+1) R)(d:(P.aq nm).1=0):(Q.aq nm).1=0/\AK (P.aq nm).2 (Q.aq nm).2/\Cm (Q.aq nm).2 N R:=by
 have O:=h.AW;unfold PD.aq CY at d ⊢;rw[h.A6]at d ⊢;by_cases z:nm=ByteArray.empty\/Bb Q.D.A6 nm≥0
 ·rw[Ai z]at d;cases d
 ·rw[Af z]at d;rw[Af z,Af z];dsimp only at d ⊢;rw[Hu d,I.bg,O,h.EI];dsimp only
  rw[Ai rfl,Ai rfl];refine⟨rfl,⟨rfl,h.AG,by dsimp only;rw[h.As],rfl⟩,?_⟩;have E:¬nm=ByteArray.empty:=λe=>z (.inl e);have Y:lookup Q.D.A6 nm=none:=(JP _ _).1 (by (have:¬Bb Q.D.A6 nm≥0:=λe=>z (.inr e));omega);have L:=G4 nm;have X:Q.fl nm.data.toList=none:=by unfold PD.fl;rw[L,Y];rfl
  have:=(Cm.aq (nm:=nm.data.toList) I X (λe=>E (by rw[<-L,e];rfl))).2.1;rw[L]at this;unfold PD.aq CY at this;rw[Af z]at this;dsimp only at this;rw[I.bg]at this;simpa using this
def AK.ae(h:AK P Q)(z:Cm Q (N+1) R)(d:(P.ae nm).1=0):(Q.ae nm).1=0/\AK (P.ae nm).2 (Q.ae nm).2/\Cm (Q.ae nm).2 N R:=by
 have E:=G4 nm;have key:lookup Q.D.A6 nm≠none->Cm (Q.ae nm).2 N R:=λI=>by
  cases hx:lookup Q.D.A6 nm with
  | none=>exact absurd hx I
  | some f=>
   have:=(Cm.ae (nm:=nm.data.toList) (c:=Q.F f) z (by unfold PD.fl;rw[E,hx];rfl)).2.1
   rwa [E]at this
 unfold PD.ae CP at d key ⊢;rw[h.A6]at d ⊢;cases hx:lookup Q.D.A6 nm with
 | none=>rw[hx]at d;cases d
 | some f=>
  rw[hx]at d key;dsimp only at d key ⊢;rw[d,Ai rfl];rw[z.bg]at key ⊢;dsimp only at key ⊢;rw[Ai rfl]at key ⊢;exact⟨rfl,⟨rfl,h.AG,h.As,by dsimp only;rw[h.EI]⟩,key iE⟩
def AK.aI(h:AK P Q)(z:Cm Q (N+1) R)(d:P.aI.1=0):Q.aI.1=0/\AK P.aI.2 Q.aI.2/\Cm Q.aI.2 N R:=by
 have key:=z.aI.2.1;refine⟨z.aI.1,?_,key⟩;unfold PD.aI Ef at d ⊢;dsimp only at d ⊢;rw[d,Ai rfl,z.bg];dsimp only
 rw[Ai rfl];exact⟨h.A6,h.A6,rfl,h.EI⟩
def AK.aF(h:AK P Q)(E:Cm Q (N+1) R)(d:(P.aF nm).1=0):(Q.aF nm).1=0/\AK (P.aF nm).2 (Q.aF nm).2/\Cm (Q.aF nm).2 N R:=by
 have I:=G4 nm;have key:lookup Q.D.A6 nm≠none->(Q.aF nm).1=0/\Cm (Q.aF nm).2 N R:=λL=>by
  cases z:lookup Q.D.A6 nm with
  | none=>exact absurd z L
  | some f=>
   have:=(Cm.aF (nm:=nm.data.toList) (c:=Q.F f) E (by unfold PD.fl;rw[I,z];rfl));rw[I]at this;exact⟨this.1,this.2.1⟩
 have z:¬Bb Q.D.A6 nm<0:=λz=>by
  unfold PD.aF DB at d;rw[h.A6,Ai z]at d;cases d
 have⟨k1,k2⟩:=key λe=>z ((JP _ _).2 e);refine⟨k1,?_,k2⟩;unfold PD.aF DB at d ⊢;rw[h.A6,Af z]at d;rw[h.A6,Af z,Af z];dsimp only at d ⊢;rw[Hu d,E.bg];dsimp only
 rw[Ai rfl,Ai rfl];exact⟨rfl,h.AG,by dsimp only;rw[h.As],h.EI⟩
def AK.aQ(h:AK P Q)(L:Cm Q (N+1) R)(O:oe≠nm)(d:(P.aQ oe nm).1=0):(Q.aQ oe nm).1=0/\AK (P.aQ oe nm).2 (Q.aQ oe nm).2/\Cm (Q.aQ oe nm).2 N R:=by
 have I:=G4 nm;have E:=G4 oe;unfold PD.aQ Da at d;rw[h.A6]at d;cases hx:lookup Q.D.A6 oe with
 | none=>rw[hx]at d;cases d
 | some f=>
  rw[hx]at d;dsimp only at d;by_cases z:nm=ByteArray.empty
  ·rw[Ai z]at d;cases d
  ·rw[Af z]at d;dsimp only at d;have key:=Cm.aQ (nm:=nm.data.toList) (oe:=oe.data.toList) (c:=Q.F f) L (by unfold PD.fl;rw[E,hx];rfl) (λe=>z (by rw[<-I,e];rfl)) (λe=>O (by rw[<-I,<-E,e]));rw[I,E]at key;refine⟨key.1,?_,key.2.1⟩;unfold PD.aQ Da;rw[h.A6,hx];dsimp only
   rw[Af z,Af z];dsimp only
   rw[Hu d,L.bg];dsimp only
   rw[Ai rfl,Ai rfl];exact⟨rfl,h.AG,by dsimp only;rw[h.As],h.EI⟩
def AK.au{l:Bs}(h:AK P Q)(Y:Cm Q (N+1) R)(hl:l.length<=R)(d:(P.au nm l).1=0):(Q.au nm l).1=0/\AK (P.au nm l).2 (Q.au nm l).2/\Cm (Q.au nm l).2 N (R-l.length):=by
 have hn:=G4 nm;have X:¬(bg P.D.n).2.1≠0:=λz=>by
  unfold PD.au BA at d;rw[h.A6]at d;cases hx:lookup Q.D.A6 nm with
  | none=>rw[hx]at d;cases d
  | some f=>
   rw[hx]at d;dsimp only at d;have E:∀D n0,(BP D P.F f (Ab l) n0 (bg P.D.n).2.1).1≠0:=λD n0=>by
    unfold BP;split
    ·dsimp only;first|exact z|(rw[Af z];exact z)
    ·exact z
   split at d
   ·exact E _ _ d
   ·split at d
    ·exact E _ _ d
    ·exact z d
 have z:(bg P.D.n).2.1=0:=by
  by_cases e:(bg P.D.n).2.1=0
  ·exact e
  ·exact absurd e X
 cases hx:lookup Q.D.A6 nm with
 | none=>
  unfold PD.au BA at d;rw[h.A6,hx]at d;cases d
 | some f=>
  have key:=Cm.au (nm:=nm.data.toList) (c:=Q.F f) Y (by unfold PD.fl;rw[hn,hx];rfl) l hl;rw[hn]at key;refine⟨key.1,?_,key.2.1⟩;have L:∀D:DS,D.A6=Q.D.A6->D.n.Av=Q.D.n.Av->¬((Ab l).size:Int)>Gw D Q.F:=λD h1 O=>by
   have:=Y.Av;unfold Gw;rw[h1,O,Lv];omega
  unfold PD.au BA at d ⊢;rw[h.A6,hx]at d;rw[h.A6,hx];dsimp only at d ⊢;rw[Hu z,Ai rfl,z]at d;rw[Hu z,Ai rfl,z,Y.bg];dsimp only
  rw[Ai rfl];unfold BP at d ⊢;split at d
  ·simp at d
  ·rename_i I;rw[Af I];split
   ·rename_i O;exact absurd O (L _ rfl rfl)
   ·exact⟨rfl,h.AG,h.As,by dsimp only;rw[h.EI]⟩
end
def nn{x:Int}(h:x=0):¬x≠0:=λk=>k h
section
variable{P Q:PD}{N R:Nat}{nm oe:Bs}{A:Ar}{J:Jn}
def AK.Az(h:AK P Q):P.Az=Q.Az:=by unfold PD.Az;rw[h.A6]
def AK.aU(h:AK P Q):A.aU P=A.aU Q:=by unfold Ar.aU;rw[h.Az]
def AK.aW(h:AK P Q)(n a:Int):P.aW n a=Q.aW n a:=by
 unfold PD.aW H8 Eh;rw[h.A6,h.EI]
def AK.bp(h:AK P Q):∀(l:gF Int) (d:gF Pu),P.bp l d=Q.bp l d
 | [],_=>rfl
 | n::r,d=>by simp only[PD.bp];rw[h.aW,h.bp r]
def AK.pd(h:AK P Q)(l:gF Int):P.pd l=Q.pd l:=h.bp l []
def AK.C9(h:AK P Q)(m:Bs):P.C9 m=Q.C9 m:=by unfold PD.C9 Eh;rw[h.A6,h.EI]
def AK.aY(h:AK P Q)(m:Bs):P.aY m=Q.aY m:=by unfold PD.aY;rw[h.C9]
def AK.CD(h:AK P Q)(n:Int):P.CD n=Q.CD n:=by unfold PD.CD;rw[h.aY]
def AK.sd(h:AK P Q):∀l:gF Int,P.sd l=Q.sd l
 | []=>rfl
 | n::r=>by simp only[PD.sd];rw[h.CD,h.sd r]
def AK.b1{s:Nat}{l:Bs}(h:AK P Q)(E:Cm Q (N+1) R)(hl:l.length+4<=R)(d:(P.af (Ab nm) s l).2.1=0):
 (P.af (Ab nm) s l).1=(Q.af (Ab nm) s l).1/\(Q.af (Ab nm) s l).2.1=0/\AK (P.af (Ab nm) s l).2.2 (Q.af (Ab nm) s l).2.2/\Cm (Q.af (Ab nm) s l).2.2 N (R-(l.length+4)):=by
 have z:=EP s l;have⟨a1,a2,a3⟩:=h.au (nm:=Ab nm) (l:=AT s l) E iC d;rw[z]at a3;refine⟨?_,a1,a2,a3⟩;have e:∀X:PD,(X.af (Ab nm) s l).1=decide ((CH (X.au (Ab nm) (AT s l)).2.D (X.au (Ab nm) (AT s l)).2.F (Ab nm)).1-(CH X.D X.F (Ab nm)).1=(AT s l).length):=λX=>rfl;rw[e P,e Q];unfold CH;rw[a2.A6,a2.EI,h.A6,h.EI]
def AK.aH{s:Nat}{l:Bs}(h:AK P Q)(O:Cm Q (N+3) R)(I:l.length+4<=R)(d:(P.aH nm s l).1=0):
 (Q.aH nm s l).1=0/\AK (P.aH nm s l).2 (Q.aH nm s l).2/\Cm (Q.aH nm s l).2 N (R-(l.length+4)):=by
 unfold PD.aH at d ⊢;by_cases E:(P.aq (Ab nm)).1=0
 ·rw[Af (nn E)]at d;have⟨a1,a2,a3⟩:=h.aq (N:=N+2) (nm:=Ab nm) O E;by_cases z:((P.aq (Ab nm)).2.af (Ab nm) s l).2.1=0
  ·rw[Af (nn z)]at d;obtain⟨-,b1,b2,L⟩:=a2.b1 (N:=N+1) (nm:=nm) a3 I z;have⟨c1,c2,c3⟩:=b2.ae (N:=N) (nm:=Ab nm) L d;rw[Af (nn E),Af (nn z),Af (nn a1),Af (nn b1)];exact⟨c1,c2,c3⟩
  ·rw[Ai z]at d;exact absurd d z
 ·rw[Ai E]at d;exact absurd d E
def AK.ax:∀(l:gF Bs) {P Q:PD},AK P Q->Cm Q (N+l.length) R->(PD.ax l P).1=0->(PD.ax l Q).1=0/\AK (PD.ax l P).2 (PD.ax l Q).2/\Cm (PD.ax l Q).2 N R
 | [],P,Q,h,hc,_=>⟨rfl,h,hc⟩
 | x::r,P,Q,h,hc,hok=>by
  unfold PD.ax at hok ⊢;by_cases d:(P.ae (Ab x)).1=0
  ·rw[Af (nn d)]at hok;obtain⟨E,z,I⟩:=h.ae (N:=N+r.length) (nm:=Ab x) (by simpa[Nat.add_assoc] using hc) d;rw[Af (nn d),Af (nn E)];exact AK.ax r z I hok
  ·rw[Ai d]at hok;exact absurd hok d
def AK.aN:∀(l:gF Bs) {P Q:PD},AK P Q->Cm Q (N+l.length) R->(PD.aN l P).1=0->(PD.aN l Q).1=0/\AK (PD.aN l P).2 (PD.aN l Q).2/\Cm (PD.aN l Q).2 N R
 | [],P,Q,h,hc,_=>⟨rfl,h,hc⟩
 | x::r,P,Q,h,hc,hok=>by
  unfold PD.aN at hok ⊢;by_cases d:(P.aF (Ab x)).1=0
  ·rw[Af (nn d)]at hok;obtain⟨E,z,I⟩:=h.aF (N:=N+r.length) (nm:=Ab x) (by simpa[Nat.add_assoc] using hc) d;rw[Af (nn d),Af (nn E)];exact AK.aN r z I hok
  ·rw[Ai d]at hok;exact absurd hok d
def AK.I(h:AK P Q)(E:Cm Q (N+A.AS.length) R)(d:(A.I P).1=0):(A.I Q).1=0/\(A.I P).2.1=(A.I Q).2.1/\AK (A.I P).2.2 (A.I Q).2.2/\Cm (A.I Q).2.2 N R:=by
 unfold Ar.I at d ⊢;by_cases z:(P.ax A.AS).1=0
 ·have⟨a1,a2,a3⟩:=AK.ax A.AS h E z;rw[Af (nn z),Af (nn a1)];exact⟨rfl,rfl,a2,a3⟩
 ·rw[Ai z]at d;exact absurd d z
def AK.ay(h:AK P Q)(z:Cm Q (N+(A.aU Q).length) R)(d:(A.ay P).1=0):(A.ay Q).1=0/\AK (A.ay P).2 (A.ay Q).2/\Cm (A.ay Q).2 N R:=by
 unfold Ar.ay at d ⊢;rw[h.aU]at d ⊢;exact AK.aN _ h z d
def AK.aw(h:AK P Q)(L:Cm Q (N+2) R)(hR:12<=R)(d:(J.aw P).1=0):(J.aw Q).1=0/\(J.aw P).2.1=(J.aw Q).2.1/\AK (J.aw P).2.2 (J.aw Q).2.2/\Cm (J.aw Q).2.2 N (R-12):=by
 unfold Jn.aw at d ⊢;by_cases z:(P.aq (Ab (Ah (J.Ac+1)))).1=0
 ·rw[Af (nn z)]at d;have⟨a1,a2,a3⟩:=h.aq (N:=N+1) L z;dsimp only at d ⊢;by_cases E:((P.aq (Ab (Ah (J.Ac+1)))).2.af (Ab (Ah (J.Ac+1))) (AI (Ah (J.Ac+1))) (AQ J.pd)).2.1=0
  ·obtain⟨-,b1,b2,I⟩:=a2.b1 (N:=N) (nm:=Ah (J.Ac+1)) (s:=AI (Ah (J.Ac+1))) (l:=AQ J.pd) a3 (by rw[CT];omega) E;rw[CT]at I;rw[Af (nn z),Af (nn E),Af (nn a1),Af (nn b1)];exact⟨rfl,rfl,b2,I⟩
  ·rw[Ai E]at d;exact absurd d E
 ·rw[Ai z]at d;exact absurd d z
def AK.az(h:AK P Q)(z:Cm Q (N+1) R)(hR:21<=R)(p:Pu)(d:(J.az P p).2.1=0):(J.az P p).1=(J.az Q p).1/\(J.az Q p).2.1=0/\(J.az P p).2.2.1=(J.az Q p).2.2.1/\AK (J.az P p).2.2.2 (J.az Q p).2.2.2/\Cm (J.az Q p).2.2.2 N (R-21):=by
 unfold Jn.az at d ⊢;cases hx:J.AB with
 | none=>exact⟨rfl,rfl,rfl,h,z.ah iC iC⟩
 | some x=>
  obtain⟨n,s⟩:=x;rw[hx]at d;dsimp only at d ⊢;have⟨b0,b1,b2,b3⟩:=h.b1 (N:=N) (nm:=Ah n) z (by rw[FH];omega) d;rw[FH]at b3;exact⟨b0,b1,rfl,b2,b3⟩
def AK.fs(h:AK P Q)(z:Cm Q (N+1) R)(d:(J.ae P).1=0):(J.ae Q).1=0/\AK (J.ae P).2 (J.ae Q).2/\Cm (J.ae Q).2 N R:=by
 unfold Jn.ae at d ⊢;cases hx:J.AB with
 | none=>exact⟨rfl,h,z.ah iC (An _)⟩
 | some x=>
  obtain⟨n,s⟩:=x;rw[hx]at d;exact h.ae (N:=N) z d
def AK.ao:∀(L:gF (gF Pu)) (d:Int) (E:gF Int) {P Q:PD},AK P Q->Cm Q (N+3*L.length) (R+Du L)->(PD.ao L d E P).1=0->
 (PD.ao L d E Q).1=0/\(PD.ao L d E P).2.1=(PD.ao L d E Q).2.1/\(PD.ao L d E P).2.2.1=(PD.ao L d E Q).2.2.1/\AK (PD.ao L d E P).2.2.2 (PD.ao L d E Q).2.2.2/\Cm (PD.ao L d E Q).2.2.2 N R
 | [],d,E,P,Q,h,hc,_=>⟨rfl,rfl,rfl,h,by simpa[Du,PD.ao] using hc⟩
 | l::r,d,E,P,Q,h,hc,hok=>by
  have I:Du (l::r)=(17*l.length+4)+Du r:=by simp[Du]
  have z:∀X:PD,PD.ao (l::r) d E X=if (X.aJ (d+1) l).1≠0 then ((X.aJ (d+1) l).1,d+1,E,(X.aJ (d+1) l).2) else PD.ao r (d+1) (E++[d+1]) (X.aJ (d+1) l).2:=λ_=>rfl
  rw[z P]at hok;rw[z P,z Q];by_cases O:(P.aJ (d+1) l).1=0
  ·rw[Af (nn O)]at hok;have⟨a1,a2,a3⟩:=AK.aH (N:=N+3*r.length) (R:=R+Du (l::r)) (nm:=AH (d+1)) (s:=AI (AH (d+1))) (l:=Cr l) h (hc.ah (by simp;omega) (An _)) (by rw[IT,I];omega) O;rw[IT]at a3;have b1:(Q.aJ (d+1) l).1=0:=a1;rw[Af (nn O),Af (nn b1)];exact AK.ao r (d+1) (E++[d+1]) a2 (a3.ah (An _) (by rw[I];omega)) hok
  ·rw[Ai O]at hok;exact absurd hok O
def AK.dj{d:Int}{sd:gF Int}(h:AK P Q)(L:Cm Q (N+4) R)(hR:12+8*sd.length<=R)(z:(P.al d sd).1=0):(Q.al d sd).1=0/\AK (P.al d sd).2 (Q.al d sd).2/\Cm (Q.al d sd).2 N (R-(12+8*sd.length)):=by
 have I:(Cp d sd).length=8+8*sd.length:=by unfold Cp;rw[B3,CT,JO]
 unfold PD.al at z ⊢;by_cases E:(P.aH Bx (AI AJ) (Cp d sd)).1=0
 ·rw[Af (nn E)]at z;have⟨a1,a2,a3⟩:=h.aH (N:=N+1) L iC E;have⟨b1,b2,b3⟩:=a2.aQ (N:=N) a3 (λe=>JL (Gr.1 e).symm) z;rw[Af (nn E),Af (nn a1)];exact⟨b1,b2,by rw[I]at b3;exact b3.ah (An _) iC⟩
 ·rw[Ai E]at z;exact absurd z E
def AK.cJ{sd:gF Int}(h:AK P Q)(I:Cm Q (N+4) R)(L:12+8*sd.length<=R)(d:(A.al P sd).1=0):(A.al Q sd).1=0/\(A.al P sd).2.1=(A.al Q sd).2.1/\AK (A.al P sd).2.2 (A.al Q sd).2.2/\Cm (A.al Q sd).2.2 N (R-(12+8*sd.length)):=by
 unfold Ar.al at d ⊢;by_cases z:A.ix.Bd=A.j.Ac+1/\A.ix.sd=sd
 ·rw[Ai z,Ai z];exact⟨rfl,rfl,h,I.ah iC iC⟩
 ·rw[Af z]at d;rw[Af z,Af z];by_cases E:(P.al (A.j.Ac+1) sd).1=0
  ·have⟨a1,a2,a3⟩:=h.dj I L E;rw[Af (nn E),Af (nn a1)];exact⟨rfl,rfl,a2,a3⟩
  ·rw[Ai E]at d;exact absurd d E
end
def PD.dl(P:PD):Nat:=P.D.A6.length
def Jb(P:PD):P.Az.length=P.dl:=by
 unfold PD.Az PD.dl;rw[Fx,(LR P.D.A6).length_eq,Fx]
def A2t(P:PD)(nm:gE):(P.aq nm).2.dl<=P.dl+1:=by
 unfold PD.dl PD.aq CY;split
 ·exact EW _
 ·dsimp only;split
  ·simp
  ·exact EW _
def A2v(P:PD)(f:Nat)(x:gE)(n0 e:Int):(BP P.D P.F f x n0 e).2.1.A6=P.D.A6:=by
 unfold BP;split
 ·dsimp only;split<;>rfl
 ·rfl
def A2u(P:PD)(nm:gE)(l:Bs):(P.au nm l).2.dl=P.dl:=by
 unfold PD.dl PD.au BA;cases lookup P.D.A6 nm with
 | none=>rfl
 | some f=>
  dsimp only
  have h:∀n0 e,(BP {P.D with n:=(bg P.D.n).2.2} P.F f (Ab l) n0 e).2.1.A6=P.D.A6:=λn0 e=>A2v ⟨{P.D with n:=(bg P.D.n).2.2},P.F⟩ f (Ab l) n0 e;split
  ·rw[h]
  ·split
   ·rw[h]
   ·rfl
def US(P:PD)(nm:gE):(P.ae nm).2.dl=P.dl:=by
 unfold PD.dl PD.ae CP;cases lookup P.D.A6 nm<;>rfl
def UU(P:PD)(nm:gE):(P.aF nm).2.dl<=P.dl:=by
 unfold PD.dl PD.aF DB;split
 ·exact An _
 ·dsimp only;split
  ·dsimp only;rw[B3,BK,Cz];omega
  ·exact An _
def UT(P:PD)(oe nm:gE):(P.aQ oe nm).2.dl<=P.dl+1:=by
 unfold PD.dl PD.aQ Da;cases lookup P.D.A6 oe with
 | none=>exact EW _
 | some f=>
  dsimp only
  split
  ·exact EW _
  ·dsimp only;split
   ·dsimp only
    have:=OH P.D.A6 (Bb P.D.A6 oe).toNat nm P.D.A6.length;rw[B3];simp;omega
   ·exact EW _
def Ni(P:PD)(nm:Bs)(s:Nat)(l:Bs):(P.aH nm s l).2.dl<=P.dl+1:=by
 have d:=A2t P (Ab nm);have h:((P.aq (Ab nm)).2.af (Ab nm) s l).2.2.dl=(P.aq (Ab nm)).2.dl:=A2u _ _ _;unfold PD.aH;split
 ·exact d
 ·split
  ·rw[h];exact d
  ·rw[US,h];exact d
def PZ:∀(l:gF Bs) (P:PD),(PD.aN l P).2.dl<=P.dl
 | [],P=>An _
 | x::r,P=>by
  have d:=UU P (Ab x);unfold PD.aN;split
  ·exact d
  ·exact AO (PZ r _) d
def PY:∀(l:gF Bs) (P:PD),(PD.ax l P).2.dl=P.dl
 | [],P=>rfl
 | x::r,P=>by
  have d:=US P (Ab x);unfold PD.ax;split
  ·exact d
  ·exact(PY r _).trans d
def Nj:∀(E:gF (gF Pu)) (d:Int) (h:gF Int) (P:PD),(PD.ao E d h P).2.2.2.dl<=P.dl+E.length/\(PD.ao E d h P).2.2.1.length<=h.length+E.length
 | [],d,h,P=>⟨An _,by simp[PD.ao]⟩
 | l::r,d,h,P=>by
  have h1:(P.aJ (d+1) l).2.dl<=P.dl+1:=Ni _ _ _ _;have z:PD.ao (l::r) d h P=if (P.aJ (d+1) l).1≠0 then ((P.aJ (d+1) l).1,d+1,h,(P.aJ (d+1) l).2) else PD.ao r (d+1) (h++[d+1]) (P.aJ (d+1) l).2:=rfl
  rw[z];split
  ·exact⟨by simp;omega,iE⟩
  ·have⟨i1,i2⟩:=Nj r (d+1) (h++[d+1]) (P.aJ (d+1) l).2;exact⟨by simp;omega,by simp at i2 ⊢;omega⟩
def UW(A:Ar)(P:PD)(l:gF Int):(A.al P l).2.2.dl<=P.dl+2:=by
 have d:(P.al (A.j.Ac+1) l).2.dl<=P.dl+2:=by
  unfold PD.al;have h2:=Ni P Bx (AI AJ) (Cp (A.j.Ac+1) l);split
  ·omega
  ·have h3:=UT (P.aH Bx (AI AJ) (Cp (A.j.Ac+1) l)).2 (Ab Bx) (Ab AJ);omega
 unfold Ar.al;split
 ·exact Wc _ _
 ·split
  ·exact d
  ·exact d
def MW(A:Ar)(P:PD):(A.aU P).length<=P.dl:=by
 rw[<-Jb];unfold Ar.aU;exact KW _ _
section
variable{P Q:PD}{N R:Nat}{A:Ar}
def AK.aG(h:AK P Q)(E:gF Int)(z:gF (gF Pu))(hc:Cm Q (N+A.AS.length+2*Q.dl+4*z.length+8) (R+Du z+12+8*(E.length+z.length)))(d:(A.aG P E z).1=0):
 (A.aG Q E z).1=0/\(A.aG P E z).2.1=(A.aG Q E z).2.1/\AK (A.aG P E z).2.2 (A.aG Q E z).2.2/\Cm (A.aG Q E z).2.2 N R:=by
 unfold Ar.aG at d ⊢;dsimp only at d ⊢;by_cases h1:(A.I P).1=0
 ·rw[Af (nn h1)]at d;have⟨a1,a2,a3,a4⟩:=h.I (N:=N+2*Q.dl+4*z.length+8) (hc.ah iC (An _)) h1;rw[Af (nn h1),Af (nn a1)];rw[a2]at d ⊢;have d1:(A.I Q).2.2.dl=Q.dl:=by unfold Ar.I;split<;>exact PY _ _
  by_cases X:((A.I Q).2.1.ay (A.I P).2.2).1=0
  ·rw[Af (nn X)]at d;have o1:=MW (A.I Q).2.1 (A.I Q).2.2;have⟨b1,b2,b3⟩:=a3.ay (A:=(A.I Q).2.1) (N:=N+Q.dl+4*z.length+8) (a4.ah iC (An _)) X;(have d2:((A.I Q).2.1.ay (A.I Q).2.2).2.dl<=Q.dl:=by rw[<-d1];exact PZ _ _);rw[Af (nn X),Af (nn b1)];by_cases h3:(PD.ao z (A.I Q).2.1.Ac E ((A.I Q).2.1.ay (A.I P).2.2).2).1=0
   ·rw[Af (nn h3)]at d;have⟨c1,c2,c3,c4,c5⟩:=AK.ao (N:=N+Q.dl+z.length+8) (R:=R+12+8*(E.length+z.length)) z (A.I Q).2.1.Ac E b2 (b3.ah iC iC) h3;have⟨d3,d4⟩:=Nj z (A.I Q).2.1.Ac E ((A.I Q).2.1.ay (A.I Q).2.2).2;rw[Af (nn h3),Af (nn c1)];rw[c2,c3]at d ⊢;obtain⟨I,aD⟩:∃I:Ar,({ (A.I Q).2.1 with Ac:=(PD.ao z (A.I Q).2.1.Ac E ((A.I Q).2.1.ay (A.I Q).2.2).2).2.1}:Ar)=I:=⟨_,rfl⟩;rw[aD]at d ⊢;generalize hsg:(PD.ao z (A.I Q).2.1.Ac E ((A.I Q).2.1.ay (A.I Q).2.2).2).2.2.1=sg at d d4 ⊢;obtain⟨aB,aA⟩:=iG ((PD.ao z (A.I Q).2.1.Ac E ((A.I Q).2.1.ay (A.I P).2.2).2).2.2.2);obtain⟨L,O⟩:=iG ((PD.ao z (A.I Q).2.1.Ac E ((A.I Q).2.1.ay (A.I Q).2.2).2).2.2.2);rw[aA]at d c4;rw[aA,O];rw[O]at c4 c5 d3;by_cases Y:(I.al aB sg).1=0
    ·rw[Af (nn Y)]at d;have⟨e1,e2,e3,e4⟩:=c4.cJ (A:=I) (sd:=sg) (N:=N+Q.dl+z.length+4) (c5.ah iC (An _)) iC Y;have d5:=UW I L sg;rw[Af (nn Y),Af (nn e1)];rw[e2]at d ⊢;unfold Ar.a8 at d ⊢;by_cases h5:((I.al L sg).2.1.ay (I.al aB sg).2.2).1=0
     ·rw[Af (nn h5)]at d;have o2:=MW (I.al L sg).2.1 (I.al L sg).2.2;have⟨f1,f2,f3⟩:=e3.ay (A:=(I.al L sg).2.1) (N:=N+1) (e4.ah iC (An _)) h5;have⟨g1,g2,g3⟩:=f2.aI (N:=N) f3 d;rw[Af (nn h5),Af (nn f1)];exact⟨g1,rfl,g2,g3.ah (An _) iC⟩
     ·rw[Ai h5]at d;exact absurd d h5
    ·rw[Ai Y]at d;exact absurd d Y
   ·rw[Ai h3]at d;exact absurd d h3
  ·rw[Ai X]at d;exact absurd d X
 ·rw[Ai h1]at d;exact absurd d h1
end
def BB(P:PD):gF (gF AP):=P.D.AG::P.D.As
structure DI (bd:Int×Int) (P:PD) (pd:gF Pu) (Ad:Nat) (o:Int):Prop where
 E6:∀s∈BB P,Holds bd (vw P.F s) pd Ad o
 Aq:∀s∈BB P,(s.map (·.2)).Nodup
 Ck:∀s∈BB P,(s.map (·.1)).Nodup
 CG:P.D.A6∈BB P
section
variable{bd:Int×Int}{P P':PD}{pd:gF Pu}{Ad:Nat}{o:Int}{nm:Bs}
def DI.bj(h:DI bd P pd Ad o):Hz P:=⟨h.Aq _ h.CG,h.Ck _ h.CG⟩
def DI.ck(h:DI bd P pd Ad o)(q:gF Pu):DI bd P (pd++q) Ad o:=⟨λs d=>(h.E6 s d).ck q,h.Aq,h.Ck,h.CG⟩
def DI.bh{d:Int}(h:DI bd P pd Ad o)(z:o<=d):DI bd P pd Ad d:=⟨λs E=>(h.E6 s E).bh z,h.Aq,h.Ck,h.CG⟩
def DI.aV{d:Int×Int}(h:DI bd P pd Ad o)(z:Ip bd d):DI d P pd Ad o:=⟨λs E=>(h.E6 s E).aV z,h.Aq,h.Ck,h.CG⟩
def J7{s:gF AP}(d:s∈BB P){e:AP}(z:e∈s):e.2≠P.D.AW:=λh=>P.D.cI (by
 rcases BS.1 d with rfl|d
 ·exact .inr (.inl ⟨e,z,h⟩)
 ·exact .inr (.inr ⟨s,d,e,z,h⟩))
def Lf{F F':Nat->FC}{s:gF AP}(h:∀e∈s,F' e.2=F e.2):vw F' s=vw F s:=by
 funext m
 unfold vw;cases hx:lookup s (Ab m) with
 | none=>rfl
 | some f=>simp[h _ (Eo hx)]
def Le{F:Nat->FC}{s:gF AP}{g:Nat}(z:lookup s (Ab nm)=none)(m:Bs):vw F (s++[(Ab nm,g)]) m=if m=nm then some (F g) else vw F s m:=by
 unfold vw;rw[lookup_append];by_cases d:m=nm
 ·subst d;rw[z];simp[lookup]
 ·have h:¬Ab nm=Ab m:=λe=>d (Gr.1 e).symm;simp[lookup,h,d]
def Holds.bQ{V V':View}(h:Holds bd V pd Ad o)(h0:V nm=none)(z:nm=Bx\/∃k,(isNum k=true/\k<=bd.2)/\nm=AH k)(c:FC)(hc:0<=c.2/\c.2<=c.1.length)(hV:∀m,V' m=if m=nm then some c else V m):Holds bd V' pd Ad o:=by
 obtain⟨ix,sg,cl,lo,nb,X,Y,hs,g1,g2⟩:=h;have I:∀m,(m=AJ\/(∃x∈sg,m=AH x.1)\/∃n,isNum n=true/\ix.Bd<=n/\m=Ah n)->m≠nm:=by
  rintro m (rfl|⟨x,hx,rfl⟩|⟨n,hn,_,rfl⟩) e
  ·rcases z with z|⟨k,_,z⟩
   ·exact JL (e.trans z)
   ·exact Kk k (z.symm.trans e.symm)
  ·have⟨_,d,L,_⟩:=X.CD x hx;rw[e,h0]at L;cases L
  ·rcases z with z|⟨k,_,z⟩
   ·exact LB n (e.trans z)
   ·exact Gv n k (e.trans z)
 have E:∀m,m≠nm->V' m=V m:=λm O=>by rw[hV,Af O]
 refine⟨ix,sg,cl,lo,nb,X.bW (λm O=>?_) (λm O=>?_) (λm d L=>?_),Y,hs,λn l e=>?_,g2⟩
 ·rw[E m (I m O)];cases hv:V m with
  | none=>exact .inl ⟨rfl,rfl⟩
  | some d=>exact .inr ⟨d,d,rfl,rfl,rfl,.inl rfl⟩
 ·by_cases e:m=nm
  ·subst e;rcases z with rfl|⟨k,hk,rfl⟩
   ·exact Tv bd
   ·exact Tu hk.1 hk.2
  ·rw[E m e]at O;exact X.EE m O
 ·by_cases e:m=nm
  ·rw[hV,Ai e]at L;cases L;exact hc
  ·rw[E m e]at L;exact X.El m d L
 ·have⟨d,d1,d2,d3⟩:=g1 n l e;have hq:=(X.Ac n l e).1;exact⟨d,by rw[E _ (I _ (.inr (.inr ⟨n,hq.1,hq.2,rfl⟩)))];exact d1,d2,d3⟩
structure Extra (P:PD) (nm:Bs) (P':PD):Prop where
 EI:∀f,f≠P.D.AW->P'.F f=P.F f
 El:0<=(P'.F P.D.AW).2/\(P'.F P.D.AW).2<=(P'.F P.D.AW).1.length
 AG:P'.D.AG=P.D.AG
 da:(P'.D.A6=P.D.A6/\P'.D.As=P.D.As)\/(lookup P.D.A6 (Ab nm)=none/\P'.D.A6=P.D.A6++[(Ab nm,P.D.AW)]/\P'.D.As=P.D.As++[P.D.A6++[(Ab nm,P.D.AW)]])
def DI.bQ(h:DI bd P pd Ad o)(I:Extra P nm P')(X:nm=Bx\/∃k,(isNum k=true/\k<=bd.2)/\nm=AH k):DI bd P' pd Ad o:=by
 have oe:∀s∈BB P,vw P'.F s=vw P.F s:=λs d=>Lf λe L=>I.EI _ (J7 d L);rcases I.da with⟨d1,d2⟩|⟨d0,d1,d2⟩
 ·have es:BB P'=BB P:=by unfold BB;rw[I.AG,d2]
  exact⟨λs d=>by rw[es]at d;rw[oe s d];exact h.E6 s d,by rw[es];exact h.Aq,by rw[es];exact h.Ck,by rw[es,d1];exact h.CG⟩
 ·have es:BB P'=BB P++[P.D.A6++[(Ab nm,P.D.AW)]]:=by unfold BB;rw[I.AG,d2];rfl
  have z:∀s,s∈BB P'->s∈BB P\/s=P.D.A6++[(Ab nm,P.D.AW)]:=λs d=>by
   rw[es]at d;rcases AX.1 d with d|d
   ·exact .inl d
   ·exact .inr (by simpa using d)
  refine⟨λs d=>?_,λs d=>?_,λs d=>?_,by rw[es,d1];simp⟩
  ·rcases z s d with d|rfl
   ·rw[oe s d];exact h.E6 s d
   ·refine(h.E6 _ h.CG).bQ (nm:=nm) (c:=P'.F P.D.AW) (by unfold vw;rw[d0];rfl) X I.El λm=>?_;rw[Le d0,oe _ h.CG]
  ·rcases z s d with d|rfl
   ·exact h.Aq s d
   ·rw[EM,Hl];refine⟨h.Aq _ h.CG,iE,λa O b E=>?_⟩;simp at E;subst E;obtain⟨e,L,rfl⟩:=Cn.1 O;exact J7 h.CG L
  ·rcases z s d with d|rfl
   ·exact h.Ck s d
   ·rw[EM,Hl];refine⟨h.Ck _ h.CG,iE,λa O b E=>?_⟩;simp at E;subst E;obtain⟨e,L,rfl⟩:=Cn.1 O;exact(J1.1 d0) e L
end
section
variable{bd:Int×Int}{P P':PD}{pd:gF Pu}{Ad:Nat}{o:Int}{nm:Bs}
def LO(P:PD)(nm:Bs):Extra P nm (P.aq (Ab nm)).2/\((P.aq (Ab nm)).1=0->lookup (P.aq (Ab nm)).2.D.A6 (Ab nm)=some P.D.AW):=by
 unfold PD.aq CY;by_cases E:Ab nm=ByteArray.empty\/Bb P.D.A6 (Ab nm)≥0
 ·rw[Ai E];exact⟨⟨λf d=>by simp[upd,d],by simp[upd],rfl,.inl ⟨rfl,rfl⟩⟩,λh=>by cases h⟩
 ·rw[Af E];have I:lookup P.D.A6 (Ab nm)=none:=(JP _ _).1 (by (have:¬Bb P.D.A6 (Ab nm)≥0:=λe=>E (.inr e));omega);dsimp only
  by_cases z:(bg P.D.n).1=true
  ·rw[Ai z];refine⟨⟨λf d=>by simp[upd,d],by simp[upd],rfl,.inr ⟨I,rfl,rfl⟩⟩,λ_=>?_⟩;dsimp only
   rw[lookup_append,I];simp[lookup]
  ·rw[Af z];exact⟨⟨λf d=>by simp[upd,d],by simp[upd],rfl,.inl ⟨rfl,rfl⟩⟩,λh=>absurd (Hu h) z⟩
def V3(D:DS)(F:Nat->FC)(f:Nat)(x:gE)(n0 e:Int):(BP D F f x n0 e).2.1.A6=D.A6/\(BP D F f x n0 e).2.1.AG=D.AG/\(BP D F f x n0 e).2.1.As=D.As/\∃j:Nat,(BP D F f x n0 e).2.2=upd F f ((F f).1++x.data.toList.take j,(F f).2):=by
 unfold BP;split
 ·dsimp only
  refine⟨?_,?_,?_,_,rfl⟩<;>split<;>rfl
 ·exact⟨rfl,rfl,rfl,_,rfl⟩
def Je{P:PD}{nm:gE}{f:Nat}(l:Bs)(h:lookup P.D.A6 nm=some f):(P.au nm l).2.D.A6=P.D.A6/\(P.au nm l).2.D.AG=P.D.AG/\(P.au nm l).2.D.As=P.D.As/\
 ((P.au nm l).2.F=P.F\/∃j:Nat,(P.au nm l).2.F=upd P.F f ((P.F f).1++l.take j,(P.F f).2)):=by
 unfold PD.au BA;rw[h];dsimp only
 have d:(Ab l).data.toList=l:=by simp[Ab]
 split
 ·have⟨a1,a2,a3,j,a4⟩:=V3 {P.D with n:=(bg P.D.n).2.2} P.F f (Ab l) (Ab l).size (bg P.D.n).2.1;exact⟨a1,a2,a3,.inr ⟨j,by rw[a4,d]⟩⟩
 ·split
  ·have⟨a1,a2,a3,j,a4⟩:=V3 {P.D with n:=(bg P.D.n).2.2} P.F f (Ab l) ((bg P.D.n).2.2.BG % (Ab l).size) (bg P.D.n).2.1;exact⟨a1,a2,a3,.inr ⟨j,by rw[a4,d]⟩⟩
  ·exact⟨rfl,rfl,rfl,.inl rfl⟩
def Jq{P:PD}{nm:gE}{f:Nat}(h:lookup P.D.A6 nm=some f):(P.ae nm).2.D.A6=P.D.A6/\(P.ae nm).2.D.AG=P.D.AG/\(P.ae nm).2.D.As=P.D.As/\
 ((P.ae nm).2.F=P.F\/(P.ae nm).2.F=upd P.F f ((P.F f).1,(P.F f).1.length)):=by
 unfold PD.ae CP;rw[h];dsimp only
 refine⟨rfl,rfl,rfl,?_⟩;split
 ·exact .inr rfl
 ·exact .inl rfl
def Extra.au(h:Extra P nm P')(E:lookup P'.D.A6 (Ab nm)=some P.D.AW)(l:Bs):Extra P nm (P'.au (Ab nm) l).2:=by
 have⟨a1,a2,a3,d⟩:=Je l E;refine⟨λf z=>?_,?_,a2.trans h.AG,by rw[a1,a3];exact h.da⟩
 ·rcases d with d|⟨j,d⟩
  ·rw[d];exact h.EI f z
  ·rw[d];simp[upd,z];exact h.EI f z
 ·have:=h.El;rcases d with d|⟨j,d⟩
  ·rw[d];exact this
  ·rw[d];simp only[upd,Cs,B3];omega
def Extra.ae(h:Extra P nm P')(E:lookup P'.D.A6 (Ab nm)=some P.D.AW):Extra P nm (P'.ae (Ab nm)).2:=by
 have⟨a1,a2,a3,d⟩:=Jq E;refine⟨λf z=>?_,?_,a2.trans h.AG,by rw[a1,a3];exact h.da⟩
 ·rcases d with d|d
  ·rw[d];exact h.EI f z
  ·rw[d];simp[upd,z];exact h.EI f z
 ·have:=h.El;rcases d with d|d
  ·rw[d];exact this
  ·rw[d];simp only[upd,Cs];omega
def KF(P:PD)(nm:Bs)(s:Nat)(l:Bs):Extra P nm (P.aH nm s l).2/\((P.aH nm s l).1=0->lookup (P.aH nm s l).2.D.A6 (Ab nm)=some P.D.AW/\Cd ((P.aH nm s l).2.F P.D.AW)):=by
 have⟨e1,e2⟩:=LO P nm;unfold PD.aH;by_cases z:(P.aq (Ab nm)).1=0
 ·rw[Af (nn z)];have I:=e2 z;have O:=e1.au I (AT s l);have d:lookup ((P.aq (Ab nm)).2.au (Ab nm) (AT s l)).2.D.A6 (Ab nm)=some P.D.AW:=by rw[(Je (AT s l) I).1];exact I
  have X:((P.aq (Ab nm)).2.af (Ab nm) s l).2.2=((P.aq (Ab nm)).2.au (Ab nm) (AT s l)).2:=rfl;by_cases L:((P.aq (Ab nm)).2.af (Ab nm) s l).2.1=0
  ·rw[Af (nn L),X];refine⟨O.ae d,λE=>?_⟩;have⟨a1,_,_,_⟩:=Jq d;refine⟨by rw[a1];exact d,?_⟩;unfold PD.ae CP at E ⊢;rw[d]at E ⊢;dsimp only at E ⊢;rw[Ai E];simp[upd,Cd]
  ·rw[Ai L];exact⟨O,λh=>absurd h L⟩
 ·rw[Ai z];exact⟨e1,λh=>absurd h z⟩
def DI.aH(h:DI bd P pd Ad o)(d:nm=Bx\/∃k,(isNum k=true/\k<=bd.2)/\nm=AH k)(s:Nat)(l:Bs):DI bd (P.aH nm s l).2 pd Ad o:=h.bQ (KF P nm s l).1 d
def DI.ao:∀(I:gF (gF Pu)) (d:Int) (E:gF Int) {P:PD},DI bd P pd Ad o->0<=d->d+I.length<=4611686018427387904->d+I.length<=bd.2->DI bd (PD.ao I d E P).2.2.2 pd Ad o
 | [],d,E,P,h,_,_,_=>h
 | l::r,d,E,P,h,h0,h1,h2=>by
  simp only[CA]at h1 h2;have z:PD.ao (l::r) d E P=if (P.aJ (d+1) l).1≠0 then ((P.aJ (d+1) l).1,d+1,E,(P.aJ (d+1) l).2) else PD.ao r (d+1) (E++[d+1]) (P.aJ (d+1) l).2:=rfl
  have L:DI bd (P.aJ (d+1) l).2 pd Ad o:=h.aH (.inr ⟨d+1,⟨by unfold isNum;simp;omega,iC⟩,rfl⟩) _ _;rw[z];split
  ·exact L
  ·exact DI.ao r (d+1) _ L iC iC iC
def DI.cL(h:DI bd P pd Ad o)(nm:gE):DI bd (P.ae nm).2 pd Ad o:=by
 cases hx:lookup P.D.A6 nm with
 | none=>
  have e:(P.ae nm).2=P:=by unfold PD.ae CP;rw[hx]
  rw[e];exact h
 | some f=>
  have⟨a1,a2,a3,d⟩:=Jq hx;have es:BB (P.ae nm).2=BB P:=by unfold BB;rw[a2,a3]
  refine⟨λs E=>?_,by rw[es];exact h.Aq,by rw[es];exact h.Ck,by rw[es,a1];exact h.CG⟩;rw[es]at E;rcases d with d|d
  ·rw[d];exact h.E6 s E
  ·refine(h.E6 s E).bW λm=>?_;unfold vw;cases hk:lookup s (Ab m) with
   | none=>exact⟨λc z=>by simp at z,λ_=>rfl⟩
   | some g=>
    refine⟨λc z=>?_,λI=>by simp at I⟩;simp at z;subst z;rw[d];by_cases e:g=f
    ·subst e;exact⟨_,rfl,by simp[upd],.inr (by simp[upd,Cd])⟩
    ·exact⟨P.F g,by simp[upd,e],rfl,.inl rfl⟩
def DI.ax:∀(l:gF Bs) {P:PD},DI bd P pd Ad o->DI bd (PD.ax l P).2 pd Ad o
 | [],P,h=>h
 | x::r,P,h=>by
  have d:=h.cL (Ab x);unfold PD.ax;split
  ·exact d
  ·exact DI.ax r d
def DI.I{A:Ar}(h:DI bd P pd Ad o):DI bd (A.I P).2.2 pd Ad o:=by
 unfold Ar.I;split
 ·exact h.ax _
 ·exact h.ax _
def DI.eH(h:DI bd P pd Ad o):DI bd P.aI.2 pd Ad o:=by
 unfold PD.aI Ef;dsimp only
 split
 ·have z:=h.CG;exact⟨λs d=>by simp[BB]at d;subst d;exact h.E6 _ z,λs d=>by simp[BB]at d;subst d;exact h.Aq _ z,λs d=>by simp[BB]at d;subst d;exact h.Ck _ z,by simp[BB]⟩
 ·exact⟨h.E6,h.Aq,h.Ck,h.CG⟩
end
def Dc(bd:Int×Int)(V:View)(ix:Ix)(sg cl:gF (Int×gF Pu))(lo:Option (Int×gF Pu))(pd:gF Pu)(Ad:Nat)(o:Int):Prop:=
 ∃nb,Db bd V ix sg cl lo/\nb<=pd.length/\C4 o (Ax sg++Ax cl) (pd.take nb)/\
  (∀n l,lo=some (n,l)->∃c,V (Ah n)=some c/\Ad<=nb+Fl c l/\l=(pd.drop nb).take l.length)/\(lo=none->Ad<=nb)
section
variable{bd:Int×Int}{P P':PD}{V V':View}{ix:Ix}{sg cl:gF (Int×gF Pu)}{lo:Option (Int×gF Pu)}{pd:gF Pu}{Ad:Nat}{o:Int}{nm:Bs}
def Dc.cp(h:Dc bd V ix sg cl lo pd Ad o):Holds bd V pd Ad o:=by
 obtain⟨nb,d⟩:=h;exact⟨ix,sg,cl,lo,nb,d⟩
def Dc.bu(h:Dc bd V ix sg cl lo pd Ad o):Db bd V ix sg cl lo:=h.choose_spec.1
def L7(ix:Ix)(sg:gF (Int×gF Pu))(nm:Bs):Prop:=nm=AJ\/(∃x∈sg,nm=AH x.1)\/∃n,isNum n=true/\ix.Bd<=n/\nm=Ah n
def Dc.fH(h:Dc bd V ix sg cl lo pd Ad o)(O:¬L7 ix sg nm)(hV:∀m,V' m=if m=nm then none else V m):Dc bd V' ix sg cl lo pd Ad o:=by
 obtain⟨nb,X,aA,hs,g1,g2⟩:=h;have z:∀m,m≠nm->V' m=V m:=λm L=>by rw[hV,Af L]
 have I:∀m,V' m≠none->m≠nm:=λm L e=>L (by rw[hV,Ai e]);refine⟨nb,X.bW (λm L=>?_) (λm L=>?_) (λm d Y=>?_),aA,hs,λn l e=>?_,g2⟩
 ·have E:m≠nm:=λe=>O (e ▸ L);rw[z m E];cases hv:V m with
  | none=>exact .inl ⟨rfl,rfl⟩
  | some d=>exact .inr ⟨d,d,rfl,rfl,rfl,.inl rfl⟩
 ·have E:=I m L;rw[z m E]at L;exact X.EE m L
 ·have E:=I m (by rw[Y];simp);rw[z m E]at Y;exact X.El m d Y
 ·have⟨d,d1,d2,d3⟩:=g1 n l e;have hq:=(X.Ac n l e).1;exact⟨d,by rw[z _ λe2=>O (.inr (.inr ⟨n,hq.1,hq.2,e2.symm⟩))];exact d1,d2,d3⟩
def Sr(h:Hz P)(nm:gE):(P.aF nm).2.F=P.F/\(P.aF nm).2.D.AG=P.D.AG/\
 (((P.aF nm).2.D.A6=P.D.A6/\(P.aF nm).2.D.As=P.D.As/\(P.aF nm).1≠0)\/((P.aF nm).2.D.A6=(P.D.A6.filter λe=>decide (e.1≠nm))/\(P.aF nm).2.D.As=P.D.As++[P.D.A6.filter λe=>decide (e.1≠nm)])):=by
 unfold PD.aF DB;by_cases z:Bb P.D.A6 nm<0
 ·rw[Ai z];exact⟨rfl,rfl,.inl ⟨rfl,rfl,iE⟩⟩
 ·rw[Af z];dsimp only
  rw[UR _ _ h.Ck z];by_cases d:(bg P.D.n).1=true
  ·rw[Ai d];exact⟨rfl,rfl,.inr ⟨rfl,rfl⟩⟩
  ·rw[Af d];exact⟨rfl,rfl,.inl ⟨rfl,rfl,λh=>d (Hu h)⟩⟩
def R9(F:Nat->FC)(s:gF AP)(nm m:Bs):vw F (s.filter λe=>decide (e.1≠Ab nm)) m=if m=nm then none else vw F s m:=by
 unfold vw;rw[LA s (λx=>decide (x≠Ab nm))];by_cases d:m=nm
 ·subst d;simp
 ·have:Ab m≠Ab nm:=λe=>d (Gr.1 e);simp[this,d]
def DI.eA(h:DI bd P pd Ad o)(O:Dc bd P.fl ix sg cl lo pd Ad o)(L:¬L7 ix sg nm):DI bd (P.aF (Ab nm)).2 pd Ad o/\Dc bd (P.aF (Ab nm)).2.fl ix sg cl lo pd Ad o:=by
 have⟨a1,a2,a3⟩:=Sr h.bj (Ab nm);rcases a3 with⟨d1,d2,_⟩|⟨d1,d2⟩
 ·have es:BB (P.aF (Ab nm)).2=BB P:=by unfold BB;rw[a2,d2]
  have I:(P.aF (Ab nm)).2.fl=P.fl:=by unfold PD.fl;rw[d1,a1]
  exact⟨⟨λs d=>by rw[es]at d;rw[a1];exact h.E6 s d,by rw[es];exact h.Aq,by rw[es];exact h.Ck,by rw[es,d1];exact h.CG⟩,by rw[I];exact O⟩
 ·have es:BB (P.aF (Ab nm)).2=BB P++[P.D.A6.filter λe=>decide (e.1≠Ab nm)]:=by unfold BB;rw[a2,d2];rfl
  have z:∀s,s∈BB (P.aF (Ab nm)).2->s∈BB P\/s=P.D.A6.filter λe=>decide (e.1≠Ab nm):=λs d=>by
   rw[es]at d;rcases AX.1 d with d|d
   ·exact .inl d
   ·exact .inr (by simpa using d)
  have E:=O.fH L (R9 P.F P.D.A6 nm);refine⟨⟨λs d=>?_,λs d=>?_,λs d=>?_,by rw[es,d1];simp⟩,?_⟩
  ·rw[a1];rcases z s d with d|rfl
   ·exact h.E6 s d
   ·exact E.cp
  ·rcases z s d with d|rfl
   ·exact h.Aq s d
   ·exact(h.Aq _ h.CG).sublist (HF.map _)
  ·rcases z s d with d|rfl
   ·exact h.Ck s d
   ·exact(h.Ck _ h.CG).sublist (HF.map _)
  ·have I:(P.aF (Ab nm)).2.fl=vw P.F (P.D.A6.filter λe=>decide (e.1≠Ab nm)):=by
    funext m;unfold PD.fl vw;rw[d1,a1]
   rw[I];exact E
def DI.aN:∀(l:gF Bs) {P:PD},DI bd P pd Ad o->Dc bd P.fl ix sg cl lo pd Ad o->(∀m∈l,¬L7 ix sg m)->DI bd (PD.aN l P).2 pd Ad o/\Dc bd (PD.aN l P).2.fl ix sg cl lo pd Ad o
 | [],P,h,hT,_=>⟨h,hT⟩
 | x::r,P,h,hT,hm=>by
  have⟨h1,h2⟩:=h.eA hT (hm x (BI ..));unfold PD.aN;split
  ·exact⟨h1,h2⟩
  ·exact DI.aN r h1 h2 λm d=>hm m (BC _ d)
def DI.ay{A:Ar}(h:DI bd P pd Ad o)(z:Dc bd P.fl A.ix sg cl lo pd Ad o)(L:A.j.Ao=cl.map (·.1)++(lo.map (·.1)).toList)(d:sg.map (·.1)=A.ix.sd):DI bd (A.ay P).2 pd Ad o/\Dc bd (A.ay P).2.fl A.ix sg cl lo pd Ad o:=by
 refine DI.aN _ h z λm E X=>?_;have⟨h1,h2⟩:=Jy.1 E;refine h2 ?_;unfold Ar.Az;rcases X with rfl|⟨x,Y,rfl⟩|⟨n,hn,I,rfl⟩
 ·simp
 ·refine HW _ (Ej ?_);rw[<-d];exact Ej Y
 ·refine G9 _ (BC _ (Ej ?_));rw[L];refine z.bu.C9 n hn I λO=>h1 ?_;unfold PD.bs;rw[O];rfl
def EK(bd:Int×Int)(P:PD)(pd:gF Pu)(Ad:Nat)(o:Int)(n:Int)(f d:Nat):Prop:=
 lookup P.D.A6 (Ab (Ah n))=some f/\∀s∈BB P,(∀e∈s,e.2≠f)\/(lookup s (Ab (Ah n))=some f/\Fs bd (vw P.F s) pd Ad o n d)
def R7{F:Nat->FC}{s:gF AP}{f:Nat}{c:FC}(z:(s.map (·.2)).Nodup)(h:lookup s (Ab nm)=some f)(m:Bs):vw (upd F f c) s m=if m=nm then some c else vw F s m:=by
 unfold vw;by_cases d:m=nm
 ·subst d;rw[h];simp[upd]
 ·rw[Af d];cases hk:lookup s (Ab m) with
  | none=>rfl
  | some g=>
   have:g≠f:=λe=>d (by
    have:=Kv z (Eo hk) (Eo h) e
    exact Gr.1 (Qn this).1)
   simp[upd,this]
def EK.au{n:Int}{f z:Nat}{l0:gF Pu}{c0:FC}(h:DI bd P pd Ad o)(hO:EK bd P pd Ad o n f z)(aE:P.F f=c0)(X:c0.1=Er (Ah n) z l0)(p:Pu)(hp:Bo p)(j:Nat)(hd:P'.D.A6=P.D.A6)(d:P'.D.AG=P.D.AG)(aF:P'.D.As=P.D.As)(hF:P'.F=upd P.F f (c0.1++(AT (FK (Ah n) z l0) (Bg p.1 p.2.1 p.2.2)).take j,c0.2)):
 DI bd P' (pd++[p]) Ad o/\(21<=j->EK bd P' (pd++[p]) Ad o n f z)/\(j<21->DI bd P' pd Ad o):=by
 have es:BB P'=BB P:=by unfold BB;rw[d,aF]
 have inj:∀ {l l':gF Pu},Er (Ah n) z l=Er (Ah n) z l'->(∀p∈l,Bo p)->(∀p∈l',Bo p)->l=l':=λ{l l'} e h1 Y=>by
  have aA:l.length=l'.length:=by have:=Ex List.length e;rw[JK,JK]at this;omega
  have hx:Ep (AY (AI (Ah n)) (AQ z)) l=Ep (AY (AI (Ah n)) (AQ z)) l':=by unfold Er at e;exact Wv e
  have r1:=MO l (AY (AI (Ah n)) (AQ z)) (l.length+1) [] h1 iC iE;have r2:=MO l' (AY (AI (Ah n)) (AQ z)) (l.length+1) [] Y iC iE;rw[hx]at r1;rw[r1]at r2;simpa using r2
 have each:∀s∈BB P,((∀e∈s,e.2≠f)/\vw P'.F s=vw P.F s)\/(lookup s (Ab (Ah n))=some f/\(21<=j->Fs bd (vw P'.F s) (pd++[p]) Ad o n z)/\(j<21->Holds bd (vw P'.F s) pd Ad o)):=λs d=>by
  rcases hO.2 s d with E|⟨O,aB⟩
  ·exact .inl ⟨E,Lf λe he=>by rw[hF];simp[upd,E e he]⟩
  ·refine .inr ⟨O,?_⟩;(have L:vw P.F s (Ah n)=some c0:=by unfold vw;rw[O];simp[aE]);refine aB.au p hp j (s:=FK (Ah n) z l0) (λl c hc aD=>?_) (λm hm=>?_) (λc hc=>?_)
   ·rw[L]at hc;cases hc;obtain⟨ix,sg,cl,l1,nb,c1,hL,_,_,g1,g2,g3,_,_⟩:=aB;rw[L]at g1;cases g1;have aA:l.length=l0.length:=by
     have:=Ex List.length (aD.symm.trans X);rw[JK,JK]at this;omega
    have key:∀(a b:gF Pu) (s:Nat),Ep s a=Ep s b->I6 s a=I6 s b:=by
     intro a
     induction a with
     | nil=>
      intro b s e;cases b with
      | nil=>rfl
      | cons y r=>
       have:=Ex List.length e;rw[JJ,JJ]at this;simp at this
     | cons x a ih=>
      intro b s e;cases b with
      | nil=>
       have:=Ex List.length e;rw[JJ,JJ]at this;simp at this
      | cons y r=>
       simp only[Ep]at e;have I:=
        List.append_inj e (by rw[EP,EP,FH,FH])
       have hb:=(List.append_inj I.1 (by rw[FH,FH])).1;simp only[I6];rw[hb]at I ⊢;exact ih r _ I.2
    have e1:=aD.symm.trans X;unfold Er at e1;unfold FK;exact(key l l0 _ (Wv e1)).symm
   ·rw[hF,R7 (h.Aq s d) O,Af hm]
   ·rw[L]at hc;cases hc;rw[hF,R7 (h.Aq s d) O,Ai rfl]
 refine⟨⟨λs d=>?_,by rw[es];exact h.Aq,by rw[es];exact h.Ck,by rw[es,hd];exact h.CG⟩,λhj=>⟨by rw[hd];exact hO.1,λs d=>?_⟩,λhj=>⟨λs d=>?_,by rw[es];exact h.Aq,by rw[es];exact h.Ck,by rw[es,hd];exact h.CG⟩⟩
 ·rw[es]at d;rcases each s d with⟨_,L⟩|⟨_,h1,Y⟩
  ·rw[L];exact(h.E6 s d).ck [p]
  ·by_cases hj:21<=j
   ·exact(h1 hj).cp
   ·exact(Y iC).ck [p]
 ·rw[es]at d;rcases each s d with⟨E,_⟩|⟨O,h1,_⟩
  ·exact .inl E
  ·exact .inr ⟨O,h1 hj⟩
 ·rw[es]at d;rcases each s d with⟨_,L⟩|⟨_,_,Y⟩
  ·rw[L];exact h.E6 s d
  ·exact Y hj
end
section
variable{bd:Int×Int}{P P':PD}{V V':View}{ix:Ix}{sg cl:gF (Int×gF Pu)}{lo:Option (Int×gF Pu)}{pd:gF Pu}{Ad:Nat}{o:Int}{nm:Bs}
def DI.fC(h:DI bd P pd Ad o)(O:Extra P nm P')(L:lookup P.D.A6 (Ab nm)=none->Holds bd (vw P'.F (P.D.A6++[(Ab nm,P.D.AW)])) pd Ad o):DI bd P' pd Ad o:=by
 have oe:∀s∈BB P,vw P'.F s=vw P.F s:=λs d=>Lf λe E=>O.EI _ (J7 d E);rcases O.da with⟨d1,d2⟩|⟨d0,d1,d2⟩
 ·have es:BB P'=BB P:=by unfold BB;rw[O.AG,d2]
  exact⟨λs d=>by rw[es]at d;rw[oe s d];exact h.E6 s d,by rw[es];exact h.Aq,by rw[es];exact h.Ck,by rw[es,d1];exact h.CG⟩
 ·have es:BB P'=BB P++[P.D.A6++[(Ab nm,P.D.AW)]]:=by unfold BB;rw[O.AG,d2];rfl
  have z:∀s,s∈BB P'->s∈BB P\/s=P.D.A6++[(Ab nm,P.D.AW)]:=λs d=>by
   rw[es]at d;rcases AX.1 d with d|d
   ·exact .inl d
   ·exact .inr (by simpa using d)
  refine⟨λs d=>?_,λs d=>?_,λs d=>?_,by rw[es,d1];simp⟩
  ·rcases z s d with d|rfl
   ·rw[oe s d];exact h.E6 s d
   ·exact L d0
  ·rcases z s d with d|rfl
   ·exact h.Aq s d
   ·rw[EM,Hl];refine⟨h.Aq _ h.CG,iE,λa X b I=>?_⟩;simp at I;subst I;obtain⟨e,E,rfl⟩:=Cn.1 X;exact J7 h.CG E
  ·rcases z s d with d|rfl
   ·exact h.Ck s d
   ·rw[EM,Hl];refine⟨h.Ck _ h.CG,iE,λa X b I=>?_⟩;simp at I;subst I;obtain⟨e,E,rfl⟩:=Cn.1 X;exact(J1.1 d0) e E
def Db.dB(E:Db bd V ix sg cl none)(hs:C4 o (Ax sg++Ax cl) pd)(hsafe:Ad<=pd.length){n:Int}(hn:isNum n=true)(aB:n<=bd.1)(hf:ix.Bd<=n)(O:∀x∈cl,x.1<n)(j:Nat)(hV:∀m,V' m=if m=Ah n then some ((AT (AI (Ah n)) (AQ ((Ax cl).length:Int))).take j,0) else V m):
 Dc bd V' ix sg cl (some (n,[])) pd Ad o/\(12<=j->Fs bd V' pd Ad o n (Ax cl).length):=by
 have hpl:(AT (AI (Ah n)) (AQ ((Ax cl).length:Int))).length=12:=by rw[EP,CT]
 have h:∀m,m≠Ah n->V' m=V m:=λm hm=>by rw[hV,Af hm]
 have z:V' (Ah n)=some ((AT (AI (Ah n)) (AQ ((Ax cl).length:Int))).take j,0):=by rw[hV,Ai rfl]
 have X:∀x∈cl,Ah x.1≠Ah n:=λx I e=>by
  have:=Gq (E.D7 x I).1.1 hn e;have:=O x I;omega
 have L:12<=j->(AT (AI (Ah n)) (AQ ((Ax cl).length:Int))).take j=Er (Ah n) ((Ax cl).length:Int) []:=λhj=>by
  rw[Eu iC];simp[Er,Ep]
 have Y:IE ((AT (AI (Ah n)) (AQ ((Ax cl).length:Int))).take j) (Ah n) (Ax cl).length []:=by
  by_cases hj:12<=j
  ·exact .inl ⟨[],by rw[L hj];simp,iE⟩
  ·exact .inr ⟨rfl,by rw[BK];omega⟩
 have aA:Db bd V' ix sg cl (some (n,[])):=by
  refine⟨E.E4,by rw[h _ (I5 n).symm];exact E.J6,E.sd,λx I=>by rw[h _ (Gv n x.1).symm];exact E.CD x I,λx I=>by rw[h _ (X x I)];exact E.D7 x I,
   E.Ao.bx λx I=>by rw[h _ (X x I)],λn' l e=>by cases e;exact⟨⟨hn,hf⟩,λp hp=>(by cases hp),_,z,Y⟩,?_,λk h1 h2 h3=>?_,λm hm=>?_,λm d hd=>?_⟩
  ·have:=E.Fj;simp only[Option.map_none,Option.toList_none,Gk]at this;refine EL.2 ⟨this,iE,λa ha b hb=>?_⟩;simp at hb;subst hb;obtain⟨x,I,rfl⟩:=Cn.1 ha;exact O x I
  ·by_cases e:Ah k=Ah n
   ·have:=Gq h1 hn e;subst this;simp
   ·rw[h _ e]at h3;have:=E.C9 k h1 h2 h3;simp at this;simp[this]
  ·by_cases e:m=Ah n
   ·subst e;exact A0u hn aB
   ·rw[h _ e]at hm;exact E.EE m hm
  ·by_cases e:m=Ah n
   ·subst e;rw[z]at hd;cases hd;dsimp only;omega
   ·rw[h _ e]at hd;exact E.El m d hd
 refine⟨⟨pd.length,aA,An _,by rw[C5];exact hs,λn' l e=>by cases e;exact⟨_,z,iC,iE⟩,λe=>by cases e⟩,λhj=>?_⟩;exact⟨ix,sg,cl,[],pd.length,_,aA,An _,by rw[C5];exact hs,z,L hj,rfl,iC,iE⟩
def VC{nm:gE}{f:Nat}(l:Bs)(h:lookup P.D.A6 nm=some f)(d:(P.au nm l).1=0):(P.au nm l).2.F=upd P.F f ((P.F f).1++l,(P.F f).2):=by
 have X:(Ab l).data.toList=l:=by simp[Ab]
 unfold PD.au BA at d ⊢;rw[h]at d ⊢;dsimp only at d ⊢;have z:∀D n0 e,(BP D P.F f (Ab l) n0 e).1=0->e=0/\(BP D P.F f (Ab l) n0 e).2.2=upd P.F f ((P.F f).1++l.take n0.toNat,(P.F f).2):=λD n0 e E=>by
  unfold BP at E ⊢;split at E
  ·dsimp only at E;split at E
   ·cases E
   ·rename_i I O;exact absurd E O
  ·rename_i I;rw[Af I,X];exact⟨E,rfl⟩
 split at d
 ·rename_i L;rw[Ai L];have⟨_,O⟩:=z _ _ _ d;rw[O];have:((Ab l).size:Int).toNat=l.length:=by rw[Lv];simp
  rw[this,C5]
 ·rename_i L;split at d
  ·have⟨I,_⟩:=z _ _ _ d;exact absurd (Hu I) L
  ·exact absurd (Hu d) L
def Nu(P:PD)(J:Jn):Extra P (Ah (J.Ac+1)) (J.aw P).2.2/\(∃j,(J.aw P).2.2.F P.D.AW=((AT (AI (Ah (J.Ac+1))) (AQ J.pd)).take j,0))/\
 ((J.aw P).1=0->lookup (J.aw P).2.2.D.A6 (Ab (Ah (J.Ac+1)))=some P.D.AW/\(J.aw P).2.2.F P.D.AW=(AT (AI (Ah (J.Ac+1))) (AQ J.pd),0)):=by
 obtain⟨nm,O⟩:=iG (Ah (J.Ac+1));have⟨e1,e2⟩:=LO P nm;have I:(P.aq (Ab nm)).2.F P.D.AW=([],0):=by
  unfold PD.aq;simp[upd]
 unfold Jn.aw;rw[O];dsimp only
 by_cases L:(P.aq (Ab nm)).1=0
 ·rw[Af (nn L)];have z:=e2 L;have ea:((P.aq (Ab nm)).2.af (Ab nm) (AI nm) (AQ J.pd)).2.2=((P.aq (Ab nm)).2.au (Ab nm) (AT (AI nm) (AQ J.pd))).2:=rfl;have X:((P.aq (Ab nm)).2.af (Ab nm) (AI nm) (AQ J.pd)).2.1=((P.aq (Ab nm)).2.au (Ab nm) (AT (AI nm) (AQ J.pd))).1:=rfl;have Y:=e1.au z (AT (AI nm) (AQ J.pd));have⟨a1,a2,a3,d⟩:=Je (AT (AI nm) (AQ J.pd)) z;have hj:∃j,((P.aq (Ab nm)).2.au (Ab nm) (AT (AI nm) (AQ J.pd))).2.F P.D.AW=((AT (AI nm) (AQ J.pd)).take j,0):=by
   rcases d with d|⟨j,d⟩
   ·exact⟨0,by rw[d,I];simp⟩
   ·exact⟨j,by rw[d];simp[upd,I]⟩
  by_cases E:((P.aq (Ab nm)).2.af (Ab nm) (AI nm) (AQ J.pd)).2.1=0
  ·rw[Af (nn E),ea];refine⟨Y,hj,λ_=>⟨by rw[a1];exact z,?_⟩⟩;rw[VC _ z (by rw[<-X];exact E)];simp[upd,I]
  ·rw[Ai E,ea];exact⟨Y,hj,λh=>absurd h E⟩
 ·rw[Ai L];exact⟨e1,⟨0,by rw[I];simp⟩,λh=>absurd h L⟩
def DI.aw(h:DI bd P pd Ad o){J:Jn}(hL:Db bd P.fl ix sg cl none)(hs:C4 o (Ax sg++Ax cl) pd)(z:Ad<=pd.length)(hn:isNum (J.Ac+1)=true)(L:J.Ac+1<=bd.1)(hf:ix.Bd<=J.Ac+1)(I:∀x∈cl,x.1<J.Ac+1)(hp:J.pd=((Ax cl).length:Int)):
 DI bd (J.aw P).2.2 pd Ad o/\((J.aw P).1=0->EK bd (J.aw P).2.2 pd Ad o (J.Ac+1) P.D.AW (Ax cl).length):=by
 have⟨b1,⟨j,b2⟩,b3⟩:=Nu P J;rw[hp]at b2 b3;have E:=Lf λe Y=>b1.EI _ (J7 h.CG Y);have X:=h.fC b1 λh0=>by
  refine((hL.dB hs z hn L hf I j (V':=vw (J.aw P).2.2.F (P.D.A6++[(Ab (Ah (J.Ac+1)),P.D.AW)])) λm=>?_).1).cp;rw[Le h0,b2,E];rfl
 refine⟨X,λO=>?_⟩;have⟨c1,c2⟩:=b3 O;refine⟨c1,λs d=>?_⟩;rcases b1.da with⟨d1,d2⟩|⟨d0,d1,d2⟩
 ·
  rw[d1]at c1;exact absurd (Eo c1) (λhm=>J7 h.CG hm rfl)
 ·have es:BB (J.aw P).2.2=BB P++[P.D.A6++[(Ab (Ah (J.Ac+1)),P.D.AW)]]:=by unfold BB;rw[b1.AG,d2];rfl
  rw[es]at d;rcases AX.1 d with d | d
  ·exact .inl λe Y=>J7 d Y
  ·simp at d;subst d;refine .inr ⟨by rw[<-d1];exact c1,?_⟩;refine(hL.dB hs z hn L hf I 12 (V':=vw (J.aw P).2.2.F (P.D.A6++[(Ab (Ah (J.Ac+1)),P.D.AW)])) λm=>?_).2 (An _);rw[Le d0,c2,E,Eu (by rw[EP,CT];omega)];rfl
end
section
variable{bd:Int×Int}{P P':PD}{V V':View}{A:Ar}{ix:Ix}{sg cl:gF (Int×gF Pu)}{lo:Option (Int×gF Pu)}{ol:Option (gF Pu)}{pd:gF Pu}{Ad:Nat}{o:Int}{nm:Bs}
def Qi{c:FC}(h:P.fl nm=some c):P.bs nm=some c.1:=by unfold PD.bs;rw[h];rfl
def J8{b:Bs}(h:P.bs nm=some b):∃c,P.fl nm=some c/\c.1=b:=by
 have⟨k,hk⟩:=LU h;exact⟨(b,k),hk,rfl⟩
def Lay.bu(h:Lay P A sg cl ol)(_hl:(Ax cl).length<=1099511627776)(hr:∀nm c,P.fl nm=some c->0<=c.2/\c.2<=c.1.length)(O:∀nm c,(nm=AJ\/(∃x∈sg,nm=AH x.1)\/∃x∈cl,nm=Ah x.1)->P.fl nm=some c->Cd c)(X:Io bd A.ix sg)(Y:∀nm,P.fl nm≠none->FU bd nm):Db bd P.fl A.ix sg cl (ol.map λl=>(A.j.Ac,l)):=by
 have d:cl.map (·.1)++(Option.map (·.1) (ol.map λl=>(A.j.Ac,l))).toList=A.j.Ao:=by
  rw[h.bX];cases ol<;>simp[shut]
 refine⟨X,?_,h.sd,λx z=>?_,λx z=>?_,G8.at.2 h.Ao,λn l e=>?_,by rw[d];exact h.HQ,λn E I h3=>?_,Y,hr⟩
 ·rcases h.ix with⟨E,I⟩|E
  ·exact .inl ⟨Jc.1 E,I⟩
  ·have⟨c,c1,c2⟩:=J8 E;exact .inr ⟨c,c1,O _ _ (.inl rfl) c1,c2⟩
 ·have⟨E,I⟩:=h.CD x z;have⟨c,c1,c2⟩:=J8 I;exact⟨E,c,c1,O _ _ (.inr (.inl ⟨x,z,rfl⟩)) c1,c2⟩
 ·have L:=h.Ao.DG z;have⟨b,L⟩:=Qo.1 L;have⟨c,c1,_⟩:=J8 L;exact⟨⟨(h.D7 x z).1.1,h.Fb.1 x z⟩,(h.D7 x z).2,c,c1,O _ _ (.inr (.inr ⟨x,z,rfl⟩)) c1⟩
 ·cases ol with
  | none=>cases e
  | some l'=>
   cases e;have⟨_,_,h3,h4,h5⟩:=h.AB;have⟨c,c1,c2⟩:=J8 h3;exact⟨⟨h5,h.Fb.2 iE⟩,h4,c,c1,.inl ⟨[],by rw[c2,h.GS];simp,iE⟩⟩
 ·rw[d];exact h.I4 n E I λL=>h3 (Jc.1 L)
def Dc.bQ(h:Dc bd V ix sg cl lo pd Ad o)(h0:V nm=none)(z:nm=Bx\/∃k,(isNum k=true/\k<=bd.2)/\nm=AH k)(c:FC)(hc:0<=c.2/\c.2<=c.1.length)(hV:∀m,V' m=if m=nm then some c else V m):Dc bd V' ix sg cl lo pd Ad o:=by
 obtain⟨nb,X,Y,hs,g1,g2⟩:=h;have I:∀m,L7 ix sg m->m≠nm:=by
  rintro m (rfl|⟨x,hx,rfl⟩|⟨n,hn,_,rfl⟩) e
  ·rcases z with z|⟨k,_,z⟩
   ·exact JL (e.trans z)
   ·exact Kk k (z.symm.trans e.symm)
  ·have⟨_,d,L,_⟩:=X.CD x hx;rw[e,h0]at L;cases L
  ·rcases z with z|⟨k,_,z⟩
   ·exact LB n (e.trans z)
   ·exact Gv n k (e.trans z)
 have E:∀m,m≠nm->V' m=V m:=λm O=>by rw[hV,Af O]
 refine⟨nb,X.bW (λm O=>?_) (λm O=>?_) (λm d L=>?_),Y,hs,λn l e=>?_,g2⟩
 ·rw[E m (I m O)];cases hv:V m with
  | none=>exact .inl ⟨rfl,rfl⟩
  | some d=>exact .inr ⟨d,d,rfl,rfl,rfl,.inl rfl⟩
 ·by_cases e:m=nm
  ·subst e;rcases z with rfl|⟨k,hk,rfl⟩
   ·exact Tv bd
   ·exact Tu hk.1 hk.2
  ·rw[E m e]at O;exact X.EE m O
 ·by_cases e:m=nm
  ·rw[hV,Ai e]at L;cases L;exact hc
  ·rw[E m e]at L;exact X.El m d L
 ·have⟨d,d1,d2,d3⟩:=g1 n l e;have hq:=(X.Ac n l e).1;exact⟨d,by rw[E _ (I _ (.inr (.inr ⟨n,hq.1,hq.2,rfl⟩)))];exact d1,d2,d3⟩
def Extra.fl(h:DI bd P pd Ad o)(d:Extra P nm P'):(P'.fl=P.fl)\/(P.fl nm=none/\∀m,P'.fl m=if m=nm then some (P'.F P.D.AW) else P.fl m):=by
 have oe:=Lf λe z=>d.EI _ (J7 h.CG z);rcases d.da with⟨d1,_⟩|⟨d0,d1,_⟩
 ·refine .inl ?_;have:P'.fl=vw P'.F P.D.A6:=by funext m;unfold PD.fl vw;rw[d1]
  rw[this,oe];rfl
 ·refine .inr ⟨by unfold PD.fl;rw[d0];rfl,λm=>?_⟩;have:P'.fl m=vw P'.F (P.D.A6++[(Ab nm,P.D.AW)]) m:=by unfold PD.fl vw;rw[d1]
  rw[this,Le d0,oe];rfl
def Dc.ez(h:DI bd P pd Ad o)(E:Dc bd P.fl ix sg cl lo pd Ad o)(z:Extra P nm P')(d:nm=Bx\/∃k,(isNum k=true/\k<=bd.2)/\nm=AH k):Dc bd P'.fl ix sg cl lo pd Ad o:=by
 rcases Extra.fl h z with e|⟨I,e⟩
 ·rw[e];exact E
 ·exact E.bQ I d _ z.El e
def Dc.ao:∀(L:gF (gF Pu)) (d:Int) (I:gF Int) {P:PD},DI bd P pd Ad o->Dc bd P.fl ix sg cl lo pd Ad o->0<=d->d+L.length<=4611686018427387904->d+L.length<=bd.2->Dc bd (PD.ao L d I P).2.2.2.fl ix sg cl lo pd Ad o
 | [],d,I,P,_,hT,_,_,_=>hT
 | l::r,d,I,P,h,hT,h0,h1,h2=>by
  simp only[CA]at h1 h2;have E:PD.ao (l::r) d I P=if (P.aJ (d+1) l).1≠0 then ((P.aJ (d+1) l).1,d+1,I,(P.aJ (d+1) l).2) else PD.ao r (d+1) (I++[d+1]) (P.aJ (d+1) l).2:=rfl
  have z:AH (d+1)=Bx\/∃k,(isNum k=true/\k<=bd.2)/\AH (d+1)=AH k:=.inr ⟨d+1,⟨by unfold isNum;simp;omega,iC⟩,rfl⟩;have X:=(KF P (AH (d+1)) (AI (AH (d+1))) (Cr l)).1;have Y:DI bd (P.aJ (d+1) l).2 pd Ad o:=h.aH z _ _;have O:Dc bd (P.aJ (d+1) l).2.fl ix sg cl lo pd Ad o:=hT.ez h X z;rw[E];split
  ·exact O
  ·exact Dc.ao r (d+1) _ Y O iC iC iC
def Sk(h:Hz P){oe nw:Bs}{f:Nat}(E:lookup P.D.A6 (Ab oe)=some f):(P.aQ (Ab oe) (Ab nw)).2.F=P.F/\(P.aQ (Ab oe) (Ab nw)).2.D.AG=P.D.AG/\
 (((P.aQ (Ab oe) (Ab nw)).2.D.A6=P.D.A6/\(P.aQ (Ab oe) (Ab nw)).2.D.As=P.D.As/\(P.aQ (Ab oe) (Ab nw)).1≠0)\/
   ((P.aQ (Ab oe) (Ab nw)).2.D.A6=(P.D.A6.filter λe=>decide (e.1≠Ab oe/\e.1≠Ab nw))++[(Ab nw,f)]/\(P.aQ (Ab oe) (Ab nw)).2.D.As=P.D.As++[(P.D.A6.filter λe=>decide (e.1≠Ab oe/\e.1≠Ab nw))++[(Ab nw,f)]])):=by
 have d:¬Bb P.D.A6 (Ab oe)<0:=λd=>by rw[JP,E]at d;cases d
 unfold PD.aQ Da;rw[E];dsimp only
 by_cases I:Ab nw=ByteArray.empty
 ·rw[Ai I];exact⟨rfl,rfl,.inl ⟨rfl,rfl,iE⟩⟩
 ·rw[Af I];dsimp only
  rw[Sq _ _ _ h.Ck d];by_cases z:(bg P.D.n).1=true
  ·rw[Ai z];exact⟨rfl,rfl,.inr ⟨rfl,rfl⟩⟩
  ·rw[Af z];exact⟨rfl,rfl,.inl ⟨rfl,rfl,λh=>z (Hu h)⟩⟩
def R8{F:Nat->FC}{s:gF AP}{oe nw:Bs}{f:Nat}(hd:oe≠nw)(m:Bs):vw F ((s.filter λe=>decide (e.1≠Ab oe/\e.1≠Ab nw))++[(Ab nw,f)]) m=if m=nw then some (F f) else if m=oe then none else vw F s m:=by
 have E:lookup (s.filter λe=>decide (e.1≠Ab oe/\e.1≠Ab nw)) (Ab nw)=none:=by
  rw[LA s (λx=>decide (x≠Ab oe/\x≠Ab nw))];simp
 rw[Le E];by_cases d:m=nw
 ·rw[Ai d,Ai d]
 ·rw[Af d,Af d];unfold vw;rw[LA s (λx=>decide (x≠Ab oe/\x≠Ab nw))];have z:Ab m≠Ab nw:=λe=>d (Gr.1 e);by_cases h:m=oe
  ·subst h;simp
  ·have:Ab m≠Ab oe:=λe=>h (Gr.1 e);simp[this,z,h]
def DI.fo(h:DI bd P pd Ad o){f:Nat}(hl:lookup P.D.A6 (Ab Bx)=some f)(L:Holds bd (λm=>if m=AJ then some (P.F f) else if m=Bx then none else P.fl m) pd Ad o):DI bd (P.aQ (Ab Bx) (Ab AJ)).2 pd Ad o:=by
 have⟨a1,a2,a3⟩:=Sk (nw:=AJ) h.bj hl;have O:=Eo hl;rcases a3 with⟨d1,d2,_⟩|⟨d1,d2⟩
 ·have es:BB (P.aQ (Ab Bx) (Ab AJ)).2=BB P:=by unfold BB;rw[a2,d2]
  exact⟨λs d=>by rw[es]at d;rw[a1];exact h.E6 s d,by rw[es];exact h.Aq,by rw[es];exact h.Ck,by rw[es,d1];exact h.CG⟩
 ·obtain⟨s1,E⟩:=iG ((P.D.A6.filter λe=>decide (e.1≠Ab Bx/\e.1≠Ab AJ))++[(Ab AJ,f)]);rw[E]at d1 d2;have es:BB (P.aQ (Ab Bx) (Ab AJ)).2=BB P++[s1]:=by unfold BB;rw[a2,d2];rfl
  have z:∀s,s∈BB (P.aQ (Ab Bx) (Ab AJ)).2->s∈BB P\/s=s1:=λs d=>by
   rw[es]at d;rcases AX.1 d with d|d
   ·exact .inl d
   ·exact .inr (by simpa using d)
  have hv:vw P.F s1=λm=>if m=AJ then some (P.F f) else if m=Bx then none else P.fl m:=by
   funext m;rw[<-E,R8 JL.symm];rfl
  refine⟨λs d=>?_,λs d=>?_,λs d=>?_,by rw[es,d1];simp⟩
  ·rw[a1];rcases z s d with d|rfl
   ·exact h.E6 s d
   ·rw[hv];exact L
  ·rcases z s d with d|rfl
   ·exact h.Aq s d
   ·rw[<-E,EM,Hl];refine⟨(h.Aq _ h.CG).sublist (HF.map _),iE,λa X b I=>?_⟩;simp at I;subst I;obtain⟨e,Y,rfl⟩:=Cn.1 X;have⟨he1,he2⟩:=H3.1 Y;intro aA;have:=Kv (h.Aq _ h.CG) he1 O aA;subst this;simp at he2
  ·rcases z s d with d|rfl
   ·exact h.Ck s d
   ·rw[<-E,EM,Hl];refine⟨(h.Ck _ h.CG).sublist (HF.map _),iE,λa X b I=>?_⟩;simp at I;subst I;obtain⟨e,Y,rfl⟩:=Cn.1 X;have:=(H3.1 Y).2;simp at this;exact this.2
def Db.fR{V:View}{h:Int}{L:gF (Int×gF Pu)}{c:FC}(aB:Io bd ⟨h,L.map (·.1)⟩ L)(hc:Cd c/\c.1=AT (AI AJ) (Cp h (L.map (·.1))))(aA:∀x∈L,((∀p∈x.2,Bo p)/\CE Cx x.2=true)/\∃c,V (AH x.1)=some c/\Cd c/\c.1=AT (AI (AH x.1)) (Cr x.2))(O:∀n,isNum n=true->h<=n->V (Ah n)=none)(E:∀nm,V nm≠none->FU bd nm)(X:∀nm c,V nm=some c->0<=c.2/\c.2<=c.1.length)(hV:∀m,V' m=if m=AJ then some c else if m=Bx then none else V m):Db bd V' ⟨h,L.map (·.1)⟩ L [] none:=by
 have z:∀m,m≠AJ->m≠Bx->V' m=V m:=λm h1 h2=>by rw[hV,Af h1,Af h2]
 refine⟨aB,.inr ⟨c,by rw[hV,Ai rfl],hc.1,hc.2⟩,rfl,λx hx=>?_,λx hx=>(by cases hx),trivial,λn l e=>(by cases e),List.Pairwise.nil,λn h1 h2 h3=>?_,λnm hn=>?_,λnm d I=>?_⟩
 ·rw[z _ (Kk _) (ME _)];exact aA x hx
 ·rw[z _ (I5 _) (LB _),O n h1 h2]at h3;exact absurd rfl h3
 ·by_cases e:nm=AJ
  ·subst e;exact A0v bd
  ·by_cases Y:nm=Bx
   ·rw[hV,Af e,Ai Y]at hn;exact absurd rfl hn
   ·rw[z nm e Y]at hn;exact E nm hn
 ·by_cases e:nm=AJ
  ·rw[hV,Ai e]at I;cases I;have:=hc.1;unfold Cd at this;omega
  ·by_cases Y:nm=Bx
   ·rw[hV,Af e,Ai Y]at I;cases I
   ·rw[z nm e Y]at I;exact X nm d I
end
def Reads(bd:Int×Int)(P:PD)(q:gF Pu)(o:Int):Prop:=∃A sg cl ol,Lay P A sg cl ol/\C4 o (Bk sg cl ol) q/\Io bd A.ix sg
def Whole(bd:Int×Int)(V:View)(q:gF Pu)(o:Int):Prop:=∃ix sg cl lo,Db bd V ix sg cl lo/\(Ax cl).length<=1099511627776/\C4 o (Ax sg++Ax cl++F7 lo) q
section
variable{bd:Int×Int}{P P':PD}{V V':View}{A:Ar}{ix:Ix}{sg cl:gF (Int×gF Pu)}{lo:Option (Int×gF Pu)}{ol:Option (gF Pu)}{pd q:gF Pu}{Ad:Nat}{o:Int}{nm:Bs}
def Db.AZ(h:Db bd P.fl ix sg cl lo)(hl:(Ax cl).length<=1099511627776)(K L:Int)(hK:0<=K/\ix.Bd<=K+1)(aB:∀n,isNum n=true->P.fl (Ah n)≠none->n<=K)(hL:0<=L)(aD:∀n,isNum n=true->P.fl (AH n)≠none->n<=L):
 Lay P ⟨ix,⟨cl.map (·.1)++(lo.map (·.1)).toList,K,((Ax cl++F7 lo).length:Int),none⟩,L,[]⟩ sg (cl++lo.toList) none:=by
 have X:∀m,P.bs m≠none->P.fl m≠none:=λm hm e=>hm (Jc.2 e);have z:∀x∈cl++lo.toList,(isNum x.1=true/\ix.Bd<=x.1)/\(∀p∈x.2,Bo p)/\P.fl (Ah x.1)≠none:=λx d=>by
  rcases AX.1 d with d|d
  ·have⟨I,E,c,O,_⟩:=h.D7 x d;exact⟨I,E,by rw[O];simp⟩
  ·cases lo with
   | none=>simp at d
   | some y=>
    simp at d;subst d;obtain⟨n,l⟩:=x;have⟨I,E,c,O,_⟩:=h.Ac n l rfl;exact⟨I,E,by rw[O];simp⟩
 have aA:Ax (cl++lo.toList)=Ax cl++F7 lo:=by
  cases lo with
  | none=>simp[Ax,F7]
  | some y=>simp[Ax,F7]
 have Y:G8 P.fl 0 (cl++lo.toList):=by
  cases lo with
  | none=>simpa using h.Ao
  | some y=>
   obtain⟨n,l⟩:=y;have⟨_,E,c,O,h4⟩:=h.Ac n l rfl;refine h.Ao.bY ?_;unfold JI;rw[O];dsimp only
   rw[O2];exact h4.aY (by constructor<;>omega) E
 refine⟨h.E4.1,?_,h.sd,λx d=>?_,λx d=>⟨⟨(z x d).1.1,aB _ (z x d).1.1 (z x d).2.2⟩,(z x d).2.1⟩,λx _ d=>absurd rfl d,⟨λx d=>(z x d).1.2,λd=>absurd rfl d⟩,G8.at.1 Y,?_,⟨rfl,?_⟩,⟨hK.1,hK.2,λn I E=>aB n I (X _ E)⟩,⟨hL,λn I E=>aD n I (X _ E)⟩,λm hm=>(by cases hm),h.Fj,λm hm=>(h.EE m (X m hm)).1,λn I E O=>h.C9 n I E (X _ O)⟩
 ·rcases h.J6 with⟨I,E⟩|⟨c,I,_,O⟩
  ·exact .inl ⟨Jc.2 I,E⟩
  ·exact .inr (by rw[Qi I,O])
 ·have⟨I,c,E,_,h4⟩:=h.CD x d;exact⟨I,by rw[Qi E,h4]⟩
 ·dsimp only;rw[aA]
 ·dsimp only
  rw[EM];cases lo<;>simp
def Whole.bz(h:Whole bd P.fl q o):Reads bd P q o:=by
 obtain⟨ix,sg,cl,lo,I,O,X⟩:=h;have L:=I.E4.1.Bd;unfold isNum at L;simp at L;have E:=I.AZ O 4611686018427387904 4611686018427387904 ⟨iF,iC⟩ (λn d _=>by unfold isNum at d;simp at d;exact d.2) iF (λn d _=>by unfold isNum at d;simp at d;exact d.2);refine⟨_,sg,_,none,E,?_,I.E4⟩;unfold Bk;have z:Ax (cl++lo.toList)=Ax cl++F7 lo:=by
  cases lo<;>simp[Ax,F7]
 rw[z];simpa[List.append_assoc] using X
def Fs.bF{n:Int}{d:Nat}(h:Fs bd V pd Ad o n d)(ha:d<=1099511627776):Whole bd V pd o:=by
 obtain⟨ix,sg,cl,l,nb,c,I,hnb,z,h1,h2,h3,h4,E⟩:=h;refine⟨ix,sg,cl,some (n,l),I,iC,?_⟩;have:pd=pd.take nb++l:=by rw[E,Ec]
 conv=>rhs;rw[this]
 exact z.dR l
def Reads.aV{d:Int×Int}(h:Reads bd P q o)(z:Ip bd d):Reads d P q o:=by
 obtain⟨A,sg,cl,ol,I,E,L⟩:=h;exact⟨A,sg,cl,ol,I,E,L.aV z⟩
def Reads.bh{d:Int}(h:Reads bd P q o)(z:o<=d):Reads bd P q d:=by
 obtain⟨A,sg,cl,ol,I,E,L⟩:=h;exact⟨A,sg,cl,ol,I,E.bh z,L⟩
def Reads.to{d:gF Pu}(h:Reads bd P q o)(E:C4 o q d):Reads bd P d o:=by
 obtain⟨A,sg,cl,ol,I,z,L⟩:=h;exact⟨A,sg,cl,ol,I,z.AF E,L⟩
def Reads.av(h:Reads bd P q o)(d:∀m,P'.bs m=P.bs m):Reads bd P' q o:=by
 obtain⟨A,sg,cl,ol,E,z,I⟩:=h;exact⟨A,sg,cl,ol,E.av d,z,I⟩
def Rq(P:PD)(nm:gE)(m:Bs):(P.fl m=none/\(P.ae nm).2.fl m=none)\/∃c d,P.fl m=some c/\(P.ae nm).2.fl m=some d/\d.1=c.1/\(d.2=c.2\/Cd d):=by
 cases hx:lookup P.D.A6 nm with
 | none=>
  have e:(P.ae nm).2=P:=by unfold PD.ae CP;rw[hx]
  rw[e];cases hf:P.fl m with
  | none=>exact .inl ⟨rfl,rfl⟩
  | some c=>exact .inr ⟨c,c,rfl,rfl,rfl,.inl rfl⟩
 | some f=>
  have⟨a1,a2,a3,h⟩:=Jq hx;unfold PD.fl;rw[a1];cases hk:lookup P.D.A6 (Ab m) with
  | none=>exact .inl ⟨rfl,rfl⟩
  | some g=>
   refine .inr ⟨P.F g,(P.ae nm).2.F g,rfl,rfl,?_⟩;rcases h with h|h
   ·rw[h];exact⟨rfl,.inl rfl⟩
   ·rw[h];by_cases e:g=f
    ·subst e;simp[upd,Cd]
    ·simp[upd,e]
def On(P:PD)(nm:gE)(m:Bs):(P.ae nm).2.bs m=P.bs m:=by
 unfold PD.bs;rcases Rq P nm m with⟨z,h⟩|⟨c,d,z,h,E,_⟩
 ·rw[z,h]
 ·rw[z,h];simp[E]
def Rx:∀(l:gF Bs) (P:PD) (m:Bs),(PD.ax l P).2.bs m=P.bs m
 | [],P,m=>rfl
 | x::r,P,m=>by
  unfold PD.ax;split
  ·exact On P (Ab x) m
  ·rw[Rx r,On]
def Ow(A:Ar)(P:PD)(m:Bs):(A.I P).2.2.bs m=P.bs m:=by
 unfold Ar.I;split<;>exact Rx _ _ m
def Om{c:FC}{P:PD}{nm:gE}{m:Bs}(h:∀c,P.fl m=some c->Cd c)(E:(P.ae nm).2.fl m=some c):Cd c:=by
 rcases Rq P nm m with⟨_,I⟩|⟨a,d,L,I,O,z⟩
 ·rw[I]at E;cases E
 ·rw[I]at E;cases E;rcases z with z|z
  ·have:=h a L;unfold Cd at this ⊢;rw[z,O];exact this
  ·exact z
def Oo:∀(l:gF Bs) {P:PD} {m:Bs},(∀c,P.fl m=some c->Cd c)->∀c,(PD.ax l P).2.fl m=some c->Cd c
 | [],P,m,h,c,d=>h c d
 | x::r,P,m,h,c,d=>by
  unfold PD.ax at d;split at d
  ·exact Om h d
  ·exact Oo r (λc d=>Om h d) c d
def Rp{P:PD}{x:Bs}(d:(P.ae (Ab x)).1=0):∀c,(P.ae (Ab x)).2.fl x=some c->Cd c:=by
 intro c h;unfold PD.fl PD.ae CP at h;unfold PD.ae CP at d;cases hx:lookup P.D.A6 (Ab x) with
 | none=>rw[hx]at d;cases d
 | some f=>
  rw[hx]at d h;dsimp only at d h;rw[Ai d,hx]at h;simp[upd]at h;subst h;rfl
def Rv:∀(l:gF Bs) {P:PD},(PD.ax l P).1=0->∀m∈l,∀c,(PD.ax l P).2.fl m=some c->Cd c
 | x::r,P,hok,m,h,c,hc=>by
  unfold PD.ax at hok hc;by_cases d:(P.ae (Ab x)).1=0
  ·rw[Af (nn d)]at hok hc;rcases BS.1 h with rfl|h
   ·exact Oo r (Rp d) c hc
   ·exact Rv r hok m h c hc
  ·rw[Ai d]at hok;exact absurd hok d
def Yr(d:(A.I P).1=0){m:Bs}(h:∀c,P.fl m=some c->m∈A.AS\/Cd c):∀c,(A.I P).2.2.fl m=some c->Cd c:=by
 intro c z;unfold Ar.I at d z;by_cases E:(P.ax A.AS).1=0
 ·rw[Af (nn E)]at z;by_cases I:m∈A.AS
  ·exact Rv A.AS E m I c z
  ·exact Oo A.AS (λc z=>(h c z).resolve_left I) c z
 ·rw[Ai E]at d;exact absurd d E
def Fs.bW{n:Int}{ag:Nat}(h:Fs bd V pd Ad o n ag)(I:∀nm,(∀c,V nm=some c->∃d,V' nm=some d/\d.1=c.1/\(d.2=c.2\/Cd d))/\(V nm=none->V' nm=none)):Fs bd V' pd Ad o n ag:=by
 obtain⟨ix,sg,cl,l,nb,c,O,X,hs,Y,g2,g3,g4,g5⟩:=h;have L:∀nm,V' nm≠none->V nm≠none:=λnm z E=>z ((I nm).2 E);have⟨d,e1,e2,e3⟩:=(I _).1 c Y;refine⟨ix,sg,cl,l,nb,d,O.bW (λnm _=>?_) (λnm z=>O.EE nm (L nm z)) (λnm c z=>?_),X,hs,e1,by rw[e2];exact g2,g3,AO g4 (Mc (UQ e2 e3 (O.El _ _ Y).2) _),g5⟩
 ·cases E:V nm with
  | none=>exact .inl ⟨rfl,(I nm).2 E⟩
  | some c=>have⟨d,d1,d2,d3⟩:=(I nm).1 c E;exact .inr ⟨c,d,rfl,d1,d2,d3⟩
 ·cases E:V nm with
  | none=>rw[(I nm).2 E]at z;cases z
  | some x=>
   have⟨d,d1,d2,d3⟩:=(I nm).1 x E;rw[d1]at z;cases z;have:=O.El nm x E;rcases d3 with d3|d3
   ·rw[d2,d3];exact this
   ·unfold Cd at d3;omega
def EK.cL{n:Int}{f O:Nat}(h:EK bd P pd Ad o n f O)(nm:gE):EK bd (P.ae nm).2 pd Ad o n f O:=by
 cases hx:lookup P.D.A6 nm with
 | none=>
  have e:(P.ae nm).2=P:=by unfold PD.ae CP;rw[hx]
  rw[e];exact h
 | some g0=>
  have⟨a1,a2,a3,d⟩:=Jq hx;have es:BB (P.ae nm).2=BB P:=by unfold BB;rw[a2,a3]
  refine⟨by rw[a1];exact h.1,λs L=>?_⟩;rw[es]at L;rcases h.2 s L with E|⟨X,I⟩
  ·exact .inl E
  ·refine .inr ⟨X,?_⟩;rcases d with d|d
   ·rw[d];exact I
   ·refine I.bW λm=>?_;unfold vw;cases hk:lookup s (Ab m) with
    | none=>exact⟨λc z=>by simp at z,λ_=>rfl⟩
    | some g=>
     refine⟨λc z=>?_,λY=>by simp at Y⟩;simp at z;subst z;rw[d];by_cases e:g=g0
     ·subst e;exact⟨_,rfl,by simp[upd],.inr (by simp[upd,Cd])⟩
     ·exact⟨P.F g,by simp[upd,e],rfl,.inl rfl⟩
def EK.ax{n:Int}{f z:Nat}:∀(l:gF Bs) {P:PD},EK bd P pd Ad o n f z->EK bd (PD.ax l P).2 pd Ad o n f z
 | [],P,h=>h
 | x::r,P,h=>by
  have d:=h.cL (Ab x);unfold PD.ax;split
  ·exact d
  ·exact EK.ax r d
def EK.I{n:Int}{f d:Nat}(h:EK bd P pd Ad o n f d):EK bd (A.I P).2.2 pd Ad o n f d:=by
 unfold Ar.I;split<;>exact h.ax _
end
structure SI (bd:Int×Int) (A:Ar) (P:PD) (pd:gF Pu) (Ad:Nat) (o:Int) (sg cl:gF (Int×gF Pu)) (ol:Option (gF Pu)):Prop where
 di:DI bd P pd Ad o
 AZ:Lay P A sg cl ol
 I9:∃nb,nb<=pd.length/\C4 o (Ax sg++Ax cl) (pd.take nb)/\ol.getD []=pd.drop nb/\(ol=none->Ad<=nb)
 GM:∀m,(m=AJ\/(∃x∈sg,m=AH x.1)\/∃x∈cl,m=Ah x.1)->∀c,P.fl m=some c->m∈A.AS\/Cd c
 AB:∀l,ol=some l->∃f,EK bd P pd Ad o A.j.Ac f (Ax cl).length
 Cw:(Ax cl).length<=1099511627776
 Ey:Io bd A.ix sg/\A.j.Ac<=bd.1/\A.Ac<=bd.2
section
variable{bd:Int×Int}{P P':PD}{A:Ar}{sg cl:gF (Int×gF Pu)}{ol:Option (gF Pu)}{pd:gF Pu}{Ad:Nat}{o:Int}
def DI.El(h:DI bd P pd Ad o)(nm:Bs)(c:FC)(d:P.fl nm=some c):0<=c.2/\c.2<=c.1.length:=by
 have⟨ix,sg,cl,lo,nb,hL,_⟩:=h.E6 _ h.CG;exact hL.El nm c d
def DI.Az(h:DI bd P pd Ad o):∀nm,P.fl nm≠none->FU bd nm:=by
 have⟨ix,sg,cl,lo,nb,hL,_⟩:=h.E6 _ h.CG;exact hL.EE
def EK.aV{d:Int×Int}{n:Int}{f z:Nat}(h:EK bd P pd Ad o n f z)(E:Ip bd d):EK d P pd Ad o n f z:=
 ⟨h.1,λs I=>(h.2 s I).imp id λq=>⟨q.1,q.2.aV E⟩⟩
def SI.aV{d:Int×Int}(h:SI bd A P pd Ad o sg cl ol)(z:Ip bd d):SI d A P pd Ad o sg cl ol:=
 ⟨h.di.aV z,h.AZ,h.I9,h.GM,λl e=>by have⟨f,hf⟩:=h.AB l e;exact⟨f,hf.aV z⟩,h.Cw,h.Ey.1.aV z,by have:=h.Ey.2.1;have:=z.1;omega,by have:=h.Ey.2.2;have:=z.2;omega⟩
def SI.C9(h:SI bd A P pd Ad o sg cl ol):C4 o (Bk sg cl ol) pd:=by
 have⟨nb,h1,h2,h3,_⟩:=h.I9;unfold Bk;rw[<-Ci,h3];have:pd=pd.take nb++pd.drop nb:=(Ec _ _).symm
 conv=>rhs;rw[this]
 exact h2.dR _
def SI.bz(h:SI bd A P pd Ad o sg cl ol):Reads bd P pd o:=⟨A,sg,cl,ol,h.AZ,h.C9,h.Ey.1⟩
def SI.dV(h:SI bd A P pd Ad o sg cl ol):Ad<=pd.length:=by
 have⟨nb,h1,_,_,h4⟩:=h.I9;cases ol with
 | none=>exact AO (h4 rfl) h1
 | some l=>
  have⟨f,hl,hO⟩:=h.AB l rfl;rcases hO _ h.di.CG with d|⟨_,ix,sg',cl',l',nb',c,_,hnb,_,_,_,_,E,z⟩
  ·exact absurd rfl (d _ (Eo hl))
  ·(have:Fl c l'<=l'.length:=by unfold Fl;omega);rw[z,Cz]at this;rw[z]at E;omega
def SI.dz(h:SI bd A P pd Ad o sg cl ol)(L:(A.I P).1=0):SI bd {A with AS:=[]} (A.I P).2.2 pd Ad o sg cl ol/\Db bd (A.I P).2.2.fl A.ix sg cl (ol.map λl=>(A.j.Ac,l)):=by
 have Y:=Ow A P;have d:=h.AZ.av Y;have X:Lay (A.I P).2.2 {A with AS:=[]} sg cl ol:=⟨d.E4,d.ix,d.sd,d.CD,d.D7,d.JS,d.Fb,d.Ao,d.GS,d.AB,d.F9,d.EO,λm E=>(by cases E),d.HQ,d.EE,d.I4⟩;have I:=h.di.I (A:=A);have z:∀m,(m=AJ\/(∃x∈sg,m=AH x.1)\/∃x∈cl,m=Ah x.1)->∀c,(A.I P).2.2.fl m=some c->Cd c:=λm E=>Yr L (h.GM m E);exact⟨⟨I,X,h.I9,λm E c O=>.inr (z m E c O),λl e=>by have⟨f,hf⟩:=h.AB l e;exact⟨f,hf.I⟩,h.Cw,h.Ey⟩,X.bu h.Cw I.El (λm c E O=>z m E c O) h.Ey.1 I.Az⟩
def SI.dX(h:SI bd A P pd Ad o sg cl ol):DI bd (A.I P).2.2 pd Ad o/\Reads bd (A.I P).2.2 pd o:=⟨h.di.I,h.bz.av (Ow A P)⟩
def A4q{P:PD}{nm:Bs}{f:Nat}{pc:Bs}(h:lookup P.D.A6 (Ab nm)=some f)(d:(P.au (Ab nm) pc).2.D.A6=P.D.A6):HT P.D P.F (Ab nm) pc=decide (((((P.au (Ab nm) pc).2.F f).1.length:Int)-(P.F f).1.length)=pc.length):=by
 have e:HT P.D P.F (Ab nm) pc=decide ((CH (P.au (Ab nm) pc).2.D (P.au (Ab nm) pc).2.F (Ab nm)).1-(CH P.D P.F (Ab nm)).1=pc.length):=rfl;rw[e];unfold CH;rw[d,h]
def SI.az{l:gF Pu}(h:SI bd A P pd Ad o sg cl (some l))(p:Pu)(hp:Bo p):
 DI bd (A.j.az P p).2.2.2 (pd++[p]) Ad o/\((A.j.az P p).1=true->(∃f,EK bd (A.j.az P p).2.2.2 (pd++[p]) Ad o A.j.Ac f (Ax cl).length)/\Reads bd (A.j.az P p).2.2.2 (pd++[p]) o)/\
  ((A.j.az P p).1=false->DI bd (A.j.az P p).2.2.2 pd Ad o/\Reads bd (A.j.az P p).2.2.2 pd o):=by
 have⟨f,hO⟩:=h.AB l rfl;have⟨h1,h2,h3,h4,h5⟩:=h.AZ.AB;have hl:=hO.1;have⟨c,hc,hcb⟩:=J8 h3;have I:P.F f=c:=by unfold PD.fl at hc;rw[hl]at hc;simpa using hc
 rw[h.AZ.GS]at hcb h1;have O:(A.j.az P p).2.2.2=(P.au (Ab (Ah A.j.Ac)) (AT (FK (Ah A.j.Ac) ((Ax cl).length:Int) l) (Bg p.1 p.2.1 p.2.2))).2:=by
  unfold Jn.az;rw[h1];rfl
 have E:(A.j.az P p).1=HT P.D P.F (Ab (Ah A.j.Ac)) (AT (FK (Ah A.j.Ac) ((Ax cl).length:Int) l) (Bg p.1 p.2.1 p.2.2)):=by
  unfold Jn.az;rw[h1];rfl
 obtain⟨pc,aA⟩:=iG (AT (FK (Ah A.j.Ac) ((Ax cl).length:Int) l) (Bg p.1 p.2.1 p.2.2));have Y:pc.length=21:=by rw[<-aA,EP,FH]
 rw[aA]at O E;have⟨a1,a2,a3,a4⟩:=Je pc hl;have aF:=A4q (pc:=pc) hl a1;have hj:∃j,(P.au (Ab (Ah A.j.Ac)) pc).2.F=upd P.F f (c.1++pc.take j,c.2)/\((A.j.az P p).1=true↔21<=j):=by
  rcases a4 with a4|⟨j,a4⟩
  ·refine⟨0,by rw[a4];funext g;by_cases e:g=f<;>simp[upd,e,I],?_⟩;rw[E,aF,a4,Y];simp
  ·refine⟨j,by rw[a4,I],?_⟩;rw[E,aF,a4,Y,I];simp only[upd,Cs,B3,BK,Y,Ea];omega
 obtain⟨j,hF,L⟩:=hj;rw[<-O]at hF a1 a2 a3;rw[<-aA]at hF;have⟨b1,b2,b3⟩:=hO.au h.di I hcb p hp j a1 a2 a3 hF;refine⟨b1,λht=>?_,λht=>?_⟩
 ·have aB:=b2 (L.1 ht);refine⟨⟨f,aB⟩,?_⟩;rcases aB.2 _ b1.CG with z|⟨_,hw⟩
  ·exact absurd rfl (z _ (Eo aB.1))
  ·exact Whole.bz (hw.bF h.Cw)
 ·have hj:j<21:=by
   by_cases d:21<=j
   ·rw[L.2 d]at ht;cases ht
   ·omega
  refine⟨b3 hj,?_⟩;have z:∀m,m≠Ah A.j.Ac->(A.j.az P p).2.2.2.bs m=P.bs m:=λm hm=>by
   unfold PD.bs PD.fl;rw[a1,hF];cases hk:lookup P.D.A6 (Ab m) with
   | none=>rfl
   | some g=>
    have:g≠f:=λe=>hm (by
     have:=Kv (h.di.Aq _ h.di.CG) (Eo hk) (Eo hl) e
     exact Gr.1 (Qn this).1)
    simp[upd,this]
  have aE:(A.j.az P p).2.2.2.bs (Ah A.j.Ac)=some (Er (Ah A.j.Ac) ((Ax cl).length:Int) l++(AT (FK (Ah A.j.Ac) ((Ax cl).length:Int) l) (Bg p.1 p.2.1 p.2.2)).take j):=by
   unfold PD.bs PD.fl;rw[a1,hl,hF];simp[upd,hcb]
  have aG:∀x∈cl,Ah x.1≠Ah A.j.Ac:=λx d e=>h.AZ.JS x d iE (Gq (h.AZ.D7 x d).1.1 h5 e);have aD:Fv (A.j.az P p).2.2.2 0 (cl++[(A.j.Ac,l)]):=by
   refine(h.AZ.Ao.bx λx d=>z _ (aG x d)).bY ?_;rw[O2];exact Pj (by constructor<;>have:=h.Cw<;>omega) h4 (by rw[BK];omega) aE
  refine⟨⟨A.ix,⟨A.j.Ao,A.j.Ac,((Ax (cl++[(A.j.Ac,l)])).length:Int),none⟩,A.Ac,[]⟩,sg,cl++[(A.j.Ac,l)],none,?_,?_⟩
  ·refine⟨h.AZ.E4,by rw[z _ (I5 _).symm];exact h.AZ.ix,h.AZ.sd,λx d=>by rw[z _ (Gv _ x.1).symm];exact h.AZ.CD x d,λx d=>?_,λx _ d=>absurd rfl d,⟨λx d=>?_,λd=>absurd rfl d⟩,aD,rfl,⟨rfl,by dsimp only;rw[h2];simp⟩,
    ⟨h.AZ.F9.1,h.AZ.F9.2.1,λn X k2=>?_⟩,⟨h.AZ.EO.1,λn X k2=>h.AZ.EO.2 n X (by rwa [z _ (Gv _ n).symm]at k2)⟩,λm hm=>(by cases hm),h.AZ.HQ,λm hm=>?_,λn X k2 k3=>?_⟩
   ·rcases AX.1 d with d|d
    ·exact h.AZ.D7 x d
    ·simp at d;subst d;exact⟨⟨h5,II _⟩,h4⟩
   ·rcases AX.1 d with d|d
    ·exact h.AZ.Fb.1 x d
    ·simp at d;subst d;exact h.AZ.Fb.2 iE
   ·by_cases e:Ah n=Ah A.j.Ac
    ·have:=Gq X h5 e;rw[this];exact II _
    ·rw[z _ e]at k2;exact h.AZ.F9.2.2 n X k2
   ·by_cases e:m=Ah A.j.Ac
    ·subst e;rw[Lx h5];simp
    ·rw[z _ e]at hm;exact h.AZ.EE m hm
   ·by_cases e:Ah n=Ah A.j.Ac
    ·have:=Gq X h5 e;subst this;show A.j.Ac∈A.j.Ao;rw[h2];simp
    ·rw[z _ e]at k3;exact h.AZ.I4 n X k2 k3
  ·refine⟨?_,h.Ey.1⟩;have:=h.C9;unfold Bk at this ⊢;simpa[Ax] using this
end
section
variable{bd:Int×Int}{P P':PD}{A:Ar}{sg cl:gF (Int×gF Pu)}{ol:Option (gF Pu)}{pd:gF Pu}{Ad:Nat}{o:Int}
def SI.bu(h:SI bd A P pd Ad o sg cl ol)(d:A.AS=[]):Db bd P.fl A.ix sg cl (ol.map λl=>(A.j.Ac,l)):=
 h.AZ.bu h.Cw h.di.El (λm c z E=>(h.GM m z c E).resolve_left (by rw[d];simp)) h.Ey.1 h.di.Az
def SI.dP(h:SI bd A P pd Ad o sg cl none):C4 o (Ax sg++Ax cl) pd:=by
 have:=h.C9;unfold Bk at this;simpa using this
def SI.aw(h:SI bd A P pd Ad o sg cl none)(aB:A.AS=[])(hn:isNum (A.j.Ac+1)=true)(I:A.j.Ac+1<=bd.1):
 (DI bd (A.j.aw P).2.2 pd Ad o/\Reads bd (A.j.aw P).2.2 pd o)/\((A.j.aw P).1=0->SI bd {A with j:=(A.j.aw P).2.1} (A.j.aw P).2.2 pd Ad o sg cl (some [])/\(A.j.aw P).2.1.Ac=A.j.Ac+1):=by
 have hL:=h.bu aB;have E:∀x∈cl,x.1<A.j.Ac+1:=λx Y=>by have:=(h.AZ.D7 x Y).1.2;omega
 have hf:=h.AZ.F9.2.1;have⟨d1,d2⟩:=h.di.aw (J:=A.j) hL h.dP h.dV hn I hf E h.AZ.GS;have⟨b1,⟨j,b2⟩,b3⟩:=Nu P A.j;have O:=Extra.fl h.di b1;refine⟨⟨d1,?_⟩,λd=>?_⟩
 ·rcases O with e|⟨h0,e⟩
  ·exact h.bz.av λm=>by unfold PD.bs;rw[e]
  ·rw[b2,h.AZ.GS]at e;have hw:=(hL.dB h.dP h.dV hn I hf E j (V':=(A.j.aw P).2.2.fl) e).1;exact Whole.bz ⟨A.ix,sg,cl,some (A.j.Ac+1,[]),hw.bu,h.Cw,by simpa[F7] using h.dP⟩
 ·have L:=(AK.aP P).aw (J:=A.j) (N:=4611686018427387900) (R:=4611686018427387904) (h.di.bj.aP.ah iC (An _)) iC d;obtain⟨s1,s2,s3,s4⟩:=L;have hq:=(h.AZ.av (P':=P.aP) λm=>((AK.aP P).bs m).symm).aw (N:=4611686018427387900) (R:=4611686018427387904) (h.di.bj.aP.ah iC (An _)) hn iC;have X:Lay (A.j.aw P).2.2 {A with j:=(A.j.aw P).2.1} sg cl (some []):=by
   rw[s2];exact hq.2.2.1.av λm=>s3.bs m
  have z:(A.j.aw P).2.1.Ac=A.j.Ac+1:=by
   unfold Jn.aw at d ⊢;split at d
   ·rename_i h1;exact absurd d h1
   ·rename_i h1;rw[Af h1];dsimp only at d ⊢;split at d
    ·rename_i h2;exact absurd d h2
    ·rename_i h2;rw[Af h2]
  refine⟨⟨d1,X,?_,λm hm c hc=>?_,λl e=>?_,h.Cw,h.Ey.1,by dsimp only;rw[z];exact I,h.Ey.2.2⟩,z⟩
  ·have⟨nb,g1,g2,g3,g4⟩:=h.I9;exact⟨nb,g1,g2,g3,λe=>by cases e⟩
  ·
   have aA:m≠Ah (A.j.Ac+1):=by
    rcases hm with rfl|⟨x,_,rfl⟩|⟨x,Y,rfl⟩
    ·exact(I5 _).symm
    ·exact(Gv _ x.1).symm
    ·intro e;have:=Gq (h.AZ.D7 x Y).1.1 hn e;have:=E x Y;omega
   rcases O with e|⟨h0,e⟩
   ·rw[e]at hc;exact h.GM m hm c hc
   ·rw[e,Af aA]at hc;exact h.GM m hm c hc
  ·cases e;exact⟨_,by dsimp only;rw[z];exact d2 d⟩
def SI.eI{l:gF Pu}(h:SI bd A P pd Ad o sg cl (some l))(p:Pu)(hp:Bo p)(Y:(A.j.az P p).2.1=0):
 (A.j.az P p).1=true/\SI bd {A with j:=(A.j.az P p).2.2.1} (A.j.az P p).2.2.2 (pd++[p]) Ad o sg cl (some (l++[p])):=by
 have⟨s0,s1,s2,s3,s4⟩:=(AK.aP P).az (J:=A.j) (N:=4611686018427387900) (R:=4611686018427387904) (h.di.bj.aP.ah iC (An _)) iC p Y;have hq:=(h.AZ.av (P':=P.aP) λm=>((AK.aP P).bs m).symm).az (N:=4611686018427387900) (R:=4611686018427387904) (h.di.bj.aP.ah iC (An _)) p hp iC;have ht:(A.j.az P p).1=true:=by rw[s0];exact hq.1
 have⟨g1,g2,_⟩:=h.az p hp;have I:Lay (A.j.az P p).2.2.2 {A with j:=(A.j.az P p).2.2.1} sg cl (some (l++[p])):=by
  rw[s2];exact hq.2.2.2.av λm=>s3.bs m
 have d:(A.j.az P p).2.2.1.Ac=A.j.Ac:=by unfold Jn.az;cases A.j.AB<;>rfl
 have⟨f,hO⟩:=(g2 ht).1;refine⟨ht,⟨g1,I,?_,λm hm c hc=>?_,λl' e=>⟨f,by dsimp only;rw[d];exact hO⟩,h.Cw,h.Ey.1,by dsimp only;rw[d];exact h.Ey.2.1,h.Ey.2.2⟩⟩
 ·have⟨nb,k1,k2,k3,_⟩:=h.I9;refine⟨nb,by simp;omega,by rw[HC k1];exact k2,?_,λe=>by cases e⟩;rw[Ml k1,<-k3];rfl
 ·
  have⟨h1,h2,h3,h4,h5⟩:=h.AZ.AB;have L:m≠Ah A.j.Ac:=by
   rcases hm with rfl|⟨x,_,rfl⟩|⟨x,hx,rfl⟩
   ·exact(I5 _).symm
   ·exact(Gv _ x.1).symm
   ·intro e;exact h.AZ.JS x hx iE (Gq (h.AZ.D7 x hx).1.1 h5 e)
  have⟨f0,hO0⟩:=h.AB l rfl;have E:(A.j.az P p).2.2.2=(P.au (Ab (Ah A.j.Ac)) (AT (FK (Ah A.j.Ac) A.j.pd l) (Bg p.1 p.2.1 p.2.2))).2:=by
   unfold Jn.az;rw[h1];rfl
  have⟨a1,_,_,z⟩:=Je (AT (FK (Ah A.j.Ac) A.j.pd l) (Bg p.1 p.2.1 p.2.2)) hO0.1;have X:(A.j.az P p).2.2.2.fl m=P.fl m:=by
   rw[E];unfold PD.fl;rw[a1];cases hk:lookup P.D.A6 (Ab m) with
   | none=>rfl
   | some g=>
    have O:g≠f0:=λe=>L (by
     have:=Kv (h.di.Aq _ h.di.CG) (Eo hk) (Eo hO0.1) e
     exact Gr.1 (Qn this).1)
    rcases z with z|⟨j,z⟩
    ·rw[z]
    ·rw[z];simp[upd,O]
  rw[X]at hc;exact h.GM m hm c hc
def SI.af(h:SI bd A P pd Ad o sg cl ol)(X:ol=none->isNum (A.j.Ac+1)=true/\A.j.Ac+1<=bd.1)(p:Pu)(O:Bo p):
 DI bd (A.af P p).2.2.2 (pd++[p]) Ad o/\((A.af P p).1=true->Reads bd (A.af P p).2.2.2 (pd++[p]) o)/\((A.af P p).1=false->DI bd (A.af P p).2.2.2 pd Ad o/\Reads bd (A.af P p).2.2.2 pd o)/\
  ((A.af P p).2.1=0->(A.af P p).1=true/\SI bd (A.af P p).2.2.1 (A.af P p).2.2.2 (pd++[p]) Ad o sg cl (some (ol.getD []++[p]))/\(A.af P p).2.2.1.AS=[]):=by
 unfold Ar.af;by_cases I:(A.I P).1=0
 ·rw[Af (nn I)];dsimp only
  have⟨hS,_⟩:=h.dz I;have Y:(A.I P).2.1 = {A with AS:=[]}:=by
   unfold Ar.I at I ⊢;split at I
   ·rename_i E;exact absurd I E
   ·rename_i E;rw[Af E]
  rw[Y];dsimp only
  generalize (A.I P).2.2=P1 at hS;cases ol with
  | none=>
   have z:=h.AZ.AB.1;have⟨⟨b1,b2⟩,b3⟩:=hS.aw rfl (X rfl).1 (X rfl).2;dsimp only at b1 b2 b3;by_cases E:(A.j.aw P1).1=0
   ·have⟨c1,c2⟩:=b3 E;have e:A.j.af P1 p=(A.j.aw P1).2.1.az (A.j.aw P1).2.2 p:=by
     unfold Jn.af;rw[Ai z,Af (nn E)]
    rw[e];have⟨d1,d2,d3⟩:=c1.az p O;refine⟨d1,λL=>(d2 L).2,d3,λd=>?_⟩;have⟨e1,e2⟩:=c1.eI p O d;exact⟨e1,e2,rfl⟩
   ·have e:A.j.af P1 p=(false,(A.j.aw P1).1,(A.j.aw P1).2.1,(A.j.aw P1).2.2):=by
     unfold Jn.af;rw[Ai z,Ai E]
    rw[e];exact⟨b1.ck [p],λL=>(by cases L),λ_=>⟨b1,b2⟩,λd=>absurd d E⟩
  | some l=>
   (have z:¬A.j.AB=none:=by rw[h.AZ.AB.1];simp);(have e:A.j.af P1 p=A.j.az P1 p:=by unfold Jn.af;rw[Af z]);rw[e];have⟨d1,d2,d3⟩:=hS.az p O;refine⟨d1,λL=>(d2 L).2,d3,λd=>?_⟩;have⟨e1,e2⟩:=hS.eI p O d;exact⟨e1,e2,rfl⟩
 ·rw[Ai I];have⟨u1,u2⟩:=h.dX;exact⟨u1.ck [p],λL=>(by cases L),λ_=>⟨u1,u2⟩,λd=>absurd d I⟩
end
section
variable{bd:Int×Int}{P P':PD}{V V':View}{A:Ar}{ix:Ix}{sg cl:gF (Int×gF Pu)}{lo:Option (Int×gF Pu)}{ol:Option (gF Pu)}{pd:gF Pu}{Ad:Nat}{o:Int}
def A2p{c:FC}{nm:Bs}{a:Int}{l:gF Pu}(d:Cd c)(h:c.1=Er nm a l):Fl c l=l.length:=by
 unfold Fl;unfold Cd at d;rw[d,h,JK];have:((12+21*l.length:Nat):Int).toNat=12+21*l.length:=iC
 rw[this];have:(12+21*l.length-12)/21=l.length:=iC
 omega
def Rs(d:P.aI.1=0):BB P.aI.2=[P.D.A6]/\P.aI.2.D.A6=P.D.A6/\P.aI.2.F=P.F/\P.aI.2.D.As=[]:=by
 unfold PD.aI Ef at d ⊢;dsimp only at d ⊢;rw[Ai d];exact⟨rfl,rfl,rfl,rfl⟩
def Jr(P:PD):P.aI.2.fl=P.fl:=by
 unfold PD.aI Ef PD.fl;dsimp only
 split<;>rfl
def Nb(h:P'.fl=P.fl)(m:Bs):P'.bs m=P.bs m:=by unfold PD.bs;rw[h]
def DI.Gp(h:DI bd P pd Ad o)(I:BB P=[P.D.A6]){d:Nat}(E:Holds bd P.fl pd d o):DI bd P pd d o:=
 ⟨λs z=>by rw[I]at z;simp at z;subst z;exact E,h.Aq,h.Ck,h.CG⟩
def SI.ae(h:SI bd A P pd Ad o sg cl ol):
 (DI bd (A.ae P).2.2 pd Ad o/\Reads bd (A.ae P).2.2 pd o)/\((A.ae P).1=0->SI bd (A.ae P).2.1 (A.ae P).2.2 pd pd.length o sg cl ol/\(A.ae P).2.1 = {A with AS:=[]}/\(A.ae P).2.2.D.As=[]):=by
 unfold Ar.ae;by_cases h1:(A.I P).1=0
 ·rw[Af (nn h1)];have⟨hS,hL⟩:=h.dz h1;have hA:(A.I P).2.1 = {A with AS:=[]}:=by
   unfold Ar.I at h1 ⊢;split at h1
   ·rename_i X;exact absurd h1 X
   ·rename_i X;rw[Af X]
  rw[hA];dsimp only
  generalize (A.I P).2.2=P1 at hS hL;have hj:∃d,A.j.ae P1=((A.j.ae P1).1,d)/\DI bd d pd Ad o/\(∀m,d.bs m=P1.bs m)/\(∀m,(∀c,P1.fl m=some c->Cd c)->∀c,d.fl m=some c->Cd c)/\(∀l f,ol=some l->EK bd P1 pd Ad o A.j.Ac f (Ax cl).length->EK bd d pd Ad o A.j.Ac f (Ax cl).length)/\
   ((A.j.ae P1).1=0->∀l,ol=some l->∀c,d.fl (Ah A.j.Ac)=some c->Cd c):=by
   cases ol with
   | none=>
    (have e:A.j.ae P1=(0,P1):=by unfold Jn.ae;rw[h.AZ.AB.1]);rw[e];exact⟨P1,rfl,hS.di,λ_=>rfl,λm L=>L,λl f e=>(by cases e),λ_ l e=>(by cases e)⟩
   | some l=>
    (have e:A.j.ae P1=P1.ae (Ab (Ah A.j.Ac)):=by unfold Jn.ae;rw[h.AZ.AB.1]);rw[e];exact⟨_,rfl,hS.di.cL _,λm=>On P1 _ m,λm L c E=>Om L E,λl f _ hO=>hO.cL _,λz l e c E=>Rp z c E⟩
  obtain⟨d,e2,d2,b2,k2,o2,m2⟩:=hj;have r2:=hS.bz.av b2;rw[e2];dsimp only
  by_cases X:(A.j.ae P1).1=0
  ·rw[Af (nn X)];dsimp only
   have d3:=d2.eH;have r3:=r2.av (Nb (Jr d));refine⟨⟨d3,r3⟩,λz=>?_⟩;have⟨s1,s2,s3,s4⟩:=Rs z;have hb:∀m,d.aI.2.bs m=P1.bs m:=λm=>(Nb (Jr d) m).trans (b2 m)
   have I:=hS.AZ.av hb;have Y:∀m,(m=AJ\/(∃x∈sg,m=AH x.1)\/∃x∈cl,m=Ah x.1)->∀c,d.aI.2.fl m=some c->Cd c:=λm L c E=>by
    rw[Jr]at E;exact k2 m (λc E=>(hS.GM m L c E).resolve_left iE) c E
   have aB:=I.bu h.Cw d3.El (λm c L E=>Y m L c E) h.Ey.1 d3.Az;(have aA:BB d.aI.2=[d.aI.2.D.A6]:=by rw[s1,s2]);have⟨nb,n1,n2,n3,n4⟩:=h.I9;have O:∀l,ol=some l->∃f,EK bd d.aI.2 pd pd.length o A.j.Ac f (Ax cl).length:=λl e=>by
    have⟨f,hO⟩:=hS.AB l e;have aD:=o2 l f e hO;refine⟨f,by rw[s2];exact aD.1,λs hs=>?_⟩;rw[s1]at hs;simp at hs;subst hs;refine .inr ⟨aD.1,?_⟩;subst e;have⟨c,c1,c2⟩:=J8 I.AB.2.2.1;(have aE:Cd c:=by rw[Jr]at c1;exact m2 X l rfl c c1);(have hl:l=pd.drop nb:=by simpa using n3);(have ha:c.1=Er (Ah A.j.Ac) ((Ax cl).length:Int) l:=by rw[c2];dsimp only;rw[h.AZ.GS]);(have hv:vw d.aI.2.F d.D.A6=d.aI.2.fl:=by rw[s3,Jr];rfl);rw[hv];refine⟨A.ix,sg,cl,l,nb,c,aB,n1,n2,c1,ha,rfl,?_,hl⟩;rw[A2p aE ha,hl,Cz];omega
   have hH:Holds bd d.aI.2.fl pd pd.length o:=by
    cases ol with
    | none=>
     have aF:nb=pd.length:=by
      (have:(pd.drop nb).length=0:=by rw[<-n3];rfl);rw[Cz]at this;omega
     exact Holds.bF aB (by rw[aF,C5]at n2;exact n2) (An _)
    | some l=>
     have⟨f,hO⟩:=O l rfl;rcases hO.2 d.aI.2.D.A6 (by rw[aA];simp) with hno|⟨_,hw⟩
     ·exact absurd rfl (hno _ (Eo hO.1))
     ·exact hw.cp
   refine⟨⟨d3.Gp aA hH,I,⟨nb,n1,n2,n3,λe=>?_⟩,λm L c E=>.inr (Y m L c E),O,h.Cw,h.Ey⟩,rfl,s4⟩;subst e;(have:(pd.drop nb).length=0:=by rw[<-n3];rfl);rw[Cz]at this;omega
  ·rw[Ai X];exact⟨⟨d2,r2⟩,λz=>absurd z X⟩
 ·rw[Ai h1];exact⟨h.dX,λz=>absurd z h1⟩
end
section
variable{bd:Int×Int}{P P':PD}{V V':View}{A:Ar}{ix:Ix}{sg cl:gF (Int×gF Pu)}{lo:Option (Int×gF Pu)}{ol:Option (gF Pu)}{pd:gF Pu}{Ad:Nat}{o:Int}
def SI.by(h:SI bd A P pd Ad o sg cl ol)(hL:Db bd P.fl A.ix sg cl (ol.map λl=>(A.j.Ac,l))):Dc bd P.fl A.ix sg cl (ol.map λl=>(A.j.Ac,l)) pd Ad o:=by
 have⟨nb,n1,n2,n3,n4⟩:=h.I9;refine⟨nb,hL,n1,n2,λn l e=>?_,λe=>?_⟩
 ·cases ol with
  | none=>cases e
  | some l0=>
   cases e;have⟨f,hO⟩:=h.AB l rfl;rcases hO.2 _ h.di.CG with E|⟨_,ix',sg',cl',l',L,c,_,hnb,_,g1,Y,_,g4,g5⟩
   ·exact absurd rfl (E _ (Eo hO.1))
   ·(have X:l=pd.drop nb:=by simpa using n3);have⟨c2,e1,e2⟩:=J8 h.AZ.AB.2.2.1;have I:c2=c:=by
     have z:P.fl (Ah A.j.Ac)=some c:=g1;rw[e1]at z;simpa using z
    subst I;have d:l.length=l'.length:=by
     have:=Ex List.length (e2.symm.trans Y);rw[JK,JK]at this;omega
    have O:nb=L:=by
     rw[X,g5,Cz,Cz]at d;omega
    refine⟨c2,e1,?_,by rw[X,C5]⟩;(have:Fl c2 l=Fl c2 l':=by unfold Fl;rw[d]);rw[this,O];exact g4
 ·cases ol with
  | none=>exact n4 rfl
  | some l=>cases e
def SI.fh(h:SI bd A P pd Ad o sg cl ol):C4 o (Ax sg++Ax cl++F7 (ol.map λl=>(A.j.Ac,l))) pd:=by
 have:=h.C9;unfold Bk at this;cases ol<;>simpa[F7,List.append_assoc] using this
def Dc.bF(h:Dc bd V ix sg cl lo pd Ad o)(d:C4 o (Ax sg++Ax cl++F7 lo) pd)(z:(Ax cl).length<=1099511627776):Whole bd V pd o:=⟨ix,sg,cl,lo,h.bu,z,d⟩
def Dc.sd{h:gF (Int×gF Pu)}(E:Db bd V ix h [] none)(z:C4 o (Ax h) pd)(d:Ad<=pd.length):Dc bd V ix h [] none pd Ad o:=
 ⟨pd.length,E,An _,by rw[C5];simpa[Ax] using z,λn l e=>(by cases e),λ_=>d⟩
def TB:∀(O:gF (gF Pu)) (d:Int) (I:gF Int) {P:PD},DI bd P pd Ad o->0<=d->d+O.length<=4611686018427387904->d+O.length<=bd.2->(PD.ao O d I P).1=0->
 (∀x∈C6 d O,∀c,(PD.ao O d I P).2.2.2.fl (AH x.1)=some c->Cd c)/\∀m,(∀x∈C6 d O,m≠AH x.1)->(PD.ao O d I P).2.2.2.fl m=P.fl m
 | [],d,I,P,_,_,_,_,_=>⟨λx E=>(by cases E),λm _=>rfl⟩
 | l::r,d,I,P,h,h0,h1,hb,hok=>by
  simp only[CA]at h1 hb;have L:PD.ao (l::r) d I P=if (P.aJ (d+1) l).1≠0 then ((P.aJ (d+1) l).1,d+1,I,(P.aJ (d+1) l).2) else PD.ao r (d+1) (I++[d+1]) (P.aJ (d+1) l).2:=rfl
  rw[L]at hok ⊢;by_cases Y:(P.aJ (d+1) l).1=0
  ·rw[Af (nn Y)]at hok ⊢;(have z:isNum (d+1)=true:=by unfold isNum;simp;omega);have hw:DI bd (P.aJ (d+1) l).2 pd Ad o:=h.aH (.inr ⟨d+1,⟨z,iC⟩,rfl⟩) _ _;have⟨i1,i2⟩:=TB r (d+1) (I++[d+1]) hw iC iC iC hok;have⟨e1,e2⟩:=KF P (AH (d+1)) (AI (AH (d+1))) (Cr l);have⟨e3,e4⟩:=e2 Y;have aA:∀x∈C6 (d+1) r,AH (d+1)≠AH x.1:=λx E e=>by
    have E:=Hb E;have:=Lu z (by unfold isNum;simp;omega) e;omega
   have aD:=Extra.fl h e1;refine⟨λx E c hc=>?_,λm hm=>?_⟩
   ·rcases BS.1 E with rfl|E
    ·rw[i2 _ aA]at hc;have:(P.aJ (d+1) l).2.fl (AH (d+1))=some ((P.aJ (d+1) l).2.F P.D.AW):=by
      unfold PD.fl;have aE:lookup (P.aJ (d+1) l).2.D.A6 (Ab (AH (d+1)))=some P.D.AW:=e3;rw[aE];rfl
     rw[this]at hc;cases hc;exact e4
    ·exact i1 x E c hc
   ·rw[i2 m λx E=>hm x (BC _ E)];have aB:=hm _ (BI ..);have X:(P.aJ (d+1) l).2.fl=P.fl\/(P.fl (AH (d+1))=none/\∀m,(P.aJ (d+1) l).2.fl m=if m=AH (d+1) then some ((P.aJ (d+1) l).2.F P.D.AW) else P.fl m):=aD;rcases X with e|⟨_,e⟩
    ·rw[e]
    ·rw[e,Af aB]
  ·rw[Ai Y]at hok;exact absurd hok Y
def WR{nm:Bs}{s:Nat}{l:Bs}(d:(P.aH nm s l).1=0):((P.aH nm s l).2.F P.D.AW).1=AT s l:=by
 unfold PD.aH at d ⊢;have⟨c1,c2⟩:=LO P nm;by_cases I:(P.aq (Ab nm)).1=0
 ·rw[Af (nn I)]at d ⊢;have O:=c2 I;by_cases E:((P.aq (Ab nm)).2.af (Ab nm) s l).2.1=0
  ·rw[Af (nn E)];(have X:(P.aq (Ab nm)).2.F P.D.AW=([],0):=by unfold PD.aq;simp[upd]);have Y:=VC (AT s l) O E;(have L:lookup ((P.aq (Ab nm)).2.au (Ab nm) (AT s l)).2.D.A6 (Ab nm)=some P.D.AW:=by rw[(Je (AT s l) O).1];exact O);have z:((P.aq (Ab nm)).2.af (Ab nm) s l).2.2=((P.aq (Ab nm)).2.au (Ab nm) (AT s l)).2:=rfl;rw[z];have⟨_,_,_,h⟩:=Jq L;rcases h with h|h
   ·rw[h,Y];simp[upd,X]
   ·rw[h,Y];simp[upd,X]
  ·rw[Ai E]at d;exact absurd d E
 ·rw[Ai I]at d;exact absurd d I
def DI.dj(h:DI bd P pd Ad o)(hT:Dc bd P.fl ix sg cl lo pd Ad o)(hW:C4 o (Ax sg++Ax cl++F7 lo) pd)(aE:(Ax cl).length<=1099511627776){d:Int}{z:gF (Int×gF Pu)}(Y:Io bd ⟨d,z.map (·.1)⟩ z)(aF:∀x∈z,((∀p∈x.2,Bo p)/\CE Cx x.2=true)/\∃c,P.fl (AH x.1)=some c/\Cd c/\c.1=AT (AI (AH x.1)) (Cr x.2))(aB:∀n,isNum n=true->d<=n->P.fl (Ah n)=none)(hs:C4 o (Ax z) pd)(X:Ad<=pd.length):
 DI bd (P.al d (z.map (·.1))).2 pd Ad o/\Reads bd (P.al d (z.map (·.1))).2 pd o/\((P.al d (z.map (·.1))).1=0->Dc bd (P.al d (z.map (·.1))).2.fl ⟨d,z.map (·.1)⟩ z [] none pd Ad o):=by
 have⟨e1,e2⟩:=KF P Bx (AI AJ) (Cp d (z.map (·.1)));have d1:DI bd (P.aH Bx (AI AJ) (Cp d (z.map (·.1)))).2 pd Ad o:=h.aH (.inl rfl) _ _;have t1:=hT.ez h e1 (.inl rfl);have aD:=Extra.fl h e1;unfold PD.al;by_cases h1:(P.aH Bx (AI AJ) (Cp d (z.map (·.1)))).1=0
 ·rw[Af (nn h1)];have⟨e3,e4⟩:=e2 h1;have L:=WR h1;obtain⟨E,aA⟩:=iG ((P.aH Bx (AI AJ) (Cp d (z.map (·.1)))).2);rw[aA]at L;rw[aA]at d1 t1 e3 e4 aD ⊢;have hV:Db bd (λm=>if m=AJ then some (E.F P.D.AW) else if m=Bx then none else E.fl m) ⟨d,z.map (·.1)⟩ z [] none:=by
   have I:∀m,m≠Bx->E.fl m=P.fl m:=λm hm=>by
    rcases aD with e|⟨_,e⟩
    ·rw[e]
    ·rw[e,Af hm]
   refine Db.fR (V:=E.fl) Y ⟨e4,L⟩ (λx hx=>?_) (λn k1 k2=>?_) t1.bu.EE t1.bu.El λ_=>rfl
   ·rw[I _ (ME _)];exact aF x hx
   ·rw[I _ (LB _)];exact aB n k1 k2
  have hB:=Dc.sd (Ad:=Ad) hV hs X;have d2:=d1.fo e3 hB.cp;have⟨a1,a2,a3⟩:=Sk (nw:=AJ) d1.bj e3;have aG:=(t1.bF hW aE).bz;rcases a3 with⟨b1,b2,b3⟩|⟨b1,b2⟩
  ·refine⟨d2,aG.av (Nb (by unfold PD.fl;rw[b1,a1])),λO=>absurd O b3⟩
  ·have hf:(E.aQ (Ab Bx) (Ab AJ)).2.fl=λm=>if m=AJ then some (E.F P.D.AW) else if m=Bx then none else E.fl m:=by
    funext m
    (have:(E.aQ (Ab Bx) (Ab AJ)).2.fl m=vw E.F ((E.D.A6.filter λe=>decide (e.1≠Ab Bx/\e.1≠Ab AJ))++[(Ab AJ,P.D.AW)]) m:=by unfold PD.fl vw;rw[b1,a1]);rw[this,R8 JL.symm];rfl
   rw[<-hf]at hB;exact⟨d2,(hB.bF (by simpa[Ax,F7] using hs) (by simp[Ax])).bz,λ_=>hB⟩
 ·rw[Ai h1];exact⟨d1,(t1.bF hW aE).bz,λO=>absurd O h1⟩
end
section
variable{bd:Int×Int}{P P':PD}{A:Ar}{ix:Ix}{sg cl:gF (Int×gF Pu)}{lo:Option (Int×gF Pu)}{ol:Option (gF Pu)}{pd:gF Pu}{Ad:Nat}{o:Int}
def Zd(h:Hz P)(x m:Bs):(P.aF (Ab x)).2.fl m=none\/(P.aF (Ab x)).2.fl m=P.fl m:=by
 have⟨a1,_,a3⟩:=Sr h (Ab x);rcases a3 with⟨d1,_,_⟩|⟨d1,_⟩
 ·exact .inr (by unfold PD.fl;rw[d1,a1])
 ·have:(P.aF (Ab x)).2.fl m=vw P.F (P.D.A6.filter λe=>decide (e.1≠Ab x)) m:=by unfold PD.fl vw;rw[d1,a1]
  rw[this,R9];by_cases e:m=x
  ·exact .inl (by rw[Ai e])
  ·exact .inr (by rw[Af e];rfl)
def Ss:∀(l:gF Bs) {P:PD},DI bd P pd Ad o->Dc bd P.fl ix sg cl lo pd Ad o->(∀m∈l,¬L7 ix sg m)->∀m,(PD.aN l P).2.fl m=none\/(PD.aN l P).2.fl m=P.fl m
 | [],P,_,_,_,m=>.inr rfl
 | x::r,P,h,hT,hm,m=>by
  have⟨h1,h2⟩:=h.eA hT (hm x (BI ..));have d:=Zd h.bj x m;unfold PD.aN;split
  ·exact d
  ·rcases Ss r h1 h2 (λy z=>hm y (BC _ z)) m with e|e
   ·exact .inl e
   ·rw[e];exact d
def ZS(L:Dc bd P.fl A.ix sg cl lo pd Ad o)(E:A.j.Ao=cl.map (·.1)++(lo.map (·.1)).toList)(d:sg.map (·.1)=A.ix.sd):∀m∈A.aU P,¬L7 A.ix sg m:=λm h O=>by
 have⟨h1,h2⟩:=Jy.1 h;refine h2 ?_;unfold Ar.Az;rcases O with rfl|⟨x,X,rfl⟩|⟨n,Y,z,rfl⟩
 ·simp
 ·refine HW _ (Ej ?_);rw[<-d];exact Ej X
 ·refine G9 _ (BC _ (Ej ?_));rw[E];refine L.bu.C9 n Y z λI=>h1 ?_;unfold PD.bs;rw[I];rfl
def SI.aG(h:SI bd A P pd Ad o sg cl ol)(L:gF (Int×gF Pu))(E:gF (gF Pu))(aI:∀x∈L,x∈sg)(aF:(L.map (·.1)).Pairwise (· < ·))(hf:∀l∈E,(∀p∈l,Bo p)/\CE Cx l=true)(hn:isNum (A.j.Ac+1)=true)(aE:A.Ac+E.length<=4611686018427387904)(a4:∀l∈E,l≠[])(aO:A.Ac+E.length<=bd.2)(hs:C4 o (Ax (L++C6 A.Ac E)) pd)(hbig:A.AS.length+P.Az.length+Du E+E.length+A.j.Ao.length+sg.length+L.length<=1099511627776):
 (DI bd (A.aG P (L.map (·.1)) E).2.2 pd Ad o/\Reads bd (A.aG P (L.map (·.1)) E).2.2 pd o)/\
  ((A.aG P (L.map (·.1)) E).1=0->SI bd (A.aG P (L.map (·.1)) E).2.1 (A.aG P (L.map (·.1)) E).2.2 pd pd.length o (L++C6 A.Ac E) [] none/\
    (A.aG P (L.map (·.1)) E).2.1=⟨⟨A.j.Ac+1,(L++C6 A.Ac E).map (·.1)⟩,⟨[],A.j.Ac,0,none⟩,A.Ac+E.length,[]⟩/\
    (∀m,(A.aG P (L.map (·.1)) E).2.2.bs m≠none->m∈AJ::(L++C6 A.Ac E).map λx=>AH x.1)/\(A.aG P (L.map (·.1)) E).2.2.D.As=[]):=by
 have a2:P.aP.dl=P.Az.length:=by rw[Jb];rfl
 have aA:(A.aG P (L.map (·.1)) E).1=0->(A.aG P (L.map (·.1)) E).2.1=⟨⟨A.j.Ac+1,(L++C6 A.Ac E).map (·.1)⟩,⟨[],A.j.Ac,0,none⟩,A.Ac+E.length,[]⟩/\
  Lay (A.aG P (L.map (·.1)) E).2.2 (A.aG P (L.map (·.1)) E).2.1 (L++C6 A.Ac E) [] none/\∀m,(A.aG P (L.map (·.1)) E).2.2.bs m≠none->m∈AJ::(L++C6 A.Ac E).map λx=>AH x.1:=λz=>by
  have⟨r1,r2,r3,r4⟩:=(AK.aP P).aG (A:=A) (N:=0) (R:=0) (L.map (·.1)) E (h.di.bj.aP.ah (by rw[a2];omega) (by simp;omega)) z;have⟨q1,q2,q3,q4,q5⟩:=(h.AZ.av (P':=P.aP) λm=>((AK.aP P).bs m).symm).aG (N:=0) (R:=0) (K:=P.Az.length) L E (h.di.bj.aP.ah iC iC) (by rw[Jb,a2];exact An _) aI aF hf hn aE;refine⟨by rw[r2,q2],by rw[r2];exact q4.av λm=>r3.bs m,λm hm=>q5 m (by rw[<-r3.bs];exact hm)⟩
 obtain⟨Y,aJ⟩:=iG (L++C6 A.Ac E);have aQ:Y.map (·.1)=L.map (·.1)++(C6 A.Ac E).map (·.1):=by rw[<-aJ,EM]
 have aP:∀x∈Y,x.2≠[]:=λx I=>by
  rw[<-aJ]at I;rcases AX.1 I with I|I
  ·exact h.Ey.1.2.2 x (aI x I)
  ·exact a4 _ (Hb I).2.2
 rw[aJ]at hs aA ⊢;have key:∃t:Int×Ar×PD,A.aG P (L.map (·.1)) E=t/\(DI bd t.2.2 pd Ad o/\Reads bd t.2.2 pd o)/\(t.1=0->t.2.2.D.As=[]/\BB t.2.2=[t.2.2.D.A6]/\∃a3 X,Dc bd t.2.2.fl a3 X [] none pd Ad o/\X.map (·.1)=Y.map (·.1)/\C4 o (Ax X) pd):=by
  unfold Ar.aG;dsimp only
  by_cases h1:(A.I P).1=0
  ·rw[Af (nn h1)];have⟨hS,hL⟩:=h.dz h1;have hA:(A.I P).2.1 = {A with AS:=[]}:=by
    unfold Ar.I at h1 ⊢;split at h1
    ·rename_i h2;exact absurd h1 h2
    ·rename_i h2;rw[Af h2]
   have aG:=Ow A P;rw[hA];generalize (A.I P).2.2=P1 at hS hL aG;(have aW:=hS.by hL);have hall:=h.fh;have hj:({A with AS:=[]}:Ar).j.Ao=cl.map (·.1)++(Option.map (·.1) (ol.map λl=>(A.j.Ac,l))).toList:=by
    dsimp only
    rw[h.AZ.bX];cases ol<;>simp[shut]
   have a5:=ZS (A:={A with AS:=[]}) aW hj h.AZ.sd;have⟨d2,t2⟩:=hS.di.ay (A:={A with AS:=[]}) aW hj h.AZ.sd;have aD:∀m,(({A with AS:=[]}:Ar).ay P1).2.fl m=none\/(({A with AS:=[]}:Ar).ay P1).2.fl m=P1.fl m:=Ss _ hS.di aW a5;generalize hP2:({A with AS:=[]}:Ar).ay P1=SW at d2 t2 aD ⊢;obtain⟨c2,a1⟩:=SW;dsimp only at d2 t2 aD ⊢;have r2:Reads bd a1 pd o:=(t2.bF hall h.Cw).bz;by_cases h2:c2=0
   ·rw[Af (nn h2)];have h0:=h.AZ.EO.1;have d3:=DI.ao E A.Ac (L.map (·.1)) d2 h0 aE aO;have t3:=Dc.ao E A.Ac (L.map (·.1)) d2 t2 h0 aE aO;have aB:=TB E A.Ac (L.map (·.1)) d2 h0 aE aO;have aR:∀n,isNum n=true->A.Ac<n->a1.bs (AH n)=none:=λn k1 k2=>by
     rcases aD (AH n) with e|e
     ·unfold PD.bs;rw[e];rfl
     ·(have:a1.bs (AH n)=P.bs (AH n):=by unfold PD.bs;rw[e];have:=aG (AH n);unfold PD.bs at this;exact this);rw[this];cases I:P.bs (AH n) with
      | none=>rfl
      | some c=>have:=h.AZ.EO.2 n k1 (by rw[I];simp);omega
    have aH:=λz=>AK.ao (N:=0) (R:=0) E A.Ac (L.map (·.1)) (AK.aP a1) (d2.bj.aP.ah iC iC) z;have⟨w1,w2,w3,w4,w5,w6⟩:=Cm.ao (N:=0) (R:=0) E A.Ac (L.map (·.1)) (d2.bj.aP.ah iC iC) h0 aE (λn k1 k2=>by rw[<- (AK.aP a1).bs];exact aR n k1 k2);generalize hP3:PD.ao E A.Ac (L.map (·.1)) a1=NS at d3 t3 aB aH ⊢;obtain⟨c3,a8,a7,a0⟩:=NS;dsimp only at d3 t3 aB aH ⊢;have r3:=(t3.bF hall h.Cw).bz;by_cases h3:c3=0
    ·rw[Af (nn h3)];have⟨x1,x2,x3,x4,_⟩:=aH h3;have⟨y1,y2⟩:=aB h3;(have aK:a8=A.Ac+E.length:=by rw[x2,w2]);(have aL:a7=Y.map (·.1):=by rw[x3,w3,aQ]);rw[aK,aL];have aX:∀x∈Y,isNum x.1=true:=λx I=>by
      rw[<-aJ]at I;rcases AX.1 I with I|I
      ·exact h.AZ.dm (aI x I)
      ·have:=Hb I;unfold isNum;simp;omega
     have aM:(Y.map (·.1)).Pairwise (· < ·):=by
      rw[aQ];refine EL.2 ⟨aF,P8,λa ha b hb=>?_⟩;obtain⟨x,I,rfl⟩:=Cn.1 ha;obtain⟨y,hy,rfl⟩:=Cn.1 hb;have k1:=h.AZ.dr (aI x I);have k2:=Hb hy;omega
     have aV:Io bd ⟨A.j.Ac+1,Y.map (·.1)⟩ Y:=⟨⟨hn,λn hm=>by obtain⟨x,I,rfl⟩:=Cn.1 hm;exact aX x I,Ju.2 aM⟩,by have:=h.Ey.2.1;dsimp only;omega,aP⟩;have aS:∀x∈Y,((∀p∈x.2,Bo p)/\CE Cx x.2=true)/\∃c,a0.fl (AH x.1)=some c/\Cd c/\c.1=AT (AI (AH x.1)) (Cr x.2):=λx I=>by
      rw[<-aJ]at I;rcases AX.1 I with I|I
      ·exact t3.bu.CD x (aI x I)
      ·refine⟨hf _ (Hb I).2.2,?_⟩;(have hb:a0.bs (AH x.1)=some (AT (AI (AH x.1)) (Cr x.2)):=by rw[x4.bs];exact w5 x I);have⟨c,k1,k2⟩:=J8 hb;exact⟨c,k1,y1 x I c k1,k2⟩
     have aU:∀n,isNum n=true->A.j.Ac+1<=n->a0.fl (Ah n)=none:=λn k1 k2=>by
      rw[y2 _ λx _=>Gv n x.1];rcases aD (Ah n) with e|e
      ·exact e
      ·rw[e];refine Jc.1 ?_;rw[aG];cases I:P.bs (Ah n) with
       | none=>rfl
       | some c=>have:=h.AZ.F9.2.2 n k1 (by rw[I];simp);omega
     have aT:∃aZ,∃c4,∃aN:Ar,(({A with AS:=[],Ac:=A.Ac+E.length}:Ar).al a0 (Y.map (·.1)))=(c4,aN,aZ)/\DI bd aZ pd Ad o/\Reads bd aZ pd o/\(c4=0->aN.j.Ao=[]/\∃X,Dc bd aZ.fl aN.ix X [] none pd Ad o/\X.map (·.1)=aN.ix.sd/\aN.ix.sd=Y.map (·.1)/\C4 o (Ax X) pd):=by
      unfold Ar.al;dsimp only
      by_cases O:A.ix.Bd=A.j.Ac+1/\A.ix.sd=Y.map (·.1)
      ·rw[Ai O];have aY:cl=[]:=by
        cases aY:cl with
        | nil=>rfl
        | cons x r=>
         (have I:x∈cl:=by rw[aY];exact BI ..);have k1:=h.AZ.Fb.1 x I;have k2:=(h.AZ.D7 x I).1.2;have:=O.1;omega
       have a6:ol=none:=by
        cases ol with
        | none=>rfl
        | some l=>have:=h.AZ.Fb.2 iE;have:=O.1;omega
       subst aY a6;refine⟨a0,0,_,rfl,d3,r3,λ_=>⟨?_,sg,t3,h.AZ.sd,O.2,?_⟩⟩
       ·have:=h.AZ.AB.2;simpa using this
       ·simpa[Ax,F7] using hall
      ·rw[Af O];have⟨u1,u2,u3⟩:=d3.dj t3 hall h.Cw aV aS aU hs h.dV;by_cases h4:(a0.al (A.j.Ac+1) (Y.map (·.1))).1=0
       ·rw[Af (nn h4)];exact⟨_,_,_,rfl,u1,u2,λ_=>⟨rfl,Y,u3 h4,rfl,rfl,hs⟩⟩
       ·rw[Ai h4];exact⟨_,_,_,rfl,u1,u2,λz=>absurd z h4⟩
     obtain⟨aZ,c4,aN,e4,d4,r4,k4⟩:=aT;rw[e4];dsimp only
     by_cases h4:c4=0
     ·rw[Af (nn h4)];have⟨j1,X,j2,j3,j4,j5⟩:=k4 h4;have⟨d5,t5⟩:=d4.ay (A:=aN) j2 (by rw[j1];rfl) j3;unfold Ar.a8;generalize hP5:aN.ay aZ=S5 at d5 t5 ⊢;obtain⟨c5,a9⟩:=S5;dsimp only at d5 t5 ⊢;have r5:=(t5.bF (by simpa[Ax,F7] using j5) (by simp[Ax])).bz;by_cases h5:c5=0
      ·rw[Af (nn h5)];refine⟨_,rfl,⟨d5.eH,r5.av (Nb (Jr a9))⟩,λz=>?_⟩;have⟨s1,s2,s3,s4⟩:=Rs z;refine⟨s4,by dsimp only;rw[s1,s2],aN.ix,X,?_,by rw[j3,j4],j5⟩;dsimp only
       rw[Jr];exact t5
      ·rw[Ai h5];exact⟨_,rfl,⟨d5,r5⟩,λz=>absurd z h5⟩
     ·rw[Ai h4];exact⟨_,rfl,⟨d4,r4⟩,λz=>absurd z h4⟩
    ·rw[Ai h3];exact⟨_,rfl,⟨d3,r3⟩,λz=>absurd z h3⟩
   ·rw[Ai h2];exact⟨_,rfl,⟨d2,r2⟩,λz=>absurd z h2⟩
  ·rw[Ai h1];exact⟨_,rfl,h.dX,λz=>absurd z h1⟩
 obtain⟨t,ht,k1,k2⟩:=key;rw[ht]at aA ⊢;refine⟨k1,λz=>?_⟩;have⟨g1,g2,g3⟩:=aA z;have⟨m1,m2,a3,X,m3,m4,m5⟩:=k2 z;refine⟨⟨k1.1.Gp m2 (Holds.bF m3.bu (by simpa[Ax] using m5) (An _)),g2,⟨pd.length,An _,by rw[C5];simpa[Ax] using hs,iE,λ_=>An _⟩,λm hm c hc=>.inr ?_,λl e=>(by cases e),by simp[Ax],⟨g2.E4,by rw[g1];have:=h.Ey.2.1;dsimp only;omega,aP⟩,by rw[g1];exact h.Ey.2.1,by rw[g1];exact aO⟩,g1,g3,m1⟩;rcases hm with rfl|⟨x,I,rfl⟩|⟨x,I,_⟩
 ·rcases m3.bu.J6 with⟨q1,_⟩|⟨d,q1,q2,_⟩
  ·rw[q1]at hc;cases hc
  ·rw[q1]at hc;cases hc;exact q2
 ·have:x.1∈X.map (·.1):=by rw[m4];exact Ej I
  have⟨y,hy,e⟩:=Cn.1 this;have⟨_,d,q1,q2,_⟩:=m3.bu.CD y hy;rw[e]at q1;rw[q1]at hc;cases hc;exact q2
 ·cases I
end
section
variable{bd:Int×Int}{P P':PD}{A:Ar}{ix:Ix}{sg cl:gF (Int×gF Pu)}{lo:Option (Int×gF Pu)}{ol:Option (gF Pu)}{pd:gF Pu}{Ad:Nat}{o:Int}{wa:Int}
def SI.aR(h:SI bd A P pd Ad o sg cl ol)(hw:BZ (AE wa))(hn:isNum (A.j.Ac+1)=true){n:Nat}(hcount:(Bk sg cl ol).length<=n)(hn2:n<=1073741824)(hln:A.Ac+n<=4611686018427387904)(hlb:A.Ac+n<=bd.2)(hbig:A.AS.length+P.Az.length+A.j.Ao.length+2*sg.length<=1073741824):
 (DI bd (A.aR P wa).2.2 pd Ad o/\Reads bd (A.aR P wa).2.2 pd o)/\
  ((A.aR P wa).1=0->∃z,SI bd (A.aR P wa).2.1 (A.aR P wa).2.2 pd pd.length o z [] none/\(A.aR P wa).2.1=⟨⟨A.j.Ac+1,z.map (·.1)⟩,⟨[],A.j.Ac,0,none⟩,(A.aR P wa).2.1.Ac,[]⟩/\(A.aR P wa).2.1.Ac<=A.Ac+n/\(Ax z).length<=n/\z.length<=sg.length+n/\
    (∀m,(A.aR P wa).2.2.bs m≠none->m∈AJ::z.map λx=>AH x.1)/\(A.aR P wa).2.2.D.As=[]):=by
 have X:(Bk sg cl ol).length=(Ax sg).length+(Ax cl++ol.getD []).length:=by unfold Bk;rw[B3]
 have E:=h.AZ.pd h.Cw;have d:=Iy hw (Ax cl++ol.getD []);generalize O:C3 wa (Ax cl++ol.getD [])=fe at d;have hfl:=I7 d.ne;have hfl2:=d.Be;have hcost:=Kl fe;have e:A.aR P wa=A.aG P (sg.map (·.1)) fe:=by
  unfold Ar.aR;rw[E,Af iE,O,h.AZ.sd]
 have I:Ax (sg++C6 A.Ac fe)=Ax sg++fe.flatten:=by
  have:=@Lt fe A.Ac;unfold Ax at this ⊢;rw[Wo,this]
 have L:C4 o (Ax (sg++C6 A.Ac fe)) pd:=by
  rw[I];refine C4.AF (C4.eX (λk t _=>?_) (λp E=>?_) ?_) h.C9
  ·unfold Bk;rw[Hc,Hc,d.Ac]
  ·rcases AX.1 E with E|E
   ·exact G9 _ E
   ·exact HW _ (d.DG p E)
  ·rw[X,B3];omega
 have⟨r1,r2⟩:=h.aG sg fe (λ_ h=>h) (Ju.1 (by rw[h.AZ.sd];exact h.AZ.E4.Fj)) (λl hl=>⟨λp E=>h.AZ.b5 p (d.DG p (KV.2 ⟨l,hl,E⟩)),d.Fj hl⟩) hn iC d.ne iC L iC;rw[e];refine⟨r1,λY=>?_⟩;have⟨q1,q2,q3,q4⟩:=r2 Y;refine⟨_,q1,by rw[q2],by rw[q2];dsimp only;omega,by rw[I,B3];omega,by rw[B3,MZ];omega,q3,q4⟩
def SI.aM(h:SI bd A P pd Ad o sg cl ol)(hw:BZ (AE wa))(hn:isNum (A.j.Ac+1)=true){n:Nat}(hcount:(Bk sg cl ol).length<=n)(hn2:n<=1073741824)(hln:A.Ac+n<=4611686018427387904)(hlb:A.Ac+n<=bd.2)(hbig:A.AS.length+P.Az.length+A.j.Ao.length+2*sg.length<=1073741824):
 (DI bd (A.aM P wa o).2.2 pd Ad o/\Reads bd (A.aM P wa o).2.2 pd o)/\
  ((A.aM P wa o).1=0->∃aE,SI bd (A.aM P wa o).2.1 (A.aM P wa o).2.2 pd pd.length o aE [] none/\(A.aM P wa o).2.1=⟨⟨A.j.Ac+1,aE.map (·.1)⟩,⟨[],A.j.Ac,0,none⟩,(A.aM P wa o).2.1.Ac,[]⟩/\(A.aM P wa o).2.1.Ac<=A.Ac+n/\
    (aE.map (·.2)).Perm (Ei o (C3 wa (Bk sg cl ol)))/\(∀m,(A.aM P wa o).2.2.bs m≠none->m∈AJ::aE.map λx=>AH x.1)/\(A.aM P wa o).2.2.D.As=[]):=by
 have hl0:(Bk sg cl ol).length=(Ax sg).length+(Ax cl++ol.getD []).length:=by unfold Bk;rw[B3]
 have O:=h.AZ.pd h.Cw;have d:=Iy hw (Bk sg cl ol);obtain⟨ws,aJ⟩:=iG (C3 wa (Bk sg cl ol));rw[aJ]at d;obtain⟨k0,aI⟩:=iG (Hd sg o ws);obtain⟨L,aK⟩:=iG ((BY sg o ws).2);have z:=LC sg o ws;rw[aI,aK]at z;obtain⟨E,aL⟩:=iG (k0.mergeSort (λx y=>decide (x.1<=y.1)));have aD:E.Perm k0:=by rw[<-aL];exact A4I _ _
 have aU:E.map (·.1)=((BY sg o ws).1).mergeSort λx y=>decide (x<=y):=by
  rw[LD,aI,<-aL,A4M (s:=λx y:Int=>decide (x<=y))];intro a _ b _;rfl
 have X:∀x∈E,x∈sg/\x.2∈ws:=λx hx=>LF (by rw[aI];exact aD.mem_iff.1 hx);have aR:(Ei o ws).Nodup:=by
  have h1:(Ei o ws).Pairwise λw w'=>∀p∈w,∀q∈w',BH p.2.1 wa<BH q.2.1 wa:=d.LY.sublist HF;have Y:∀w∈Ei o ws,w≠[]:=λw hw=>d.ne w (Nz hw);clear z;generalize Ei o ws=v at h1 Y
  induction v with
  | nil=>simp
  | cons w r ih=>
   have aQ:=Dl.1 h1;refine K3.2 ⟨λhm=>?_,ih aQ.2 λx hx=>Y x (BC _ hx)⟩;have⟨p,O⟩:=A4V w (Y w (BI ..));have:=aQ.1 w hm p O p O;omega
 have aP:(E.map (·.2)).Nodup:=by
  have h1:(k0.map (·.2)++L).Nodup:=z.nodup_iff.2 aR;have Y:=(Hl.1 h1).1;exact(aD.map (·.2)).nodup_iff.2 Y
 have aN:(sg.map (·.1)).Pairwise (· < ·):=Ju.1 (by rw[h.AZ.sd];exact h.AZ.E4.Fj);have aG:∀x∈sg,∀y∈sg,x.1=y.1->x=y:=λx hx y hy e=>by
  obtain⟨i,hi,rfl⟩:=DD hx;obtain⟨j,hj,rfl⟩:=DD hy;have O:=K1.1 aN;rcases Qt i j with aA|aA|aA
  ·have:=O i j (by simpa using hi) (by simpa using hj) aA;simp at this;omega
  ·subst aA;rfl
  ·have:=O j i (by simpa using hj) (by simpa using hi) aA;simp at this;omega
 have aB:(E.map (·.1)).Pairwise (· < ·):=by
  have h1:E.Pairwise λx y=>x.1<=y.1:=by
   have:=Wh (le:=λx y:Int×gF Pu=>decide (x.1<=y.1)) (λa b c h1 Y=>by simp at *;omega) (λa b=>by simp;omega) k0;rw[aL]at this;(exact this.imp λh=>by simpa using h)
  have Y:E.Pairwise λx y=>x.2≠y.2:=KR.1 aP;rw[KR];have h3:=h1.and Y;refine A4Y (λ{a b} ha hb aO=>?_) h3;rcases A42 aO.1 with h|h
  ·exact h
  ·exact absurd (Ex Prod.snd (aG a (X a ha).1 b (X b hb).1 h)) aO.2
 have aF:∀l∈L,l∈ws:=λl hl=>Ky (by rw[aK];exact hl);have I:(Ax E++L.flatten).Perm (Ei o ws).flatten:=by
  have h1:(E.map (·.2)++L).Perm (Ei o ws):=((aD.map (·.2)).append_right _).trans z;have Y:=h1.flatten;rw[Wn]at Y;have e:(E.map (·.2)).flatten=Ax E:=by unfold Ax;rw[NW]
  rwa [e]at Y
 have hfl:L.length<=L.flatten.length:=I7 λw hw=>d.ne w (aF w hw);have hcnt:L.flatten.length<=n:=by
  have h1:=I.length_eq;have Y:(Ei o ws).flatten.length<=ws.flatten.length:=(JN _ ws).length_le;have h3:=d.Be;rw[B3]at h1;omega
 have hkl:E.length<=sg.length:=by
  have:(E.map (·.1)).length<=(sg.map (·.1)).length:=IW (aB.imp λh=>WA h) λx hx=>by
   obtain⟨y,hy,rfl⟩:=Cn.1 hx;exact Ej (X y hy).1
  simpa using this
 have hcost:=Kl L;have aH:∀p∈Bk sg cl ol,Bo p:=λp O=>by
  rcases AX.1 O with O|O
  ·exact h.AZ.dh p O
  ·exact h.AZ.b5 p O
 have e:A.aM P wa o=A.aG P (E.map (·.1)) L:=by
  unfold Ar.aM;rw[h.AZ.cu];dsimp only
  have e2:sg.flatMap (·.2)++(P.pd A.j.Ao).1=Bk sg cl ol:=by rw[O];rfl
  rw[e2,aJ,<-aU,aK,O,Af iE]
 have aS:Ax (E++C6 A.Ac L)=Ax E++L.flatten:=by
  have:=@Lt L A.Ac;unfold Ax at this ⊢;rw[Wo,this]
 have aT:C4 o (Ax (E++C6 A.Ac L)) pd:=by
  rw[aS];refine C4.AF (C4.eX (λk t ht=>?_) (λp O=>?_) ?_) h.C9
  ·rw[<- (d.dw o).ey I.symm k t,Uc d o k t ht]
  ·exact d.DG p ((JN _ ws).subset (I.mem_iff.1 O))
  ·rw[I.length_eq];exact AO (JN _ ws).length_le d.Be
 have⟨r1,r2⟩:=h.aG E L (λx hx=>(X x hx).1) aB (λl hl=>⟨λp O=>aH p (d.DG p (KV.2 ⟨l,aF l hl,O⟩)),d.Fj (aF l hl)⟩) hn iC (λl hl=>d.ne l (aF l hl)) iC aT iC;have aM:(C6 A.Ac L).map (·.2)=L:=by
  have aV:∀(l:gF (gF Pu)) (a:Int),(C6 a l).map (·.2)=l:=by
   intro l
   induction l with
   | nil=>intro a;rfl
   | cons x r ih=>intro a;simp[C6,ih]
  exact aV _ _
 rw[e,aJ];refine⟨r1,λaH=>?_⟩;have⟨q1,q2,q3,q4⟩:=r2 aH;refine⟨_,q1,by rw[q2],by rw[q2];dsimp only;omega,?_,q3,q4⟩;rw[EM,aM];exact((aD.map (·.2)).append_right _).trans z
def A0m{l:gF Pu}(h:Ar.aT P=.ok (A,l)):A.j.Ac=(BV A.ix.Bd P.Az).getLastD (A.ix.Bd-1)/\A.Ac=(P.Az.filterMap λnm=>if (Br nm).1=2 then some (Br nm).2 else none).getLastD 0/\A.j.AB=none:=by
 unfold Ar.aT at h;split at h
 ·cases h
 ·split at h
  ·cases h
  ·split at h
   ·cases h
   ·split at h
    ·cases h
    ·cases h;exact⟨rfl,rfl,rfl⟩
def UI{l:gF Int}{d b:Int}(h:∀x∈l,x<=b)(z:d<=b):l.getLastD d<=b:=by
 rcases Mk l with rfl|⟨r,x,rfl⟩
 ·exact z
 ·have e:(r.concat x).getLastD d=x:=by rw[KX];simp
  rw[e];exact h x iE
def DI.fq(h:DI bd P pd Ad o)(I:0<=bd.2){l:gF Pu}(E:Ar.aT P=.ok (A,l))(hx:A.ix.Bd<=bd.1+1):A.j.Ac<=bd.1/\A.Ac<=bd.2:=by
 have⟨h1,h2,_⟩:=A0m E;have z:∀nm∈P.Az,FU bd nm:=λnm d=>h.Az nm λe=>HL.1 d (Jc.2 e);rw[h1,h2];refine⟨UI (λx d=>?_) iC,UI (λx d=>?_) I⟩
 ·unfold BV at d;have⟨nm,hm2,e⟩:=Mg.1 d;split at e
  ·rename_i q;cases e;exact(z nm hm2).2.1 q.1
  ·cases e
 ·have⟨nm,hm2,e⟩:=Mg.1 d;split at e
  ·rename_i q;cases e;exact(z nm hm2).2.2 q
  ·cases e
def AK.aT{P Q:PD}(h:AK P Q):Ar.aT P=Ar.aT Q:=by
 unfold Ar.aT PD.ba PD.bV Ar.aX;simp only[h.aY,h.Az,h.sd,h.pd]
def SI.aT(O:DI bd P pd Ad o)(h0:0<=bd.2)(hr:Reads bd P pd o)(E:Ad<=pd.length)(hpl:pd.length<=1099511627776):
 ∃A' sg cl,Ar.aT P=.ok (A',Bk sg cl none)/\SI bd A' P pd Ad o sg cl none/\C4 o (Bk sg cl none) pd/\A'.AS=A'.aX P:=by
 obtain⟨A,sg,cl,ol,hL,hs,I⟩:=hr;have h:=hs.2.2;unfold Bk at h;rw[B3,B3]at h;have Y:(Ax cl).length+(ol.getD []).length<=1099511627776:=iC
 have aA:=hL.av λm=>((AK.aP P).bs m).symm
 have⟨A',h1,h2,h3,h4,h5,h6⟩:=aA.aT O.bj.aP iC;have d:=(AK.aP P).aT;have hc:A'.aX P.aP=A'.aX P:=rfl;have z:=h2.av λm=>(AK.aP P).bs m
 have hall:Bk sg (shut cl A.j.Ac ol) none=Bk sg cl ol:=by unfold Bk;rw[Ou];simp
 have L:C4 o (Bk sg (shut cl A.j.Ac ol) none) pd:=by rw[hall];exact hs
 refine⟨A',sg,_,by rw[d,hall];exact h1,⟨O,z,⟨pd.length,An _,by rw[C5];simpa[Bk] using L,iE,λ_=>E⟩,λm hm c X=>.inl ?_,λl e=>(by cases e),by rw[Ou,B3];exact Y,by rw[h3];exact I,O.fq h0 (by rw[d];exact h1) (by rw[h3];exact I.2.1)⟩,L,by rw[h6,hc]⟩;rw[h6,hc];unfold Ar.aX;refine H3.2 ⟨HL.2 (by rw[Qi X];simp),?_⟩;simp only[Ea];unfold Ar.Az;rcases hm with rfl|⟨x,hx,rfl⟩|⟨x,hx,rfl⟩
 ·simp
 ·refine HW _ (Ej ?_);rw[<-z.sd];exact Ej hx
 ·refine G9 _ (BC _ (Ej ?_));rw[z.AB.2];exact Ej hx
end
def PD.a6(P:PD)(da:Int)(d:gF Int):PD:=⟨(Fm P.D P.F da d).1,(Fm P.D P.F da d).2⟩
def Q7{c:FC}(h:0<=c.2/\c.2<=c.1.length)(t:Int):∃j:Nat,c.2<=j/\j<=c.1.length/\G5 c t=(c.1.take j,(j:Int)):=by
 have hp:=Kt t (c.1.length-c.2.toNat);refine⟨c.2.toNat+G3 t (c.1.length-c.2.toNat),iC,iC,?_⟩;unfold G5;dsimp only
 rw[BK,JY iC]
def A2W{c:FC}(h:0<=c.2/\c.2<=c.1.length)(t d:Int):G5 (G5 c t) d=G5 c t:=by
 have⟨j,h1,h2,h3⟩:=Q7 h t;rw[h3];unfold G5;have z:(c.1.take j).length=j:=by rw[BK];omega
 have E:G3 d ((c.1.take j).length-((j:Int)).toNat)=0:=by
  have:=Kt d ((c.1.take j).length-((j:Int)).toNat);rw[z]at this ⊢;simp at this ⊢;omega
 dsimp only
 rw[E,Qv,EX];have:(c.1.take j).take j=c.1.take j:=by rw[KQ];simp
 rw[this,z]
section
variable{bd:Int×Int}{P P':PD}{V V':View}{ix:Ix}{sg cl:gF (Int×gF Pu)}{lo:Option (Int×gF Pu)}{pd:gF Pu}{Ad:Nat}{o:Int}
def V8(s:gF AP)(I:gF Int)(names:gF gE)(F:Nat->FC)(hr:∀e∈s,0<=(F e.2).2/\(F e.2).2<=(F e.2).1.length):∀k,∀e∈s,(Eg s I names F k e.2=F e.2/\∀j,j<k->∀nm,names[j]?=some nm->lookup s nm≠some e.2)\/∃t,Eg s I names F k e.2=G5 (F e.2) t:=by
 intro k
 induction k with
 | zero=>intro e _;exact .inl ⟨rfl,λj hj=>iC⟩
 | succ k ih=>
  intro e he;have L:=ih e he;simp only[Eg];cases hn:names[k]? with
  | none=>
   dsimp only
   rcases L with⟨z,X⟩|z
   ·refine .inl ⟨z,λj hj nm d=>?_⟩;by_cases E:j=k
    ·subst E;rw[hn]at d;cases d
    ·exact X j iC nm d
   ·exact .inr z
  | some nm=>
   dsimp only
   cases hl:lookup s nm with
   | none=>
    dsimp only
    rcases L with⟨z,X⟩|z
    ·refine .inl ⟨z,λj hj O d=>?_⟩;by_cases E:j=k
     ·subst E;rw[hn]at d;cases d;rw[hl];simp
     ·exact X j iC O d
    ·exact .inr z
   | some f=>
    dsimp only
    by_cases Y:e.2=f
    ·subst Y;refine .inr ?_;simp only[upd,Cs];rcases L with⟨z,_⟩|⟨t,z⟩
     ·exact⟨_,by rw[z]⟩
     ·exact⟨t,by rw[z,A2W (hr e he)]⟩
    ·simp only[upd,Y,Cf];rcases L with⟨z,X⟩|z
     ·refine .inl ⟨z,λj hj O d=>?_⟩;by_cases E:j=k
      ·subst E;rw[hn]at d;cases d;rw[hl];simp;exact λh=>Y h.symm
      ·exact X j iC O d
     ·exact .inr z
def A2Q(s:gF AP)(d:gF Int)(F:Nat->FC)(E:∀e∈s,0<=(F e.2).2/\(F e.2).2<=(F e.2).1.length):IL (vw F s) (vw (Eg s d (dList s) F s.length) s):=by
 intro m;unfold vw;cases hx:lookup s (Ab m) with
 | none=>exact .inl ⟨rfl,rfl⟩
 | some f=>
  have z:=Eo hx;have hlen:(dList s).length=s.length:=Nl s s.length (An _);have h:Ab m∈dList s:=(LR s).mem_iff.2 (Cn.2 ⟨_,z,rfl⟩);have⟨k,hk,hk2⟩:=DD h;rcases V8 s d (dList s) F E s.length _ z with⟨_,L⟩|⟨t,I⟩
  ·exact absurd hx (L k iC (Ab m) (by rw[Dx hk,hk2]))
  ·have⟨j,j1,j2,j3⟩:=Q7 (E _ z) t;refine .inr ⟨F f,j,rfl,j1,j2,?_⟩;dsimp only at I j3;simp[I,j3]
def Va(D:DS)(da:Int):Gx D da∈D.AG::D.As:=by
 unfold Gx;have d:=Kt da D.As.length;cases hx:G3 da D.As.length with
 | zero=>exact BI ..
 | succ k=>
  rw[hx]at d;refine BC _ ?_;dsimp only
  rw[HY,Dx iC];exact BT _
def Db.a8(h:Db bd V ix sg cl lo)(z:∀nm c,V nm=some c->Cd c)(hl:(Ax cl).length<=1099511627776):Db bd V ix sg (cl++lo.toList) none:=by
 cases lo with
 | none=>simpa using h
 | some y=>
  obtain⟨n,l⟩:=y;have⟨h1,h2,c,h3,h4⟩:=h.Ac n l rfl;refine⟨h.E4,h.J6,h.sd,h.CD,λx d=>?_,h.Ao.bY ?_,λn' l' e=>(by cases e),by simpa using h.Fj,λk E I L=>by simpa using h.C9 k E I L,h.EE,h.El⟩
  ·rcases AX.1 d with d|d
   ·exact h.D7 x d
   ·simp at d;subst d;exact⟨h1,h2,c,h3,z _ _ h3⟩
  ·unfold JI;rw[h3];dsimp only
   rw[O2];exact h4.aY (by constructor<;>omega) h2
def DI.a6(h:DI bd P pd Ad o)(da:Int)(d:gF Int)(hpl:pd.length<=1099511627776):
 DI bd (P.a6 da d) pd Ad o/\∃n,Ad<=n/\n<=pd.length/\∀I q,o<=I->C4 I (pd.take n) q->DI bd (P.a6 da d) q Ad I/\Reads bd (P.a6 da d) q I:=by
 have X:=Va P.D da;generalize aA:Gx P.D da=s at X;have hr:∀e∈s,0<=(P.F e.2).2/\(P.F e.2).2<=(P.F e.2).1.length:=λe he=>by
  have⟨ix,sg,cl,lo,nb,hL,_⟩:=h.E6 s X;have hv:vw P.F s e.1.data.toList=some (P.F e.2):=by
   unfold vw;rw[G4];cases hk:lookup s e.1 with
   | none=>exact absurd rfl (J1.1 hk e he)
   | some g=>
    have⟨i,hi,e1⟩:=DD (Eo hk);have⟨j,hj,e2⟩:=DD he;have:i=j:=JC (h.Ck s X) (by simpa using hi) (by simpa using hj) (by simp[e1,e2]);subst this;rw[e1]at e2;rw[<-e2];rfl
  exact hL.El _ _ hv
 have aF:=A2Q s d P.F hr;have aG:(P.a6 da d).fl=vw (Eg s d (dList s) P.F s.length) s:=by
  funext m
  unfold PD.a6 PD.fl Fm vw;dsimp only
  rw[aA]
 have⟨ix,sg,cl,lo,n,hL,hd,n1,n2,n3⟩:=(h.E6 s X).CZ aF;rw[<-aG]at hL hd;have n4:=n3.2.2;rw[BK,B3,B3]at n4;have aD:(Ax cl).length<=1099511627776:=iC
 have hC:=hL.a8 hd aD;have E:Ax (cl++lo.toList)=Ax cl++F7 lo:=by cases lo<;>simp[Ax,F7]
 have hq:C4 o (Ax sg++Ax (cl++lo.toList)) (pd.take n):=by rw[E,<-Ci];exact n3
 have hH:Holds bd (P.a6 da d).fl pd Ad o:=⟨ix,sg,_,none,n,hC,n2,hq,λn' l e=>(by cases e),λ_=>n1⟩;have L:BB (P.a6 da d)=[(P.a6 da d).D.A6]:=by unfold BB PD.a6 Fm;rfl
 have O:(P.a6 da d).D.A6=s:=by unfold PD.a6 Fm;dsimp only;exact aA
 have mk:∀I q,Holds bd (P.a6 da d).fl q Ad I->DI bd (P.a6 da d) q Ad I:=λI q hq=>by
  refine⟨λx z=>?_,λx z=>?_,λx z=>?_,by rw[L];simp⟩
  ·rw[L]at z;simp at z;subst z;exact hq
  ·rw[L]at z;simp at z;subst z;rw[O];exact h.Aq s X
  ·rw[L]at z;simp at z;subst z;rw[O];exact h.Ck s X
 refine⟨mk o pd hH,n,n1,n2,λI q ho Y=>?_⟩;have aE:=(hq.bh ho).AF Y;have aB:Ad<=q.length:=by
  have:=Y.2.2;rw[BK]at this;omega
 exact⟨mk I q (Holds.bF hC aE aB),Whole.bz ⟨ix,sg,_,none,hC,by rw[E,B3];omega,by simpa[F7] using aE⟩⟩
end
def CC(n:DN)(e:Int)(n':DN):Prop:=
 (e≠5/\e≠6/\n'.Bm=n.Bm/\n'.fulls=n.fulls/\n'.Bh=n.Bh)\/(e=5/\n'.Bm=wrap64 (n.Bm+1)/\n'.fulls=n.fulls)\/(e=6/\n'.Bm=wrap64 (n.Bm+1)/\n'.fulls=wrap64 (n.fulls+1)/\n'.Bh=n.Bh)
def CC.C(n:DN){e:Int}(d:e≠5)(h:e≠6):CC n e n:=.inl ⟨d,h,rfl,rfl,rfl⟩
def CC.AF{n E n2:DN}{a e:Int}(h:CC n a E)(I:a=0)(d:CC E e n2):CC n e n2:=by
 subst I;rcases h with⟨_,_,O,X,L⟩|⟨z,_⟩|⟨z,_⟩
 ·unfold CC at d ⊢;rw[O,X,L]at d;exact d
 ·cases z
 ·cases z
def KL(n:DN):CC n (bg n).2.1 (bg n).2.2:=by
 unfold bg;dsimp only
 split
 ·exact .inr (.inl ⟨rfl,rfl,rfl⟩)
 ·split
  ·exact .inr (.inl ⟨rfl,rfl,rfl⟩)
  ·split
   ·exact .inr (.inl ⟨rfl,rfl,rfl⟩)
   ·exact .inl ⟨iE,iE,rfl,rfl,rfl⟩
def HR(n:DN):(bg n).2.1=0\/(bg n).2.1=5:=by
 unfold bg;dsimp only
 split
 ·exact .inr rfl
 ·split
  ·exact .inr rfl
  ·split
   ·exact .inr rfl
   ·exact .inl rfl
section
variable{P:PD}{A:Ar}{J:Jn}{nm oe:gE}
def LZ(P:PD)(nm:gE):CC P.D.n (P.aq nm).1 (P.aq nm).2.D.n:=by
 unfold PD.aq CY;split
 ·exact CC.C _ iE iE
 ·have:=KL P.D.n;dsimp only
  split<;>exact this
def Nw(P:PD)(nm:gE):CC P.D.n (P.ae nm).1 (P.ae nm).2.D.n:=by
 unfold PD.ae CP;split
 ·exact CC.C _ iE iE
 ·exact KL P.D.n
def VF(P:PD):CC P.D.n P.aI.1 P.aI.2.D.n:=by
 have:=KL P.D.n;unfold PD.aI Ef;dsimp only
 split<;>exact this
def VH(P:PD)(nm:gE):CC P.D.n (P.aF nm).1 (P.aF nm).2.D.n:=by
 have:=KL P.D.n;unfold PD.aF DB;split
 ·exact CC.C _ iE iE
 ·dsimp only
  split<;>exact this
def A33(P:PD)(oe nm:gE):CC P.D.n (P.aQ oe nm).1 (P.aQ oe nm).2.D.n:=by
 have:=KL P.D.n;unfold PD.aQ Da;split
 ·exact CC.C _ iE iE
 ·split
  ·exact CC.C _ iE iE
  ·dsimp only
   split<;>exact this
def VL(D:DS)(F:Nat->FC)(f:Nat)(x:gE)(n0 e:Int)(n:DN)(h:CC n e D.n)(z:e=0\/e=5):CC n (BP D F f x n0 e).1 (BP D F f x n0 e).2.1.n:=by
 unfold BP;split
 ·dsimp only
  rcases z with rfl|rfl
  ·rw[Ai rfl,Ai rfl];rcases h with⟨_,_,I,L,E⟩|⟨d,_⟩|⟨d,_⟩
   ·exact .inr (.inr ⟨rfl,by dsimp only;rw[I],by dsimp only;rw[L],E⟩)
   ·cases d
   ·cases d
  ·rw[Af iF,Af iF];exact h
 ·exact h
def A4b(P:PD)(nm:gE)(l:Bs):CC P.D.n (P.au nm l).1 (P.au nm l).2.D.n:=by
 have d:=KL P.D.n;have h:=HR P.D.n;unfold PD.au BA;split
 ·exact CC.C _ iE iE
 ·dsimp only
  split
  ·exact VL _ _ _ _ _ _ _ d h
  ·split
   ·exact VL _ _ _ _ _ _ _ d h
   ·exact d
def Ny(P:PD)(nm:gE)(s:Nat)(l:Bs):CC P.D.n (P.af nm s l).2.1 (P.af nm s l).2.2.D.n:=A4b P nm (AT s l)
def EG{x:Int}(h:¬x≠0):x=0:=iC
def Nv(P:PD)(nm:Bs)(s:Nat)(l:Bs):CC P.D.n (P.aH nm s l).1 (P.aH nm s l).2.D.n:=by
 unfold PD.aH;split
 ·exact LZ P _
 ·rename_i d;split
  ·exact(LZ P _).AF (EG d) (Ny _ _ _ _)
  ·rename_i h;exact((LZ P _).AF (EG d) (Ny _ _ _ _)).AF (EG h) (Nw _ _)
def VG:∀(l:gF Bs) (P:PD),CC P.D.n (PD.ax l P).1 (PD.ax l P).2.D.n
 | [],P=>CC.C _ (by simp[PD.ax]) (by simp[PD.ax])
 | nm::r,P=>by
  unfold PD.ax;split
  ·exact Nw P _
  ·rename_i d;exact(Nw P _).AF (EG d) (VG r _)
def Nx:∀(l:gF Bs) (P:PD),CC P.D.n (PD.aN l P).1 (PD.aN l P).2.D.n
 | [],P=>CC.C _ (by simp[PD.aN]) (by simp[PD.aN])
 | nm::r,P=>by
  unfold PD.aN;split
  ·exact VH P _
  ·rename_i d;exact(VH P _).AF (EG d) (Nx r _)
def KK(A:Ar)(P:PD):CC P.D.n (A.I P).1 (A.I P).2.2.D.n:=by
 have:=VG A.AS P;unfold Ar.I;split
 ·exact this
 ·rename_i d;rw[EG d]at this;exact this
def VK(J:Jn)(P:PD):CC P.D.n (J.aw P).1 (J.aw P).2.2.D.n:=by
 unfold Jn.aw;split
 ·exact LZ P _
 ·rename_i d;have:=(LZ P _).AF (EG d) (Ny (P.aq (Ab (Ah (J.Ac+1)))).2 (Ab (Ah (J.Ac+1))) (AI (Ah (J.Ac+1))) (AQ J.pd));dsimp only
  split
  ·exact this
  ·rename_i h;rw[EG h]at this;exact this
def VI(J:Jn)(P:PD)(p:Pu):CC P.D.n (J.az P p).2.1 (J.az P p).2.2.2.D.n:=by
 unfold Jn.az;split
 ·exact CC.C _ iE iE
 ·exact Ny P _ _ _
def A36(J:Jn)(P:PD)(p:Pu):CC P.D.n (J.af P p).2.1 (J.af P p).2.2.2.D.n:=by
 unfold Jn.af;split
 ·split
  ·exact VK J P
  ·rename_i d;exact(VK J P).AF (EG d) (VI _ _ p)
 ·exact VI J P p
def A4a(A:Ar)(P:PD)(p:Pu):CC P.D.n (A.af P p).2.1 (A.af P p).2.2.2.D.n:=by
 unfold Ar.af;split
 ·exact KK A P
 ·rename_i d;exact(KK A P).AF (EG d) (A36 _ _ p)
def A35(J:Jn)(P:PD):CC P.D.n (J.ae P).1 (J.ae P).2.D.n:=by
 unfold Jn.ae;split
 ·exact CC.C _ iE iE
 ·exact Nw P _
def A39(A:Ar)(P:PD):CC P.D.n (A.ae P).1 (A.ae P).2.2.D.n:=by
 unfold Ar.ae;split
 ·exact KK A P
 ·rename_i z;have h:=(KK A P).AF (EG z) (A35 (A.I P).2.1.j (A.I P).2.2);split
  ·exact h
  ·rename_i d;exact h.AF (EG d) (VF _)
def VJ:∀(z:gF (gF Pu)) (h:Int) (d:gF Int) (P:PD),CC P.D.n (PD.ao z h d P).1 (PD.ao z h d P).2.2.2.D.n
 | [],_,_,P=>CC.C _ (by simp[PD.ao]) (by simp[PD.ao])
 | l::r,h,d,P=>by
  unfold PD.ao;split
  ·exact Nv P _ _ _
  ·rename_i E;exact(Nv P _ _ _).AF (EG E) (VJ r _ _ _)
def A34(P:PD)(d:Int)(sd:gF Int):CC P.D.n (P.al d sd).1 (P.al d sd).2.D.n:=by
 unfold PD.al;split
 ·exact Nv P _ _ _
 ·rename_i h;exact(Nv P _ _ _).AF (EG h) (A33 _ _ _)
def A38(A:Ar)(P:PD)(sd:gF Int):CC P.D.n (A.al P sd).1 (A.al P sd).2.2.D.n:=by
 have:=A34 P (A.j.Ac+1) sd;unfold Ar.al;split
 ·exact CC.C _ iE iE
 ·split
  ·exact this
  ·rename_i d;rw[EG d]at this;exact this
def A37(A:Ar)(P:PD):CC P.D.n (A.a8 P).1 (A.a8 P).2.2.D.n:=by
 unfold Ar.a8;split
 ·exact Nx _ P
 ·rename_i d;exact(Nx _ P).AF (EG d) (VF _)
def A32(A:Ar)(P:PD)(d:gF Int)(h:gF (gF Pu)):CC P.D.n (A.aG P d h).1 (A.aG P d h).2.2.D.n:=by
 unfold Ar.aG;dsimp only
 split
 ·exact KK A P
 ·rename_i X;have z:=(KK A P).AF (EG X) (Nx ((A.I P).2.1.aU (A.I P).2.2) (A.I P).2.2);split
  ·exact z
  ·rename_i L;have E:=z.AF (EG L) (VJ h (A.I P).2.1.Ac d _);split
   ·exact E
   ·rename_i Y;have I:=E.AF (EG Y) (A38 { (A.I P).2.1 with Ac:=(PD.ao h (A.I P).2.1.Ac d ((A.I P).2.1.ay (A.I P).2.2).2).2.1} _ (PD.ao h (A.I P).2.1.Ac d ((A.I P).2.1.ay (A.I P).2.2).2).2.2.1);split
    ·exact I
    ·rename_i O;exact I.AF (EG O) (A37 _ _)
def Ro(P:PD)(nm:gE):(P.ae nm).1≠6:=by
 unfold PD.ae CP;split
 ·simp
 ·have:=HR P.D.n;dsimp only;omega
def XC(P:PD):P.aI.1≠6:=by
 have:=HR P.D.n;unfold PD.aI Ef;dsimp only;omega
def Ru:∀(l:gF Bs) (P:PD),(PD.ax l P).1≠6
 | [],P=>by simp[PD.ax]
 | nm::r,P=>by
  unfold PD.ax;split
  ·exact Ro P _
  ·exact Ru r _
def RM(A:Ar)(P:PD):(A.I P).1≠6:=by
 unfold Ar.I;split
 ·exact Ru _ P
 ·simp
def VA(A:Ar)(P:PD):(A.ae P).1≠6:=by
 unfold Ar.ae;split
 ·exact RM A P
 ·split
  ·unfold Jn.ae;split
   ·simp
   ·exact Ro _ _
  ·exact XC _
end
end
end Go.Proofs.YtodcnkbblippnaaGreatDoor
