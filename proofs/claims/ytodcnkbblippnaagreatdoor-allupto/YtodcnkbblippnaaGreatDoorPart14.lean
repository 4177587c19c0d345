/- Part 14 of a proof: walks of the program. -/
import Derived.Test.YtodcnkbblippnaaGreatDoorPart13
namespace Go.Proofs.YtodcnkbblippnaaGreatDoor
set_option maxRecDepth 100000
set_option maxHeartbeats 32000000
set_option linter.defProp false
open Go.Proofs.Tryz
section
open Go.RowKit
attribute [local go_sem ↓] Go.wp_at_zero Go.wp_at_succ
def A4.bU{S:Nat->Prop}{a b c:gC}(h:A4 Aa a b)(k:A4 S b c)(d:∀x,S x->a.heap.size<=x):A4 Aa a c:=h.AF k λx z hlt=>by have:=d x z;omega
section
variable{w w':gC}{wb:Nat}{n:WN}{b:Nat}{D:DS}{F:Nat->FC}{Ft:Nat->Prop}
def TU(w:gC)(h:AR w wb n)(hd:n.dv=(A5 b))(hr:AU w b D F Ft)(X:∀k,Ft k->k<w.heap.size):
 Ag 48 #[A5 wb] w (Aj (.agg #[A0 D.n.Bm,A0 D.n.fulls]) λw'=>A4 Aa w w'):=by
 have hA:=(A4.C Aa w).ai (.cells #[A0 0,A0 0] 85);have d:=Bn w (.cells #[A0 0,A0 0] 85);have c4:=(h.ak hA).c4;rw[hd]at c4;have z:=hr.av X hA;generalize hw0:(w.alloc (.cells #[A0 0,A0 0] 85))=w0 at hA d c4 z;have aD:=A1 (OK z.aa);have aE:=A1 (UJ z.aa);obtain⟨I,aA⟩:=iG D.n.Bm;obtain⟨E,aB⟩:=iG D.n.fulls;rw[aA]at aD ⊢;rw[aB]at aE ⊢;have aG:=A1 hA;have aF:=A1 d;have r0:A7 w0 w.heap.size 0 (A0 0):=CJ d;have r1:A7 w0 w.heap.size 1 (A0 0):=CJ d;have f0:w0.frozen? (A9 w.heap.size 0)=false:=by simp[World.frozen?,d]
 have f1:w0.frozen? (A9 w.heap.size 1)=false:=by simp[World.frozen?,d]
 clear h hd hr X hA d z aA aB
 go_enter func48,ntmps48
 go_wp2;refine G1 (λw'=>A7 w' wb 4 (A5 b)) 11
  (Ba [0,1,2,3,5,6,7,8,4,9,10] [4,9]) (by kernel_rfl) (by kernel_rfl) (λ_ _ _ _ _ h=>h) c4 ?_
 iterate 8 (refine E8 (v:=?_) rfl (by rfl) ?_ ?_;rotate_left;(· (intro w' O;(try dsimp only at O);go_simp;try with_reducible rfl));(try simp only[BO]))
 refine Dy rfl (by rfl) (λK Y=>?_);go_simp;refine aD.k ?_;rintro w1 rfl;refine Y _ _ c4 (λO=>?_);clear Y K O
 (try simp only[BO])
 refine Dy rfl (by rfl) (λK Y=>?_);go_simp;refine aE.k ?_;rintro w1 rfl;refine Y _ _ c4 (λO=>?_);clear Y K O
 (try simp only[BO])
 (refine E8 (v:=?_) rfl (by rfl) ?_ ?_;rotate_left;(· (intro w' O;(try dsimp only at O);go_simp;try with_reducible rfl));(try simp only[BO]))
 refine FD ?_;simp only[DK,Dm];go_wp2;have hk:A4 Aa w ((w0.setCell (A9 w.heap.size 0) (A0 I)).setCell (A9 w.heap.size 1) (A0 E)):=by
  have k:∀(p:Addr),p.block=w.heap.size->p.block<w.heap.size->False:=λp e h=>iC
  exact(aG.o.bc (k _ rfl) _).bc (k _ rfl) _
 have hh:((w0.setCell (A9 w.heap.size 0) (A0 I)).setCell (A9 w.heap.size 1) (A0 E)).heap[w.heap.size]?=some (.cells #[A0 I,A0 E] 85 (0,0)):=BQ (BQ aF.o);generalize ((w0.setCell (A9 w.heap.size 0) (A0 I)).setCell (A9 w.heap.size 1) (A0 E))=w2 at hk hh ⊢;have d0:A7 w2 w.heap.size 0 (A0 I):=by simp[A7,World.cell?,hh]
 have d1:A7 w2 w.heap.size 1 (A0 E):=by simp[A7,World.cell?,hh]
 refine JU (v:=.agg #[A0 I,A0 E]) (by simp[results,Tryz.results48,go_sem,d0,d1]) rfl ⟨rfl,hk.aa⟩
end
section
variable{H:Nat->Prop}{wb sb ab b:Nat}{n:WN}{ld wc A8:Int}{ro:Bool}{L:Nat->gF Pt}{A:Ar}{P:PD}{FT:Nat->Prop}{pd:gF Pu}{ls:gF (gD×Int)}
def Ol(w:gC)(m:Nat)(h:LW w H wb n b ld (KS sb ab b ld wc A8 ro L A P) FT pd ls)(aO:n.sv=(A5 sb))(a5:n.CU=ro)(aP:n.Cy=A8)(hm:m<=pd.length)(a8:pd.length<1099511627776)(aU:∀p∈pd,Ay p.2.1)(aY:∀k,k<8->(L k).length<1099511627776)(hl:1<=ld/\ld<=4611686018427387904)(hc:Ay A8):
 Ag 89 #[A5 wb,A0 m] w λe w'=>∃t,e=.returned (.bool t)/\(t=true↔Fq L (pd.take m) ld A8)/\A4 Aa w w':=by
 obtain⟨lv,F0,aI,-⟩:=h.Es;have hs:=aI.Ae;have hr:=aI.Ed;have c5:=h.Ae.c5;rw[aO]at c5;have ST:=A1 (RH w hs);have aN:=A1 h.Ae;have hp:=h.Dq;have a0:=h.FO;have a3:Hid (∀w' (k:Nat),A4 Aa w w'->k<8->_):=λw' k hw hk=>MP w' k (-9223372036854775808) 9223372036854775807 (hs.Am hw (λh=>h)) (hr.Am hw (λ_ _ h=>h)) hk hl hc;have aW:∀w',A4 Aa w w'->GZ w' n.pv pd:=λw' hw=>Au hp λg hg=>hw.Al g (Aw hp hg) (λh=>h);have bE:Hid (∀w' (k:Nat),A4 Aa w w'->_):=λw' k hw=>SM w' n.pv pd m (aW w' hw) hm a8 aU k (-9223372036854775808) 9223372036854775807 ld A8 hl hc;have a9:Hid (∀k:Nat,(refQ (pd.take m) k (-9223372036854775808) 9223372036854775807 ld A8).length<1099511627776):=λk=>by
  have:=Sz (pd.take m) k (-9223372036854775808) 9223372036854775807 ld A8;rw[BK]at this;omega
 have aV:Hid (∀k:Nat,k<8->(piece (L k) (max (-9223372036854775808) (AN A8 ld)) 9223372036854775807).length<1099511627776):=λk hk=>NO (KW _ _) (aY k hk);have bG:Hid ((∀k:Nat,k<8->piece (L k) (max (-9223372036854775808) (AN A8 ld)) 9223372036854775807=refQ (pd.take m) k (-9223372036854775808) 9223372036854775807 ld A8)↔Fq L (pd.take m) ld A8):=QM;clear h hs hr hp aW aU hl hc aI aY
 go_enter func89,ntmps89
 go_wp2_with (go_at_call 38;refine ST.k ?_;rintro w1 aZ;have aR:=A1 aZ;clear aZ);have O:A4 Aa w (w1.alloc (.cells #[.bool ro,A0 A8] 74)):=aR.o.ai _;have aJ:=Bn w1 (.cells #[.bool ro,A0 A8] 74);have d0:A7 (w1.alloc (.cells #[.bool ro,A0 A8] 74)) w1.heap.size 0 (.bool ro):=CJ aJ;have d1:A7 (w1.alloc (.cells #[.bool ro,A0 A8] 74)) w1.heap.size 1 (A0 A8):=CJ aJ;clear aJ;generalize (w1.alloc (.cells #[.bool ro,A0 A8] 74))=w2 at O d0 d1 ⊢;have b9:=(aN.o.ak O).c9;rw[a5]at b9;have aL:=(aN.o.ak O).br;rw[aP]at aL;have aK:=A1 O;clear O aR ST;refine Bq (λw'=>A7 w' w1.heap.size 0 (.bool ro)/\A7 w' w1.heap.size 1 (A0 A8)/\A7 w' wb 9 (.bool ro)/\A7 w' wb 10 (A0 A8)) 15
  (Ba [0,1,2,3,4,5,6,7,8,9,10,11,12,13,14] []) ⟨d0,d1,b9,aL⟩ ?_
 iterate 15 refine B4 ?_
 refine Bl ?_;go_wp2;clear d0 d1 b9 aL;have d:Hid (A4 Aa w w2.drew):=aK.o.aa;go_loopw [6] (λiv wr=>∃k:Nat,k<=8/\iv=A0 k/\Hid (A4 Aa w wr)/\Hid (∀i:Nat,i<k->piece (L i) (max (-9223372036854775808) (AN A8 ld)) 9223372036854775807=refQ (pd.take m) i (-9223372036854775808) 9223372036854775807 ld A8)) (λiv _=>8-(intOf iv).toNat)
 ·exact⟨0,iC,rfl,d.o,λi hi=>absurd hi (JX _)⟩
 ·obtain⟨k,hk,rfl,aF,hE⟩:=hrel;obtain⟨w0,bC⟩:=iH wr;subst bC;have k0:=BJ k;by_cases aH:k<8
  ·have k1:(k:Int)<8:=iC;have e5:=(aN.o.ak aF.o).c5;rw[aO]at e5;have a4:=A1 (a3.o w0 k aF.o aH);obtain⟨pk,aD⟩:=iG (piece (L k) (max (-9223372036854775808) (AN A8 ld)) 9223372036854775807);have X:=aV.o k aH;rw[aD]at a4 X;have a7:=A1 X;clear a3 d aK c5 X aV;go_wp2_with (go_at_call 37;refine a4.m ?_;rintro e w3⟨v,rfl,hv,aT,bD⟩;have bF:=A1 hv;have d:Hid (A4 Aa w w3):=aF.o.tr aT;clear hv aT bD);have g6:=(aN.o.ak d.o).c6;have g0:=(aN.o.ak d.o).c0;rw[a0]at g0;have aG:=(aN.o.ak d.o).br;rw[aP]at aG;have bA:=A1 (bE.o w3.drew k d.o.aa);obtain⟨rk,I⟩:=iG (refQ (pd.take m) (k:Int) (-9223372036854775808) 9223372036854775807 ld A8);have Y:=a9.o k;rw[I]at bA Y;have a2:=A1 Y;clear bE Y;refine Bq (λw'=>A7 w' wb 6 n.pv/\A7 w' wb 0 (A0 ld)/\A7 w' wb 10 (A0 A8)) 16
    (Ba [0,1,2,3,4,5,6,7,8,9,10,11,12,13,14,15] [15]) ⟨g6,g0,aG⟩ ?_
   iterate 15 refine B4 ?_
   refine Bf λK hK=>?_;go_simp;refine bA.m ?_;rintro e w4⟨v2,rfl,aX,z,aS⟩;refine hK _ _ ⟨z.ad g6,z.ad g0,z.ad aG⟩ (λhS=>?_);have aQ:Hid (A4 Aa w w4):=d.o.aa.tr z;have aE:Hid (Ag 93 #[v,v2] w4 (Aj (.bool (decide (pk=rk))) λw'=>A4 Aa w4 w')):=by
    have bB:Ch w4 v _:=Au bF.o λg hg=>z.Al g (Aw bF.o hg) (λh=>h);exact RX w4 v v2 _ _ bB aX a7.o a2.o
   clear hK K hS aX z aS bF bA a4 g6 g0 aG e5;refine Bl ?_;by_cases E:pk=rk
   ·have aA:Hid (Ag 93 #[v,v2] w4 (Aj (.bool true) λw'=>A4 Aa w4 w')):=by
     have:=aE.o;rw[CN E]at this;exact this
    have a1:Hid (∀i:Nat,i<k+1->piece (L i) (max (-9223372036854775808) (AN A8 ld)) 9223372036854775807=refQ (pd.take m) i (-9223372036854775808) 9223372036854775807 ld A8):=λi hi=>by
     by_cases e:i=k
     ·subst e;rw[aD,I];exact E
     ·exact hE.o i iC
    clear aE E aD I hE;go_wp2_with (go_at_call 93;refine aA.k ?_;rintro w5 aB;have aM:Hid (A4 Aa w w5):=aQ.o.tr aB;clear aB);go_roundw
    ·exact⟨k+1,iC,by go_num,aM.o,a1.o⟩
    ·simp[intOf];omega
   ·have aA:Hid (Ag 93 #[v,v2] w4 (Aj (.bool false) λw'=>A4 Aa w4 w')):=by
     have:=aE.o;rw[CO E]at this;exact this
    have bH:Hid (¬Fq L (pd.take m) ld A8):=λhT=>E (by rw[<-aD,<-I];exact bG.o.2 hT k aH);clear aE E aD I hE;go_wp2_with (go_at_call 93;refine aA.k ?_;rintro w5 aB;have aM:Hid (A4 Aa w w5):=aQ.o.tr aB;clear aB);go_ret;exact⟨false,rfl,⟨λh=>(by cases h),λhT=>absurd hT bH.o⟩,aM.o⟩
  ·(obtain rfl:k=8:=iC);have a6:Hid (Fq L (pd.take m) ld A8):=bG.o.1 hE.o;clear a3 bE d aK c5 hE;go_wp2;go_ret;exact⟨true,rfl,⟨λ_=>a6.o,λ_=>rfl⟩,aF.o⟩
def A1O:(Tryz.prog.info? 141).map (λi=>(i.zero,i.size,i.bytes))=some (some (.agg #[A0 0,A0 0,A0 0]),3,24):=by kernel_rfl
def A17(w:gC)(h:LW w H wb n b ld (KS sb ab b ld wc A8 ro L A P) FT pd ls)(aH:n.sv=(A5 sb))(aL:n.CU=ro)(aJ:n.Cy=A8){n0 Ad:Nat}(I:n.AG=Ad)(h0:Ad<=n0/\n0<=pd.length)(O:n.fell=false->n0=pd.length)(hT:Fq L (pd.take n0) ld A8)(aF:pd.length<1099511627776)(aM:∀p∈pd,Ay p.2.1)(aO:∀k,k<8->(L k).length<1099511627776)(hl:1<=ld/\ld<=4611686018427387904)(hc:Ay A8):
 Ag 52 #[A5 wb] w (Aj (.bool true) λw'=>A4 H w w'/\∃m pv,n0<=m/\m<=pd.length/\Fq L (pd.take m) ld A8/\LW w' H wb {n with fell:=false,pv:=pv} b ld (KS sb ab b ld wc A8 ro L A P) FT (pd.take m) ls):=by
 obtain⟨aI,aD⟩:=h0;have aU:Hid (∀w',A4 Aa w w'->∀m:Nat,m<=pd.length->_):=λw' hw m hm=>Ol w' m (h.ak hw) aH aL aJ hm aF aM aO hl hc;have⟨ap,cp,hpv,hcap1,hcap2,hgg⟩:=h.Dq.BW;unfold maxLen at hcap2;have⟨i0,hi,hz0,hz1,hz2⟩:=DQ A1O;have c6:=h.Ae.c6;rw[hpv]at c6;have aQ:Hid (∀m,m<=pd.length->∀w',A4 Aa w w'->Src Tryz.prog 3 37 (.slice ap m cp) m (B5 (pd.take m)) w'):=λm hm w' hw=>by
  have X:=Au h.Dq λg hg=>hw.Al g (Aw h.Dq hg) (λh=>h);rw[hpv]at X;by_cases e:m=pd.length
  ·subst e;rw[C5];exact Src.bN ND X (HJ _)
  ·obtain⟨a2,c2,q1,q2,q3,q4,-⟩:=B8 X;cases q1;obtain⟨g,rfl⟩:=q4 iC;have:=Src.fX ND X (HJ _) 0 m cp iC;rw[Nat.zero_mul,Dm,ZD]at this;exact this
 obtain⟨M,hM⟩:=iG pd.length;have aV:=A1 h;have aS:=A1 hM;have a8:=A1 hT;rw[hM]at aU aQ hcap1 c6 aF aD;have a9:=A1 O;have c8:=h.Ae.c8;have c7:=h.Ae.c7;rw[I]at c7;obtain⟨fl,E⟩:=iG n.fell;rw[E]at c8;have aX:=A1 E;have a5:=A1 aI;have a6:=A1 aD;clear h hT aM hM hpv hgg O aO hl hc E aI aD;have aK:Hid (∀m':Nat,n0<=m'->m'<M->wrap64 (m':Int)=(m':Int)/\¬((m':Int)<(Ad:Int))/\wrap64 (((m'+1:Nat):Int)-1)=(m':Int)):=λm' h1 h2=>by
  have h3:=a5.o;refine⟨by unfold wrap64;omega,iC,by unfold wrap64;omega⟩
 go_enter func52,ntmps52
 go_wp2;go_loopw [3] (λnv wr=>∃m:Nat,nv=A0 m/\Hid (n0<=m/\m<=M/\A4 Aa w wr)) (λnv _=>(intOf nv).toNat)
 ·exact⟨M,rfl,a6.o,An _,A4.C _ _⟩
 ·obtain⟨m,rfl,z⟩:=hrel;have a7:=A1 (aU.o wr z.o.2.2 m z.o.2.1);have m0:=BJ m;have a4:(m:Int)<1099511627776:=by have:=z.o.2.1;omega
  go_wp2_with (fail);refine a7.m ?_;rintro e w1⟨t,rfl,ht,aP⟩;have aG:=A1 ht;have d:Hid (A4 Aa w w1):=z.o.2.2.tr aP;clear aP ht a7 aU;cases t with
  | true=>
   have d6:=d.o.ad c6;have a1:=aV.o.ak d.o;have e6:=a1.Ae.fz 6;have a3:=A1 a1;have aN:=A1 (aQ.o m z.o.2.1 w1 d.o);have hmcp:m<=cp:=AO z.o.2.1 hcap1;have a0:=A1 z.o;clear z a1 aQ c6 c7 c8;go_wp2_with (at_builtin;refine CX rfl (.tmp 30) (.tmp 36) 37 37 rfl 141 i0 _ 3 24 ND hi hz0 hz1 hz2 rfl iF (.slice none 0 0) 0 [] (by rfl) (Cq _ 0 141 3) (.slice ap m cp) m (B5 (pd.take m)) (by rfl) aN.o iC ?_;intro a2 aB w2 hA;simp only[Hj,Fh]at hA;have aT:=A1 hA;clear hA aN;have Y:A4 Aa w1 w2:=aT.o.bE;have d6:=Y.ad d6;have aR:=A1 (a3.o.ak Y);have e8:=aR.o.Ae.fz 8;have e6:=aR.o.Ae.fz 6;have d8:=aR.o.Ae.c8;have aY:=A1 Y;clear Y);go_wp2;go_ret;(have aZ:(pd.take m).length=m:=by rw[BK,aS.o];exact JY a0.o.2.1);have h3:GZ w2 (.slice a2 m aB) (pd.take m):=by
    have:=aT.o.AB;unfold GZ;rw[aZ];exact this
   have aE:∀g,(Value.slice a2 m aB).ownBlock=some g->H g/\¬FT g:=λg hg=>by
    rcases aT.o.BX with h|h
    ·rw[h]at hg;simp[Value.ownBlock]at hg
    ·rw[h]at hg;cases hg;exact⟨a3.o.DP _ (An _),λhx=>by have:=a3.o.lt _ hx;omega⟩
   have⟨k3,hL3⟩:=aR.o.eB h3 aE;have⟨k4,hL4⟩:=hL3.CQ 8 (.bool false) (hL3.Ae.s8 false) rfl rfl rfl rfl;refine⟨rfl,((d.o.tr aY.o).aS (S:=H)).tr (k3.tr k4),m,_,a0.o.1,by rw[aS.o];exact a0.o.2.1,aG.o.1 trivial,hL4⟩
  | false=>
   have aA:n0<m:=by
    rcases Fg n0 m with h|h
    ·exact h
    ·(have e:m=n0:=by have:=z.o.1;omega);subst e;exact absurd (aG.o.2 a8.o) iE
   have E:fl=true:=by
    cases fl with
    | true=>rfl
    | false=>
     have:=a9.o aX.o;have h1:=z.o.2.1;have h2:=aS.o;omega
   subst E;obtain⟨m',rfl⟩:∃m',m=m'+1:=⟨m-1,(Nat.sub_add_cancel (NO (Cb _) aA)).symm⟩;have d8:=d.o.ad c8;have d7:=d.o.ad c7;have⟨e1,hsm,e2⟩:=aK.o m' (Qu aA) (Nat.lt_of_succ_le z.o.2.1);have aW:Hid (n0<=m'/\m'<=M/\A4 Aa w w1):=⟨Qu aA,A4B z.o.2.1,d.o⟩;clear z aA aG aQ c6 c7 c8 a8 hi hz0 hz1 hz2 hcap1 hcap2 I aH aL aJ m0 a4 aK aF e2;go_wp2;rw[e1];go_roundw
   ·exact⟨m',rfl,aW.o⟩
   ·simp[intOf]
end
end
section
open Go.RowKit
def Env(B:Nat)(w:gC):Prop:=Lets B w/\IK w/\1<B/\2<B
def Env.aj{B:Nat}{w w':gC}{S:Nat->Prop}(h:Env B w)(I:A4 S w w')(z:∀k,S k->B<=k):Env B w':=by
 obtain⟨E,⟨⟨Y,a1,b1⟩,e2,a2,b2⟩,X,O⟩:=h;refine⟨E.aj I z,⟨⟨Y,?_,b1⟩,e2,?_,b2⟩,X,O⟩
 ·rw[<-a1];have:=I.Al 1 (Bp X E.1) λd=>by have:=z _ d;omega
  simp only[World.cell?,this]
 ·rw[<-a2];have:=I.Al 2 (Bp O E.1) λd=>by have:=z _ d;omega
  simp only[World.cell?,this]
def Env.aL{B:Nat}{w w':gC}(h:Env B w)(d:A4 Aa w w'):Env B w':=h.aj d λ_ h=>h.elim
def LJ{n:Int}(h:isNum n=true):CK n:=by
 unfold isNum at h;simp at h;exact I3 iC h.2
def A0t{O:Int×Int}{nm:Bs}(h:FU O nm):nm.length<=281474976710656:=by
 have I:∀(c:UInt8) (n:Int),1<=n->n<=4611686018427387904->(c::(Lib.repeatL [48] (19-(Lib.itoa n).length)++Lib.itoa n)).length<=281474976710656:=λc n d E=>by
  rw[Ls d E,CA,MV];omega
 by_cases E:(Br nm).1=1
 ·have⟨⟨a,b⟩,e⟩:=Pe E;rw[<-e,JF];exact I _ _ a b
 ·by_cases z:(Br nm).1=2
  ·have⟨⟨a,b⟩,e⟩:=Pc z;rw[<-e,IY];exact I _ _ a b
  ·have d:=h.1;unfold Br at d E z;cases hx:Ew [108] nm with
   | some v=>rw[hx]at E;exact absurd rfl E
   | none=>
    rw[hx]at d z;dsimp only at d z;unfold HN at d z;cases hy:Ew [115] nm with
    | some v=>rw[hy]at z;exact absurd rfl z
    | none=>
     rw[hy]at d;dsimp only at d;unfold HM IZ at d;split at d
     ·rename_i e;subst e;decide
     ·split at d
      ·rename_i e;subst e;decide
      ·exact absurd rfl d
def SG:∀(k s:Nat) (l:gF UInt8),(E2 k s l).1.length*21<=l.length
 | 0,_,_=>by simp[E2]
 | k+1,s,l=>by
  unfold E2;split
  ·simp
  ·rename_i hl;split
   ·have:=SG k (AY s (l.take 17)) (l.drop 21);rw[Cz]at this;simp only[CA];omega
   ·simp
def A0U{P:PD}{a c m:Nat}(z:Fit P a c m)(n d:Int):(P.aW n d).1.length*21<=m:=by
 have key:∀l:gF UInt8,l.length<=m->∀s,(GF s d l).1.length*21<=m:=λl hl s=>by
  unfold GF;split
  ·simp
  ·split
   ·split
    ·have:=SG l.length (AY s (l.take 8)) (l.drop 12);rw[Cz]at this;dsimp only;omega
    ·simp
   ·simp
 unfold PD.aW H8;split
 ·simp
 ·refine key _ ?_ _;unfold Eh;split
  ·rename_i f h;exact z.Be f (Gu h)
  ·exact Cb _
def Zw{P:PD}{a c m:Nat}(z:Fit P a c m)(l:gF Int):(P.pd l).1.length*21<=l.length*m:=by
 have key:∀(l:gF Int) (d:gF Pu),(P.bp l d).1.length*21<=d.length*21+l.length*m:=by
  intro l
  induction l with
  | nil=>intro d;simp[PD.bp]
  | cons n r ih=>
   intro d;unfold PD.bp;split
   ·simp
   ·have h:=ih (d++(P.aW n d.length).1);have h2:=A0U z n d.length;rw[B3]at h;rw[CA,Ii];omega
 have:=key l [];simpa[PD.pd] using this
section
variable{w:gC}{B sb ab b:Nat}{ld wc A8:Int}{L:Nat->gF Pt}{A:Ar}{P:PD}{FT:Nat->Prop}{pd:gF Pu}{Ad t N:Nat}{o:Int}
def SO(w:gC)(p:Pu)(h:SF w sb ab b 0 ld wc A8 false L A P FT)(E:∀k,FT k->k<w.heap.size)(d:St t A P pd Ad o false)(ht:t+1<=330000)(hp:Bo p)(hL:Lets B w)(I:∀k,FT k->B<=k)(O:∀k,k<8->(L k).length<=t)(hl:1<=ld/\ld<=4611686018427387904)(hc:Ay A8):
 Ag 23 #[A5 sb,A0 p.1,A0 p.2.1,A0 p.2.2] w (Aj (A0 (A.af P p).2.1) λw'=>
  Ap w FT w' (λw' z=>SF w' sb ab b 0 ld wc A8 (decide ((A.af P p).2.1≠0)) (if (A.af P p).1=true then EH L (AN A8 ld) p.1.toNat p.2.1 p.2.2 else L) (A.af P p).2.2.1 (A.af P p).2.2.2 z)):=by
 have⟨sg,cl,ol,hI,_⟩:=d.si rfl;have X:=hI.bM d.pb d.Be iC;have hj:=X.j;exact SP w p h E hp (λ_=>⟨I3 iC iC,by constructor<;>omega,hI.AZ.dI hI.Cw⟩) (by have:=X.Ao;omega) hL I d.pb.D8 ⟨iC,iC,iC⟩ (λk Y=>by have:=O k Y;omega) hl hc
def Xx(w:gC)(h:SF w sb ab b 0 ld wc A8 false L A P FT)(_hFT:∀k,FT k->k<w.heap.size)(X:Lets B w)(d:∀k,FT k->B<=k):
 Ag 31 #[A5 sb] w (Aj (A0 (A.ae P).1) λw'=>Ap w FT w' (λw' z=>SF w' sb ab b 0 ld wc A8 (decide ((A.ae P).1≠0)) L (A.ae P).2.1 (A.ae P).2.2 z)):=
 Xy w (A.ae P).1 h X d (A':=(A.ae P).2.1) (P':=(A.ae P).2.2) λE _ O I _ _=>A3P E O I
def Yh{L:Nat->gF Pt}(h:∀k,DV (L k))(o:Int)(k:Nat)(t v:Int):∀i,DV (EH L o k t v i):=λi=>by
 unfold EH;split
 ·unfold HH;split
  ·exact LM (h k) _ _
  ·exact h i
 ·exact h i
def Zh(ld A8:Int)(h:gF Pu)(hp:∀p∈h,Bo p):Rel (GJ (AN A8 ld) h) h ld A8:=by
 have key:∀n (l:gF Pu),l.length=n->(∀p∈l,Bo p)->Rel (GJ (AN A8 ld) l) l ld A8/\∀k,DV (GJ (AN A8 ld) l k):=by
  intro n
  induction n with
  | zero=>
   intro l d _;obtain rfl:=HE.1 d;exact⟨Rel.bS ld A8,λ_=>List.Pairwise.nil⟩
  | succ n ih=>
   intro l d z;rcases Mk l with rfl|⟨r,p,rfl⟩
   ·cases d
   ·rw[Wu]at d z ⊢;have⟨i1,i2⟩:=ih r (by simpa using d) λx hx=>z x (G9 _ hx);have E:=z p iE;rw[Pp];obtain⟨k,t,v⟩:=p;obtain⟨⟨Y,X⟩,I,_⟩:=E;dsimp only at Y X I ⊢;obtain⟨O,rfl⟩:∃O:Nat,k=O:=⟨k.toNat,iC⟩;exact⟨i1.az (λj _=>i2 j) iC I,Yh i2 _ _ _ _⟩
 exact(key _ h rfl hp).1
def Ua{O I:gF (Int×gF Pu)}{E:Option (gF Pu)}(h:Lay P A O I E):∀n∈A.j.Ao,CK n:=λn z=>by
 rw[h.bX]at z;obtain⟨x,d,rfl⟩:=Cn.1 z;cases E with
 | none=>exact LJ (h.D7 x d).1.1
 | some l=>
  rcases AX.1 d with d|d
  ·exact LJ (h.D7 x d).1.1
  ·simp at d;subst d;exact LJ h.AB.2.2.2.2
def JG{x y a b:Nat}(h:x<=a)(d:y<=b){c:Nat}(z:a*b<=c):x*y<=c:=AO (W9 h d) z
def UK(X:FR N)(hN:N<=330000)(w:gC)(h:SF w sb ab b 0 ld wc A8 false L A P FT)(Y:∀k,FT k->k<w.heap.size)(z:St t A P pd Ad o false)(ht:t+1<=330000)(hpN:pd.length<=N)(hw:1<=wc/\wc<=4611686018427387904)(hL:Lets B w)(aA:∀k,FT k->B<=k):
 Ag 24 #[A5 sb] w (Aj (A0 (A.aR P wc).1) λw'=>Ap w FT w' (λw' I=>SF w' sb ab b 0 ld wc A8 (decide ((A.aR P wc).1≠0)) L (A.aR P wc).2.1 (A.aR P wc).2.2 I)):=by
 have⟨sg,cl,ol,hI,_⟩:=z.si rfl;have d:=hI.bM z.pb z.Be iC;have hj:=d.j;have hs:=d.s;have hsg:=d.sd;have hlg:=d.Ao;have hall:=hI.C9.2.2;have hl0:(Bk sg cl ol).length=(Ax sg).length+(Ax cl++ol.getD []).length:=by unfold Bk;rw[B3]
 have hp:=hI.AZ.pd hI.Cw;refine A19 w (A.aR P wc).1 h Y hL aA (A':=(A.aR P wc).2.1) (P':=(A.aR P wc).2.2) λw1 F0 hA h0 O E=>?_;exact A3Q X iC w1 hA h0 wc hw (by rw[hp];dsimp only;omega) (by rw[hp];exact hI.AZ.b5) ⟨hs.1,iC⟩ (by constructor<;>omega) (λx hx=>Pv (hI.AZ.E4.sd x hx)) z.pb.D8 ⟨iC,iC,iC⟩
  (JG (a:=330000) (b:=13201000) iC iC iF) iC (λn hn=>LJ (hI.AZ.E4.sd n hn)) (Ua hI.AZ) iC O E
def A27(aA:FR N)(hN:N<=330000)(w:gC)(h:SF w sb ab b 0 ld wc A8 false L A P FT)(aB:∀k,FT k->k<w.heap.size)(I:St t A P pd Ad (AN A8 ld) false)(ht:t+1<=330000)(hpN:pd.length<=N)(hw:1<=wc/\wc<=4611686018427387904)(hL:Lets B w)(aD:∀k,FT k->B<=k)(hl:1<=ld/\ld<=4611686018427387904)(hc:Ay A8):
 Ag 25 #[A5 sb] w (Aj (A0 (A.aM P wc (AN A8 ld)).1) λw'=>
  Ap w FT w' (λw' X=>SF w' sb ab b 0 ld wc A8 (decide ((A.aM P wc (AN A8 ld)).1≠0)) L (A.aM P wc (AN A8 ld)).2.1 (A.aM P wc (AN A8 ld)).2.2 X)):=by
 have⟨sg,cl,ol,hI,_⟩:=I.si rfl;have d:=hI.bM I.pb I.Be iC;have hj:=d.j;have hs:=d.s;have hsg:=d.sd;have hlg:=d.Ao;have hall:=hI.C9.2.2;have E:=hI.AZ.pd hI.Cw;refine A28 w (A.aM P wc (AN A8 ld)).1 h aB hL aD hl hc (A':=(A.aM P wc (AN A8 ld)).2.1) (P':=(A.aM P wc (AN A8 ld)).2.2) λw1 F0 hA h0 Y O=>?_;refine A3R aA iC w1 hA h0 wc (AN A8 ld) hw (λsd z=>?_) ⟨iC,JG (a:=330000) (b:=13201000) iC iC iF⟩ ⟨hs.1,iC⟩ (by constructor<;>omega) (λx hx=>Pv (hI.AZ.E4.sd x hx)) I.pb.D8 ⟨iC,iC,iC⟩
  (JG (a:=330000) (b:=13201000) iC iC iF) (λn hn=>LJ (hI.AZ.E4.sd n hn)) (Ua hI.AZ) iC Y O
 rw[hI.AZ.cu]at z;cases z;have e:sg.flatMap (·.2)++(P.pd A.j.Ao).1=Bk sg cl ol:=by rw[E];rfl
 rw[e];refine⟨iC,λp E=>?_⟩;rcases AX.1 E with E|E
 ·exact hI.AZ.dh p E
 ·exact hI.AZ.b5 p E
def Tm(w:gC)(Ft:Nat->Prop)(hd:Bw w b P Ft)(z:∀k,Ft k->k<w.heap.size)(I:PB P t)(aB:DI (Cu t) P pd Ad (AN A8 ld))(hr:Reads (Cu t) P pd (AN A8 ld))(hq:∀p∈pd,Bo p)(aA:pd.length<=t)(aG:Ad<=pd.length)(E:P.D.n.Bh=false)(ht:t<=330000)(hE:Env B w)(hl:1<=ld/\ld<=4611686018427387904)(hw:1<=wc/\wc<=4611686018427387904)(hc:Ay A8):
 Calls Tryz.prog 22 #[.pointer (some ⟨b,0,none⟩),.agg #[.int .i64 ld,.int .i64 wc],.int .i64 A8] w λe w'=>
  ∃A ab sb L,e=.returned (.tuple #[.pointer (some ⟨sb,0,none⟩),.int .i64 0])/\w.heap.size<=sb/\(∃ps,Ar.aT P=.ok (A,ps))/\St t A P pd Ad (AN A8 ld) false/\Rel L pd ld A8/\(∀k,k<8->(L k).length<=t)/\Ap w Ft w' (λw' aE=>SF w' sb ab b 0 ld wc A8 false L A P aE):=by
 have⟨A,ps,h1,h2,h3,h4⟩:=St.aT I aB hr hq aA aG E ht;have⟨sg,cl,ol,hI,_⟩:=h2.si rfl;have O:=hI.bM I aA iC;have hpl:=h3.2.2;have X:=hI.AZ.ba;refine(Tn w ld wc A8 hl hw hc z (P:=P) (Ft:=Ft) (b:=b) (λA' aF h=>by rw[h1]at h;cases h;exact⟨iC,λp I=>(h4 p I).1⟩) λw1 hk=>?_).mono ?_
 ·have Y:=hE.aL hk;refine Vz w1 (AU.av hd z hk) (λk aD=>Bp (z k aD) hk.Ak) I.D8 ⟨iC,iC,iC⟩ (JG (a:=990020) (b:=13201000) iC iC iF) Y.1 Y.2.1 (λnm hm=>A0t (aB.Az nm λe=>HL.1 hm (Jc.2 e))) (λix hx=>?_) (λd=>?_)
  ·rw[X]at hx;cases hx;have:=O.sd;exact⟨iC,JG (a:=330000) (b:=13201000) iC iC iF⟩
  ·have h5:=Zw I.D8 (BV d P.Az);have h6:=N2 d P.Az;have h7:=O.Az;have h8:(BV d P.Az).length*(40*t+1000)<=13069254020000:=JG (a:=990020) (b:=13201000) iC iC iF;omega
 ·rintro e w' (⟨n,q1,-⟩|⟨A',aF,ab,sb,q1,rfl,q2,q3⟩)
  ·rw[h1]at q1;cases q1
  ·rw[h1]at q1;cases q1;refine⟨A,ab,sb,_,rfl,q2,⟨_,h1⟩,h2,?_,λk hk=>AO (Pq _ k _ ps rfl) iC,q3⟩;exact Sv (Zh ld A8 ps h4) hq h3
end
end
section
open Go.RowKit
attribute [local go_sem ↓] Go.wp_at_zero Go.wp_at_succ
def PB.en{P:PD}{t:Nat}(h:PB P t)(ht:t<=330000):WG P.D P.F:=
 ⟨700000*(t+1),iC,h.Aq,by have:=h.D8.A6;omega,by have:=h.D8.AG;omega,λl z=>by have:=h.D8.G6 l z;omega,by have:=h.D8.Am;omega,λf d=>by have:=h.D8.Be f d;omega⟩
def Dv{S:Nat->Prop}{w w':gC}(E:A4 S w w'){x o:Nat}{u:gD}(h:A7 w x o u)(d:¬S x):A7 w' x o u:=by
 have z:=GV w _ h;exact(DU (E.Al x z d)).trans h
def Ap.b9{w w':gC}{Ft:Nat->Prop}{R z:gC->(Nat->Prop)->Prop}(h:Ap w Ft w' R)(L:∀d,R w' d->z w' d):Ap w Ft w' z:=by
 obtain⟨I,F,E,O⟩:=h;exact⟨I,F,L F E,O⟩
def Live(t M sb ab b:Nat)(ld wc A8:Int):Kind:=λw FT=>∃d L A P q Ad,SF w sb ab b 0 ld wc A8 d L A P FT/\(d=false->St t A P q Ad (AN A8 ld) false/\(∀k,k<8->(L k).length<=t)/\q.length<=M)
section
variable{w:gC}{t M N B sb ab b:Nat}{ld wc A8:Int}{FT:Nat->Prop}
def A0X(w:gC)(p:Pu)(h:Live t M sb ab b ld wc A8 w FT)(d:∀k,FT k->k<w.heap.size)(ht:t+1<=330000)(O:Bo p)(hL:Lets B w)(X:∀k,FT k->B<=k)(hl:1<=ld/\ld<=4611686018427387904)(hc:Ay A8):
 Ag 23 #[A5 sb,A0 p.1,A0 p.2.1,A0 p.2.2] w λe w'=>(∃c,e=.returned (A0 c))/\Ap w FT w' (Live (t+1) (M+1) sb ab b ld wc A8):=by
 obtain⟨ro,L,A,P,q,Ad,h1,h2⟩:=h;cases ro with
 | true=>
  refine(SQ w p.1 p.2.1 p.2.2 h1 d O.1).k ?_;rintro w' Y;exact⟨⟨_,rfl⟩,Y.b9 λF E=>⟨true,L,A,P,q,Ad,E,λe=>by cases e⟩⟩
 | false=>
  have⟨hS,hk,hq⟩:=h2 rfl;obtain⟨-,-,-,-,-,a6,-⟩:=hS.af ht p O;refine(SO w p h1 d hS ht O hL X hk hl hc).k ?_;rintro w' Y;refine⟨⟨_,rfl⟩,Y.b9 λF E=>⟨_,_,_,_,q++[p],Ad,E,λe=>?_⟩⟩;have z:(A.af P p).2.1=0:=by
   by_cases z:(A.af P p).2.1=0
   ·exact z
   ·rw[CN z]at e;cases e
  have⟨b1,b2⟩:=a6 z;refine⟨b2,λk I=>?_,by simp;omega⟩;rw[Ai b1];have:=Po L (AN A8 ld) p.1.toNat p.2.1 p.2.2 k;have:=hk k I;omega
def A0Y(O:FR N)(hN:N<=330000)(w:gC)(h:Live t M sb ab b ld wc A8 w FT)(d:∀k,FT k->k<w.heap.size)(ht:t+1<=330000)(hM:M<=N)(hw:1<=wc/\wc<=4611686018427387904)(hL:Lets B w)(X:∀k,FT k->B<=k):
 Ag 24 #[A5 sb] w λe w'=>(∃c,e=.returned (A0 c))/\Ap w FT w' (Live (t+1) M sb ab b ld wc A8):=by
 obtain⟨ro,L,A,P,q,Ad,h1,h2⟩:=h;cases ro with
 | true=>
  refine(UL w h1 d).k ?_;rintro w' Y;exact⟨⟨_,rfl⟩,Y.b9 λF E=>⟨true,L,A,P,q,Ad,E,λe=>by cases e⟩⟩
 | false=>
  have⟨hS,hk,hq⟩:=h2 rfl;obtain⟨-,-,-,-,a5⟩:=hS.aR (Gi wc) ht;refine(UK O hN w h1 d hS ht iC hw hL X).k ?_;rintro w' Y;refine⟨⟨_,rfl⟩,Y.b9 λF E=>⟨_,_,_,_,q,q.length,E,λe=>?_⟩⟩;have z:(A.aR P wc).1=0:=by
   by_cases z:(A.aR P wc).1=0
   ·exact z
   ·rw[CN z]at e;cases e
  exact⟨a5 z,λk I=>by have:=hk k I;omega,hq⟩
end
def PD.b2(P:PD):PD:=⟨{P.D with n:=EU {P.D.n with CZ:=if (0:Int)>0 then wrap64 (P.D.n.Bc+0) else 0} 0 0},P.F⟩
section
variable{wb b t N B:Nat}{n:WN}{P:PD}{Ft:Nat->Prop}{ld wa A8:Int}{q:gF Pu}{Ad:Nat}
def Xp(b8:FR N)(hN:N<=330000)(w:gC)(h:AR w wb n)(b1:n.dv=(A5 b))(bG:n.Cy=A8)(hd:Bw w b P Ft)(bH:∀k,Ft k->k<w.heap.size)(hp:PB P t)(X:DI (Cu t) P q Ad (AN A8 ld))(hr:Reads (Cu t) P q (AN A8 ld))(hq:∀p∈q,Bo p)(bV:q.length<=t)(bR:Ad<=q.length)(aF:P.D.n.Bh=false)(ht:t+3<=330000)(bS:q.length+2<=N)(hE:Env B w)(hl:1<=ld/\ld<=4611686018427387904)(hw:1<=wa/\wa<=4611686018427387904)(hc:Ay A8):
 Ag 46 #[A5 wb,.agg #[A0 ld,A0 wa]] w (Aj (.tuple #[]) λw'=>A4 Aa w w'):=by
 have hA:=(A4.C Aa w).ai (.cells #[A0 ld,A0 wa] 48);have aH:=Bn w (.cells #[A0 ld,A0 wa] 48);have bJ:(w.alloc (.cells #[A0 ld,A0 wa] 48)).heap.size=w.heap.size+1:=iE
 generalize hw0:(w.alloc (.cells #[A0 ld,A0 wa] 48))=w0 at hA aH bJ;have aM:Hid (w.heap.size<w0.heap.size/\wb<w0.heap.size):=⟨iC,by have:=h.lt;omega⟩;have q0:A7 w0 w.heap.size 0 (A0 ld):=CJ aH;have q1:A7 w0 w.heap.size 1 (A0 wa):=CJ aH;have c4:=(h.ak hA).c4;rw[b1]at c4;have cG:=A1 (Vb (AU.av hd bH hA) (hp.en iC));have H:=A1 h;have aX:=A1 hE;have aE:=A1 hA
 have bF:Hid (∀(E:gC) (b2:Nat) (z:Nat->Prop),Bw E b2 P.b2 z->(∀k,z k->k<E.heap.size)->Env B E->Ag 22 #[A5 b2,.agg #[A0 ld,A0 wa],A0 A8] E λe w'=>
  ∃ab sb,e=.returned (.tuple #[A5 sb,A0 0])/\E.heap.size<=sb/\Ap E z w' (Live t q.length sb ab b2 ld wa A8)):=λE b2 z g1 g2 g3=>by
  have b6:PB P.b2 t:=hp.bR _ rfl ⟨by simp[EU],by simp[EU]⟩ rfl rfl;refine(Tm (t:=t) (pd:=q) (Ad:=Ad) E z g1 g2 b6 ⟨X.E6,X.Aq,X.Ck,X.CG⟩ (hr.av λ_=>rfl) hq bV bR aF iC g3 hl hw hc).mono ?_;rintro e w'⟨A,ab,sb,L,rfl,k1,-,k2,k3,k4,k5⟩;exact⟨ab,sb,rfl,k1,k5.b9 λF k6=>⟨false,L,A,_,q,Ad,k6,λ_=>⟨k2,k4,An _⟩⟩⟩
 have a6:Hid (∀(O:gC) (sb ab b2 t' M:Nat) (FT:Nat->Prop) (p:Pu),Bo p->t'+1<=330000->Live t' M sb ab b2 ld wa A8 O FT->(∀k,FT k->k<O.heap.size)->Lets B O->(∀k,FT k->B<=k)->
  Ag 23 #[A5 sb,A0 p.1,A0 p.2.1,A0 p.2.2] O λe w'=>(∃c,e=.returned (A0 c))/\Ap O FT w' (Live (t'+1) (M+1) sb ab b2 ld wa A8)):=λO sb ab b2 t' M FT p g1 g2 g3 g4 g5 g6=>A0X O p g3 g4 g2 g1 g5 g6 hl hc
 have cA:Bo ((0:Int),A8,(4626322:Int)):=⟨⟨iE,iE⟩,hc,(show Ay 4626322 from ⟨iF,iF⟩)⟩;have a8:Bo ((7:Int),(0:Int),(4626322:Int)):=⟨⟨iE,iE⟩,(show Ay 0 from ⟨iF,iF⟩),(show Ay 4626322 from ⟨iF,iF⟩)⟩;have cB:=A1 cA;have bW:=A1 a8;have b5:=A1 ht;have cC:=A1 bS;have bK:=A1 hN;have bX:=A1 hw
 go_enter func46,ntmps46
 go_wp2_with (first
  | (go_at_call 47;refine cG.m ?_;rintro e w1⟨b2,Ft2,rfl,bU,aS,bN⟩;have a9:=A1 bU;have aA:=A1 aS;have aV:=A1 bN)
  | (go_at_call 35;refine(V5 a9.o 0).k ?_;rintro w2⟨aY,bA,aQ,aW,aN⟩
     have bI:=A1 aQ;have a7:Hid (∀k,bA k->w0.heap.size<=k/\k<w2.heap.size):=λk d=>⟨(aN k d).elim (λh=>(aA.o k h).1) (λh=>AO aV.o.Ak h),aW k d⟩
     have aT:Hid (A4 Aa w0 w2):=aV.o.bU aY (λx hx=>(aA.o x hx).1)
     clear aY aQ aW aN)
  | (go_at_call 78;refine(UP bI.o 0 0).k ?_;rintro E⟨aU,z,a4,a1,a0⟩
     have bD:Hid (Bw E b2 P.b2 z):=a4;have aI:Hid (∀k,z k->w0.heap.size<=k/\k<E.heap.size):=λk d=>⟨(a0 k d).elim (λh=>(a7.o k h).1) (λh=>AO aT.o.Ak h),a1 k d⟩
     have I:Hid (A4 Aa w0 E):=aT.o.bU aU (λx hx=>(a7.o x hx).1)
     clear aU a4 a1 a0))
 have d0:=I.o.ad q0;have d1:=I.o.ad q1;have d10:=(H.o.ak (aE.o.tr I.o)).br;rw[bG]at d10;have bE:Bw E.drew b2 P.b2 z:=AU.av bD.o (λk d=>(aI.o k d).2) (A4.C Aa E).aa;have cH:=A1 (bF.o E.drew b2 z bE (λk d=>(aI.o k d).2) ((aX.o.aL aE.o).aL (I.o.AF (A4.C Aa E).aa λ_ h _=>h)));refine Bq (λw'=>A7 w' w.heap.size 0 (A0 ld)/\A7 w' w.heap.size 1 (A0 wa)/\A7 w' wb 10 (A0 A8)) 11
  (Ba [0,1,2,3,4,5,6,7,8,9,10] [6]) ⟨d0,d1,d10⟩ ?_
 iterate 6 refine B4 ?_
 refine Bf λK hK=>?_;go_simp;refine cH.m ?_;rintro e O⟨ab,sb,rfl,hsb,hI⟩;have aL:B<=w0.heap.size:=AO aX.o.1.1 aE.o.Ak;have aK:Hid (∀k,z k->w0.heap.size<=k):=λk d=>(aI.o k d).1
 obtain⟨Y,a2,bL,a3,bM⟩:=hI;have aD:Hid (∀k,a2 k->w0.heap.size<=k):=λk d=>(bM k d).elim (aK.o k) λh=>AO I.o.Ak h
 have aJ:Hid (A4 Aa w0 O):=(I.o.AF (A4.C Aa E).aa λ_ h _=>h).bU Y aK.o;have ff:∀x,x<w0.heap.size->¬z x:=λx hx d=>by have:=aK.o x d;omega
 have x0:=Dv Y d0 (ff _ aM.o.1);have x1:=Dv Y d1 (ff _ aM.o.1);have bP:=Dv Y d10 (ff _ aM.o.2);refine hK _ _ ⟨x0,x1,bP⟩ (λhS=>?_);have bY:Hid (Env B O):=(aX.o.aL aE.o).aL aJ.o;have cE:=A1 (a6.o O sb ab b2 t q.length a2 _ cB.o (by have:=b5.o;omega) bL a3 bY.o.1 λk d=>AO aL (aD.o k d))
 iterate 4 refine B4 ?_
 refine Bl ?_;go_wp2_with (fail);refine cE.m ?_;rintro e w5⟨⟨c1,rfl⟩,bQ,a5,b9,aZ,bB⟩;have aB:Hid (∀k,a5 k->w0.heap.size<=k):=λk d=>(bB k d).elim (aD.o k) λh=>AO aJ.o.Ak h
 have aG:Hid (A4 Aa w0 w5):=aJ.o.bU bQ aD.o;have b0:Hid (Env B w5):=(aX.o.aL aE.o).aL aG.o;have cF:=A1 (a6.o w5 sb ab b2 (t+1) (q.length+1) a5 _ bW.o (by have:=b5.o;omega) b9 aZ b0.o.1 λk d=>AO aL (aB.o k d));go_wp2_with (fail);refine cF.m ?_;rintro e w6⟨⟨c2,rfl⟩,bC,bT,b7,aR,b3⟩;have aO:Hid (∀k,bT k->w0.heap.size<=k):=λk d=>(b3 k d).elim (aB.o k) λh=>AO aG.o.Ak h
 have aP:Hid (A4 Aa w0 w6):=aG.o.bU bC aB.o;have bZ:Hid (Env B w6):=(aX.o.aL aE.o).aL aP.o;have cD:=A1 (A0Y b8 bK.o w6 b7 aR (by have:=b5.o;omega) (by have:=cC.o;omega) bX.o bZ.o.1 λk d=>AO aL (aO.o k d));go_wp2_with (fail);refine cD.m ?_;rintro e w7⟨⟨c3,rfl⟩,bO,-⟩;have b4:Hid (A4 Aa w0 w7):=aP.o.bU bO aO.o;go_wp2;go_end0;exact⟨rfl,aE.o.tr b4.o⟩
end
def A24{ld wa:Int}(hl:1<=ld/\ld<=4611686018427387904)(hw:1<=wa/\wa<=4611686018427387904):JR ld wa=true:=by simp[JR];omega
def A25{ld wa:Int}(h:¬((1<=ld/\ld<=4611686018427387904)/\(1<=wa/\wa<=4611686018427387904))):JR ld wa=false:=by
 simp only[JR,A2w];omega
section
variable{w w':gC}{wb:Nat}{n:WN}{b:Nat}{D:DS}{F:Nat->FC}{Ft:Nat->Prop}
def Qf(h:AU w b D F Ft):Ag 49 #[A5 b] w (Aj (A0 D.n.Bc) λw'=>w=w'):=by
 have⟨vd,vs,vc,h⟩:=h.Ae;have h4:=h.c4
 go_enter func49,ntmps49
 go_wp2;go_ret;exact⟨rfl,rfl⟩
end
def GR(A8 d:Int):Int:=if 0<=d then DL A8 d else A8
def Vj{A8 d:Int}(L:Ay A8)(I:Ay d):Ay (GR A8 d)/\A8<=GR A8 d:=by
 unfold GR;obtain⟨E,z⟩:=L;split
 ·rename_i h;refine⟨Mz ⟨E,z⟩ h I.2,?_⟩;unfold DL;split<;>omega
 ·exact⟨⟨E,z⟩,II _⟩
def A3A(w:gC)(wb:Nat)(n:WN)(A8 d ld wa:Int)(h:AR w wb n)(E:n.Cy=A8):∃z,A4 (One wb) w z/\z.heap.size=w.heap.size+1/\AR z wb {n with Cy:=GR A8 d}/\
 z.heap[w.heap.size]?=some (.cells #[A0 ld,A0 wa] 48 (0,0))/\(0<=d->(w.setCell (A9 wb 10) (A0 (GR A8 d))).alloc (.cells #[A0 ld,A0 wa] 48)=z)/\(¬0<=d->w.alloc (.cells #[A0 ld,A0 wa] 48)=z):=by
 by_cases I:0<=d
 ·refine⟨(w.sC wb 10 (A0 (GR A8 d))).aC #[A0 ld,A0 wa] 48,((A4.C (One wb) w).an rfl 10 _).ai _,iE,(h.cv _).ak ((A4.C Aa _).ai _),?_,λ_=>rfl,λh=>absurd I h⟩;have:=Bn (w.sC wb 10 (A0 (GR A8 d))) (.cells #[A0 ld,A0 wa] 48);simpa using this
 ·have e:GR A8 d=A8:=by unfold GR;rw[Af I]
  have L:({n with Cy:=A8}:WN)=n:=by subst E;rfl
  refine⟨w.aC #[A0 ld,A0 wa] 48,((A4.C (One wb) w)).ai _,iE,?_,Bn _ _,λh=>absurd h I,λ_=>rfl⟩;rw[e,L];exact h.ak ((A4.C Aa _).ai _)
def Co.ew{w w':gC}{H:Nat->Prop}{wb b b2:Nat}{n n':WN}{ld:Int}{R R':Kind}{FT z:Nat->Prop}{pd:gF Pu}{I:gF (gD×Int)}(h:LW w H wb n b ld R FT pd I)(L:A4 (One wb) w w')(hb:AR w' wb n')(e1:n'.dv=(A5 b2))(e2:n'.ld=n.ld)(e3:n'.pv=n.pv)(e4:n'.lv=n.lv)(hs:Jf R')(hd:R' w' z)(O:∀k,z k->k<w'.heap.size)(X:∀k,z k->w.heap.size<=k):LW w' H wb n' b2 ld R' z pd I:=by
 have Y:∀k,Ff wb n' I k->Ff wb n I k:=λk d=>by unfold Ff at d ⊢;rwa [e3,e4]at d
 refine⟨hb,e1,e2.trans h.FO,hs,hd,O,?_,?_,λk d hx=>?_,λk d=>h.Dz k (Y k d),λk d=>h.DP k (X k d),λk d=>h.DP k (AO L.Ak d),λe he=>(h.rd e he).aj L λg E e=>(h.b4 he E).1 e⟩
 ·rw[e3];exact Au h.Dq λg E=>L.Al g (Aw h.Dq E) λe=>h.cB (by cases e;exact E)
 ·rw[e4];exact Au h.En λg E=>L.Al g (Aw h.En E) λe=>h.cd (by cases e;exact E)
 ·have:=h.b8 (Y k d);have:=X k hx;omega
def A0g(w:gC)(ld wa A8:Int)(db:Option Addr)(h:¬(1<=ld/\ld<=4611686018427387904)\/¬(1<=wa/\wa<=4611686018427387904)):
 Ag 22 #[.pointer db,.agg #[A0 ld,A0 wa],A0 A8] w (Aj (.tuple #[.pointer none,A0 1]) λw'=>A4 Aa w w'):=by
 have X:=(A4.C Aa w).ai (.cells #[A0 ld,A0 wa] 48);have z:=Bn w (.cells #[A0 ld,A0 wa] 48);generalize hw0:(w.alloc (.cells #[A0 ld,A0 wa] 48))=w0 at X z;have q0:A7 w0 w.heap.size 0 (A0 ld):=CJ z;have q1:A7 w0 w.heap.size 1 (A0 wa):=CJ z;have O:=A1 X;by_cases L:1<=ld/\ld<=4611686018427387904
 ·have Y:¬(1<=wa/\wa<=4611686018427387904):=h.resolve_left (λh=>h L);have E:Hid (∀w',Ag 58 #[A0 ld] w' λe d=>e=.returned (.bool true)/\w'=d):=λw'=>by
   have:=LG w' ld
   rwa [CN L]at this
  have I:Hid (∀w',Ag 58 #[A0 wa] w' λe d=>e=.returned (.bool false)/\w'=d):=λw'=>by
   have:=LG w' wa
   rwa [CO Y]at this
  go_enter func22,ntmps22
  go_wp2_with (first
   | (go_at_call 58;refine(E.o _).k ?_;rintro w' rfl)
   | (go_at_call 58;refine(I.o _).k ?_;rintro w' rfl))
  go_ret2;exact⟨rfl,O.o⟩
 ·have E:Hid (∀w',Ag 58 #[A0 ld] w' λe d=>e=.returned (.bool false)/\w'=d):=λw'=>by
   have:=LG w' ld
   rwa [CO L]at this
  go_enter func22,ntmps22
  go_wp2_with (go_at_call 58;refine(E.o _).k ?_;rintro w' rfl);go_ret2;exact⟨rfl,O.o⟩
section
variable{w w':gC}{H:Nat->Prop}{wb sb ab b t:Nat}{n:WN}{ld wc A8:Int}{ro:Bool}{L:Nat->gF Pt}{A:Ar}{P:PD}{FT:Nat->Prop}{pd:gF Pu}{ls:gF (gD×Int)}
def Co.Bc(h:LW w H wb n b ld (KS sb ab b ld wc A8 ro L A P) FT pd ls):Ag 49 #[A5 b] w (Aj (A0 P.D.n.Bc) λw'=>w=w'):=by
 obtain⟨Ft,d,-⟩:=SF.dk h.Es;exact Qf d
def Co.Bm(h:LW w H wb n b ld (KS sb ab b ld wc A8 ro L A P) FT pd ls):Ag 50 #[A5 b] w (Aj (A0 P.D.n.Bm) λw'=>w=w'):=by
 obtain⟨Ft,d,-⟩:=SF.dk h.Es;exact OK d
def Co.fulls(h:LW w H wb n b ld (KS sb ab b ld wc A8 ro L A P) FT pd ls):Ag 88 #[A5 b] w (Aj (A0 P.D.n.fulls) λw'=>w=w'):=by
 obtain⟨Ft,d,-⟩:=SF.dk h.Es;exact UJ d
def Co.Bh(h:LW w H wb n b ld (KS sb ab b ld wc A8 ro L A P) FT pd ls):Ag 36 #[A5 b] w (Aj (.bool P.D.n.Bh) λw'=>w=w'):=by
 obtain⟨Ft,d,-⟩:=SF.dk h.Es;exact UX d
def PB.bA(h:PB P t)(ht:t<=330000):AV P.F P.D.A6<=4611686018427387904:=AO h.D8.bA (JG (a:=990020) (b:=13201000) iC iC iF)
def Co.bA(h:LW w H wb n b ld (KS sb ab b ld wc A8 ro L A P) FT pd ls)(hu:AV P.F P.D.A6<=4611686018427387904):Ag 90 #[A5 b] w (Aj (A0 (AV P.F P.D.A6)) λw'=>A4 Aa w w'):=by
 obtain⟨Ft,d,-⟩:=SF.dk h.Es;exact Xh d hu
def Co.dW(h:LW w H wb n b ld (KS sb ab b ld wc A8 ro L A P) FT pd ls):Ag 48 #[A5 wb] w (Aj (.agg #[A0 P.D.n.Bm,A0 P.D.n.fulls]) λw'=>A4 Aa w w'):=by
 obtain⟨Ft,d,z,-⟩:=SF.dk h.Es;exact TU w h.Ae h.D9 d z
def PO(h:PB P t)(d:t<=330000):IntKind.i64.wrap (P.D.n.Av-(AV P.F P.D.A6:Int))=P.D.n.Av-(AV P.F P.D.A6:Int):=by
 have h1:=h.D8.Av;have h2:=h.bA d;simp[IntKind.wrap,IntKind.bits,IntKind.signed];omega
def Vx(w:gC)(E z c d:Int)(aA:c=5/\d=0\/c=6/\d=1)(h:LW w H wb n b ld (KS sb ab b ld wc A8 ro L A P) FT pd ls)(h1:P.D.n.Bm=E+1)(h2:P.D.n.fulls=z+d)(_hr:0<=E/\E<=330000)(_hf:0<=z/\z<=330000):
 Ag 51 #[A5 wb,A0 c,.agg #[A0 E,A0 z]] w (Aj (.bool true) λw'=>A4 Aa w w'):=by
 have Y:=(A4.C Aa w).ai (.cells #[A0 E,A0 z] 85);have I:=Bn w (.cells #[A0 E,A0 z] 85);generalize hw0:w.alloc (.cells #[A0 E,A0 z] 85)=w0 at Y I;have m0:A7 w0 w.heap.size 0 (A0 E):=CJ I;have m1:A7 w0 w.heap.size 1 (A0 z):=CJ I;have O:=h.ak Y;have c4:=O.Ae.c4;rw[O.D9]at c4;have aB:=A1 ((O.ak (A4.C Aa w0).aa).Bm);have aD:=A1 ((O.ak (A4.C Aa w0).aa.aa).fulls);rw[h1]at aB;rw[h2]at aD;have aE:=A1 Y;have s1:IntKind.i64.wrap (E+1-E)=1:=by simp[IntKind.wrap,IntKind.bits,IntKind.signed];omega
 have s2:IntKind.i64.wrap (z+d-z)=d:=by simp[IntKind.wrap,IntKind.bits,IntKind.signed];omega
 clear h1 h2 _hr _hf;rcases aA with⟨rfl,rfl⟩|⟨rfl,rfl⟩
 all_goals
  go_enter func51,ntmps51
  go_wp2_with (fail);refine Bq (λw'=>A7 w' wb 4 (A5 b)/\A7 w' w.heap.size 0 (A0 E)) 7
   (Ba [0,1,2,3,5,6,4] [4]) ⟨c4,m0⟩ ?_
  iterate 6 refine B4 ?_
  refine Bf λK X=>?_;go_simp;refine aB.k ?_;rintro w9 rfl;refine X _ _ ⟨c4,m0⟩ (λhS=>?_)
  skip
  refine Bl ?_;go_wp2_with (fail);refine Bq (λw'=>A7 w' wb 4 (A5 b)/\A7 w' w.heap.size 1 (A0 z)) 7
   (Ba [0,1,2,3,5,6,4] [4]) ⟨c4,m1⟩ ?_
  iterate 6 refine B4 ?_
  refine Bf λK X=>?_;go_simp;refine aD.k ?_;rintro w9 rfl;refine X _ _ ⟨c4,m1⟩ (λhS=>?_)
  skip
  refine Bl ?_;go_wp2;go_ret;exact⟨rfl,aE.o.aa.aa⟩
def Vy(w:gC)(z d:Int)(h:LW w H wb n b ld (KS sb ab b ld wc A8 ro L A P) FT pd ls)(I:P.D.n.Bm=z+1)(E:P.D.n.fulls=d)(_hr:0<=z/\z<=330000)(_hf:0<=d/\d<=330000):
 Ag 51 #[A5 wb,A0 5,.agg #[A0 z,A0 d]] w (Aj (.bool true) λw'=>A4 Aa w w'):=
 Vx w z d 5 0 (.inl ⟨rfl,rfl⟩) h I (by rw[E,Int.add_zero]) _hr _hf
def Vw(w:gC)(z d:Int)(h:LW w H wb n b ld (KS sb ab b ld wc A8 ro L A P) FT pd ls)(I:P.D.n.Bm=z+1)(E:P.D.n.fulls=d+1)(_hr:0<=z/\z<=330000)(_hf:0<=d/\d<=330000):
 Ag 51 #[A5 wb,A0 6,.agg #[A0 z,A0 d]] w (Aj (.bool true) λw'=>A4 Aa w w'):=
 Vx w z d 6 1 (.inr ⟨rfl,rfl⟩) h I E _hr _hf
end
def BL(d a b c:Int)(tv:gD):Obj:=.cells #[.int .i64 d,.int .i64 a,.int .i64 b,.int .i64 c,tv] 34
def W0(w:gC)(x:Nat)(d a b c:Int):Prop:=A7 w x 0 (A0 d)/\A7 w x 1 (A0 a)/\A7 w x 2 (A0 b)/\A7 w x 3 (A0 c)
def GI(w:gC)(h a b c:Int)(tv:gD):W0 (w.alloc (BL h a b c tv)) w.heap.size h a b c:=by
 have d:=Bn w (.cells #[A0 h,A0 a,A0 b,A0 c,tv] 34);unfold W0 BL;refine⟨?_,?_,?_,?_⟩<;>(simp only[A7,World.cell?,d];rfl)
def Tryz.fv:(Tryz.prog.info? 141).map (λi=>(i.zero,i.size,i.bytes))=some (some (.agg #[A0 0,A0 0,A0 0]),3,24):=by kernel_rfl
section
variable{w w':gC}{H:Nat->Prop}{wb sb ab b t B:Nat}{n:WN}{ld wc A8:Int}{ro:Bool}{L:Nat->gF Pt}{A:Ar}{P:PD}{FT:Nat->Prop}{pd:gF Pu}{ls:gF (gD×Int)}
def OC(w:gC){r:Int}(h:r=DM n.Av):Ag 42 #[A0 n.Av] w (Aj (A0 r) λw'=>w=w'):=by rw[h];exact Sc w n.Av
def QU(w:gC)(kd k Y v cd:Int)(tv:gD)(h:LW w H wb n b ld (KS sb ab b ld wc A8 ro L A P) FT pd ls)(aH:n.sv=(A5 sb))(hp:PB P t)(ht:t<=330000)(aI:P.D.n.Av=DM n.Av)(hq:(cd=2/\FM k=false)\/(cd=4/\FM k=true/\n.CU=true))(aM:∀d aD,KS sb ab b ld wc A8 ro L A P d aD->(∀k,aD k->k<d.heap.size)->Ag 23 #[A5 sb,A0 k,A0 Y,A0 v] d λe w'=>e=.returned (A0 cd)/\Ap d aD w' (KS sb ab b ld wc A8 ro L A P)):
 Ag 54 #[A5 wb,.agg #[A0 kd,A0 k,A0 Y,A0 v,tv]] w λe w'=>e=.returned (.bool true)/\A4 H w w'/\
  ∃aE,LW w' H wb n b ld (KS sb ab b ld wc A8 ro L A P) aE pd ls:=by
 have a6:=A1 hq;have aL:=A1 aM;clear hq aM;have hA:=(A4.C Aa w).ai (BL kd k Y v tv);obtain⟨-,o1,o2,o3⟩:=GI w kd k Y v tv;have h1:=h.ak hA;have aY:=h.lt;have aA:w.heap.size<(w.alloc (BL kd k Y v tv)).heap.size:=iE
 generalize aS:w.alloc (BL kd k Y v tv)=w1 at hA o1 o2 o3 h1 aA;unfold BL at aS;obtain⟨X,aW⟩:=iG P.D.n.Bm;obtain⟨O,aU⟩:=iG P.D.n.fulls;obtain⟨cn,aP⟩:=iG P.D.n.Bc;obtain⟨rm,aB⟩:=iG P.D.n.Av;obtain⟨us,I⟩:=iG (AV P.F P.D.A6);have aZ:=PO hp ht;have a3:=A1 h1.dW;rw[aW,aU]at a3;rw[aB,I]at aZ;rw[aB]at aI;have aJ:=A1 aP;have aG:Hid (AV P.F P.D.A6=us/\us<=4611686018427387904):=⟨I,by rw[<-I];exact hp.bA ht⟩;have a8:=A1 hA;have aR:=A1 h1;have aV:=A1 aY
 go_enter func54,ntmps54
 go_wp2_with (fail);refine a3.k ?_;rintro E k2;have v4:A7 (E.alloc (.cells #[A0 X,A0 O] 85)) wb 4 (A5 b):=((aR.o.ak (k2.ai _)).Ae.c4).trans (by rw[aR.o.D9]);go_wp2_with (fail);have k3:A4 Aa w1 (E.alloc (.cells #[A0 X,A0 O] 85)):=k2.ai _;have aK:=Bn E (.cells #[A0 X,A0 O] 85);have m0:A7 (E.alloc (.cells #[A0 X,A0 O] 85)) E.heap.size 0 (A0 X):=by simp only[A7,World.cell?,aK];rfl
 have m1:A7 (E.alloc (.cells #[A0 X,A0 O] 85)) E.heap.size 1 (A0 O):=by simp only[A7,World.cell?,aK];rfl
 have a5:Hid (w1.heap.size<=E.heap.size/\w.heap.size<w1.heap.size):=⟨k2.Ak,aA⟩;generalize E.alloc (.cells #[A0 X,A0 O] 85)=w3 at k3 m0 m1 v4 ⊢;have aO:=A1 (aR.o.ak k3);have a7:Hid (A4 Aa w w3):=a8.o.tr k3;have p1:=k3.ad o1;have p2:=k3.ad o2;have p3:=k3.ad o3;have a4:=A1 aO.o.Bc;rw[aJ.o]at a4;refine a4.k ?_;rintro d rfl;have c2:=aO.o.Ae.c2;have bA:=A1 (OC w3.drew aI);have bB:Hid (Ag 90 #[A5 b] w3.drew λe w'=>e=.returned (A0 us)/\A4 Aa w3.drew w'):=by
  have:=(aO.o.ak (A4.C Aa w3).aa).bA (by rw[aG.o.1];exact aG.o.2);rw[aG.o.1]at this;exact this
 go_wp2;refine Bq (λw'=>A7 w' wb 2 (A0 n.Av)/\A7 w' wb 4 (A5 b)) 12
  (Ba [0,1,2,3,4,6,7,8,9,5,10,11] [5,10]) ⟨c2,v4⟩ ?_
 iterate 9 refine B4 ?_
 refine Bf λK hK=>?_;go_simp;refine bA.k ?_;rintro d rfl;refine hK _ _ ⟨c2,v4⟩ (λhS=>?_);refine Bf λK hK=>?_;go_simp;refine bB.k ?_;rintro d k4;have z:A4 Aa w3 d:=⟨k4.os,k4.DZ,k4.E3,k4.Ak,k4.Al⟩;refine hK _ _ ⟨z.ad c2,z.ad v4⟩ (λhS=>?_);have a1:=A1 (aO.o.ak (z.AF (A4.C Aa d).aa λ_ h _=>h));have a9:Hid (A4 Aa w d.drew):=a7.o.tr (z.AF (A4.C Aa d).aa λ_ h _=>h);have q1:=z.ad p1;have q2:=z.ad p2;have q3:=z.ad p3;have n0:=z.ad m0;have n1:=z.ad m1;refine B4 ?_;refine Bl ?_;go_wp2
 have bC:Hid (Ag 23 #[A5 sb,A0 k,A0 Y,A0 v] d.drew λe w'=>e=.returned (A0 cd)/\A4 H d w'/\A7 w' wb 5 (A5 sb)/\A7 w' w.heap.size 1 (A0 k)/\A7 w' w.heap.size 2 (A0 Y)/\A7 w' w.heap.size 3 (A0 v)/\
  w'.cell? (A9 E.heap.size 0)=some (A0 X)/\A7 w' E.heap.size 1 (A0 O)/\∃aE,LW w' H wb n b ld (KS sb ab b ld wc A8 ro L A P) aE pd ls):=by
  have aF:=a1.o;refine(aL.o d.drew FT aF.Es aF.lt).k ?_;rintro w' hS;have⟨r1,FT2,r2⟩:=aF.cS (KS.E1 sb ab b ld wc A8 ro L A P) hS;have nb:∀x,w.heap.size<=x->¬FT x:=λx hx hy=>by have:=aV.o x hy;omega
  have hm:w.heap.size<=E.heap.size:=by have:=a5.o;omega
  exact⟨rfl,⟨r1.os,r1.DZ,r1.E3,r1.Ak,r1.Al⟩,r2.Ae.c5.trans (by rw[aH]),Dv (w:=d.drew) hS.1 q1 (nb _ (An _)),Dv (w:=d.drew) hS.1 q2 (nb _ (An _)),Dv (w:=d.drew) hS.1 q3 (nb _ (An _)),Dv (w:=d.drew) hS.1 n0 (nb _ hm),Dv (w:=d.drew) hS.1 n1 (nb _ hm),FT2,r2⟩
 have c5:=a1.o.Ae.c5;rw[aH]at c5;have aQ:Hid (A4 Aa w d.drew):=a9.o;refine Bq (λw'=>A7 w' wb 5 (A5 sb)/\A7 w' w.heap.size 1 (A0 k)/\A7 w' w.heap.size 2 (A0 Y)/\A7 w' w.heap.size 3 (A0 v)) 11
  (Ba [0,1,2,3,4,5,6,7,8,9,10] [10]) ⟨c5,q1,q2,q3⟩ ?_
 iterate 10 refine B4 ?_
 refine Bf λK hK=>?_;go_simp;refine bC.k ?_;rintro w5⟨k5,d5,r1,r2,r3,m5,m6,aX,hR⟩;refine hK _ _ ⟨d5,r1,r2,r3⟩ (λhS=>?_);have bD:Hid (A4 H w w5):=(aQ.o.aS (S:=H)).tr (⟨k5.os,k5.DZ,k5.E3,k5.Ak,k5.Al⟩:A4 H d.drew w5);have a0:=A1 hR;have d9:=hR.Ae.c9;have d4:=hR.Ae.c4;rw[hR.D9]at d4;refine Bl ?_;have a2:Hid (∀w',Ag 91 #[A0 k] w' λe E=>e=.returned (.bool (FM k))/\w'=E):=λw'=>MM k w';have aN:=A1 a0.o.Bc;rw[aJ.o]at aN;rcases a6.o with⟨rfl,hs⟩|⟨rfl,hs,aT⟩;rotate_left;rw[aT]at d9
 all_goals
  rw[hs]at a2;clear hs
  go_wp2_with (first
   | (go_at_call 91;refine(a2.o _).k ?_;rintro w6 rfl)
   | (go_at_call 49;refine aN.k ?_;rintro w6 rfl))
  go_ret;exact⟨rfl,bD.o,aX,a0.o⟩
def WQ(w:gC)(O k E v:Int)(tv:gD)(h:LW w H wb n b ld (KS sb ab b ld wc A8 ro L A P) FT pd ls)(z:n.sv=(A5 sb))(_hbr:n.CU=ro)(hp:PB P t)(Y:t<=330000)(I:P.D.n.Av=DM n.Av)(hk:¬(0<=k/\k<8)):
 Ag 54 #[A5 wb,.agg #[A0 O,A0 k,A0 E,A0 v,tv]] w (Aj (.bool true) λw'=>A4 H w w'/\
  ∃d,LW w' H wb n b ld (KS sb ab b ld wc A8 ro L A P) d pd ls):=
 QU w O k E v 2 tv h z hp Y I (.inl ⟨rfl,by unfold FM;simp;omega⟩) λX _ q1 q2=>ZB X k E v q1 q2 hk
def WM(w:gC)(X k I v:Int)(tv:gD)(h:LW w H wb n b ld (KS sb ab b ld wc A8 true L A P) FT pd ls)(z:n.sv=(A5 sb))(E:n.CU=true)(hp:PB P t)(ht:t<=330000)(O:P.D.n.Av=DM n.Av)(hk:0<=k/\k<8):
 Ag 54 #[A5 wb,.agg #[A0 X,A0 k,A0 I,A0 v,tv]] w (Aj (.bool true) λw'=>A4 H w w'/\
  ∃d,LW w' H wb n b ld (KS sb ab b ld wc A8 true L A P) d pd ls):=
 QU w X k I v 4 tv h z hp ht O (.inr ⟨rfl,by unfold FM;simp;omega,E⟩) λY _ q1 q2=>SQ Y k I v q1 q2 hk
end
end
section
open Go.RowKit
def Zg{L:Nat->gF Pt}{pd q:gF Pu}{ld A8:Int}(h:Rel L pd ld A8)(z:∀p∈pd,Ay p.2.1)(E:Fq L q ld A8):Rel L q ld A8:=λk d=>(h k d).trans ((h.dG z d _ _).symm.trans (E k d))
def Hh(H:Nat)(w:gC)(v:gD):Prop:=∃d,Mo w v d/\(∀t∈d,Ay t)/\∀h n c x,n≠0->v=.slice h n c->h=some x->x.block<H
def Hh.bS(H:Nat)(w:gC)(h:Mo w (.slice none 0 0) []):Hh H w (.slice none 0 0):=⟨[],h,iE,λad n c x _ e h=>by cases e;cases h⟩
def Hy(L0:Nat)(H:Nat->Prop)(w:gC)(v:gD):Prop:=(∀k,H k->L0<=k)/\Hh L0 w v
def DE(t L0:Nat)(H:Nat->Prop)(wb:Nat)(ld:Int)(w:gC)(n:WN)(pd:gF Pu)(h:gF (gD×Int)):Prop:=
 Ay n.Cy/\Ay n.da/\Hy L0 H w n.tv/\h.length<=4*t/\∃(b Ad:Nat) (P:PD) (FT:Nat->Prop),n.AG=(Ad:Int)/\P.D.n.Av=DM n.Av/\
  ((∃(z ab:Nat) (d:Bool) (L:Nat->gF Pt) (A:Ar),n.sv=.pointer (some ⟨z,0,none⟩)/\n.CU=d/\n.fell=false/\(1<=ld/\ld<=4611686018427387904)/\(1<=n.wc/\n.wc<=4611686018427387904)/\
   LW w H wb n b ld (KS z ab b ld n.wc n.Cy d L A P) FT pd h/\St t A P pd Ad (AN n.Cy ld) d/\Rel L pd ld n.Cy/\∀k,k<8->(L k).length<=t)\/
   (n.sv=.pointer none/\LW w H wb n b ld (KD b P) FT pd h/\EN t P pd Ad (AN n.Cy ld) n.fell))
section
variable{L0:Nat}{H:Nat->Prop}{wb t:Nat}{ld A8:Int}{L:Nat->gF Pt}{A:Ar}{P:PD}{pd:gF Pu}{Ad:Nat}
def Zz(Y:St t A P pd Ad (AN A8 ld) false)(ht:t+1<=330000)(p:Pu)(hp:Bo p)(hR:Rel L pd ld A8)(hs:∀k,k<8->DV (L k)){bo:Bool}{cd:Int}{aI:Ar}{X:PD}{I:Nat->gF Pt}(aF:A.af P p=(bo,cd,aI,X))(h:I=if bo=true then EH L (AN A8 ld) p.1.toNat p.2.1 p.2.2 else L):
 PB X (t+1)/\Ib P cd X/\(cd=6->P.D.n.Av-AV P.F P.D.A6<200)/\DI (Cu (t+1)) X (pd++[p]) Ad (AN A8 ld)/\
  (cd=0->Rel I (pd++[p]) ld A8/\St (t+1) aI X (pd++[p]) Ad (AN A8 ld) false)/\
  (X.D.n.Bh=false->∀q,q=pd++[p]\/(q=pd/\¬Fq I (pd++[p]) ld A8)->Fq I q ld A8->Rel I q ld A8/\St (t+1) aI X q Ad (AN A8 ld) true)/\
  (¬Fq I (pd++[p]) ld A8->Fq I pd ld A8)/\X.D.n.Av=P.D.n.Av/\(∀k,k<8->(L k).length<=t->(I k).length<=t+1):=by
 have⟨a1,a2,a3,a4,a5,a6,a7⟩:=Y.af ht p hp;have d:=YW A P p;rw[aF]at a1 a2 a3 a4 a5 a6 a7 d;have hq:∀x∈pd++[p],Bo x:=λx E=>by
  rcases AX.1 E with E|E
  ·exact Y.pu x E
  ·simp at E;subst E;exact hp
 have O:(pd++[p]).length<=t+1:=by have:=Y.Be;simp;omega
 have aH:Ad<=(pd++[p]).length:=by have:=Y.le;simp;omega
 have aD:∀k,k<8->(L k).length<=t->(I k).length<=t+1:=λk _ hk=>by
  rw[h];have:=Po L (AN A8 ld) p.1.toNat p.2.1 p.2.2 k;split<;>omega
 cases bo with
 | true=>
  rw[Ai rfl]at h;have z:Rel I (pd++[p]) ld A8:=by
   rw[h];obtain⟨k,tt,v⟩:=p;obtain⟨⟨k0,k8⟩,aG,_⟩:=hp;dsimp only at k0 k8 aG ⊢;obtain⟨k',rfl⟩:∃k':Nat,k=k':=⟨k.toNat,iC⟩;exact hR.az hs iC aG
  have aE:=z.cN λx E=>(hq x E).2.1
  refine⟨a1,a2,a7,a3,λh0=>⟨z,(a6 h0).2⟩,λhd q aA _=>?_,λhn=>absurd aE hn,d,aD⟩;rcases aA with rfl|⟨-,hn⟩
  ·exact⟨z,St.dc a1 a3 (a4 rfl) hq O aH hd⟩
  ·exact absurd aE hn
 | false=>
  rw[Af iE]at h;subst h;have⟨b1,b2⟩:=a5 rfl;have aB:∀x∈pd,Ay x.2.1:=λx E=>(Y.pu x E).2.1
  refine⟨a1,a2,a7,a3,λh0=>absurd (a6 h0).1 iE,λhd q aA hT=>?_,λ_=>hR.cN aB,d,aD⟩;rcases aA with rfl|⟨rfl,-⟩
  ·have z:=Zg hR aB hT;refine⟨z,St.dc a1 a3 (b2.to ?_) hq O aH hd⟩;(have e0:(pd++[p]).take pd.length=pd:=by rw[K0]);have e1:(pd++[p]).take (pd.length+1)=pd++[p]:=Eu iE;have:=RY (pd:=pd++[p]) hq (n0:=pd.length) (n:=pd.length+1) iC (ld:=ld) (A8:=A8) λk hk=>by
    rw[e0,e1];exact(hR.cN aB k hk).symm.trans (hT k hk)
   rwa [e0,e1]at this
  ·exact⟨hR,St.dc a1 b1 b2 Y.pu (by have:=Y.Be;omega) Y.le hd⟩
end
end
section
open Go.RowKit
attribute [local go_sem ↓] Go.wp_at_zero Go.wp_at_succ
section
variable{w w':gC}{H:Nat->Prop}{wb sb ab b t B:Nat}{n:WN}{ld wc A8:Int}{ro:Bool}{L:Nat->gF Pt}{A:Ar}{P:PD}{FT:Nat->Prop}{pd:gF Pu}{ls:gF (gD×Int)}{Ad:Nat}
def Co.bO(h:LW w H wb n b ld (KS sb ab b ld wc A8 ro L A P) FT pd ls):∃Ft,LW w H wb n b ld (KD b P) Ft pd ls:=by
 have⟨Ft,h1,h2,h3⟩:=SF.dk h.Es;exact⟨Ft,h.Ae,h.D9,h.FO,KD.E1 b P,h1,h2,h.Dq,h.En,λk d z=>h.nw k d (h3 k z),h.Dz,λk d=>h.F4 k (h3 k d),h.DP,h.rd⟩
def M9(t:Nat)(H:Nat->Prop)(wb sb ab b Ad:Nat)(ld wc A8:Int)(w':gC)(n:WN)(ls:gF (gD×Int)):Prop:=
 ∃h d I z E q,z.D.n.Av=DM n.Av/\((∃ro,LW w' H wb {n with pv:=d,CU:=ro} b ld (KS sb ab b ld wc A8 ro E I z) h q ls/\St (t+1) I z q Ad (AN A8 ld) ro/\Rel E q ld A8/\∀k,k<8->(E k).length<=t+1)\/
  (LW w' H wb {n with pv:=d,CU:=true,sv:=.pointer none} b ld (KD b z) h q ls/\EN (t+1) z q Ad (AN A8 ld) n.fell))
def WO(w:gC)(kd k z v:Int)(tv:gD)(h:LW w H wb n b ld (KS sb ab b ld wc A8 false L A P) FT pd ls)(aW:n.sv=(A5 sb))(b1:n.CU=false)(bX:n.Cy=A8)(hS:St t A P pd Ad (AN A8 ld) false)(hR:Rel L pd ld A8)(b6:t+1<=330000)(aE:P.D.n.Av=DM n.Av)(aV:Bo (k,z,v))(bV:∀k,k<8->(L k).length<=t)(hl:1<=ld/\ld<=4611686018427387904)(hc:Ay A8)(hL:Lets B w)(cZ:∀k,H k->B<=k):
 Ag 54 #[A5 wb,.agg #[A0 kd,A0 k,A0 z,A0 v,tv]] w (Aj (.bool true) λw'=>A4 H w w'/\
  M9 t H wb sb ab b Ad ld wc A8 w' n ls):=by
 have ht:t<=330000:=iC
 have hp:=hS.pb;obtain⟨⟨bo,cd,aO,aF⟩,bC⟩:∃x,A.af P (k,z,v)=x:=⟨_,rfl⟩;obtain⟨aA,b3⟩:=iH (if bo=true then EH L (AN A8 ld) k.toNat z v else L)
 have aT:∀k,k<8->DV (L k):=by obtain⟨lv,F0,q,-⟩:=h.Es;exact q.Ed.Gf
 have⟨z1,z2,z3,z4,z5,z6,z7,z8,z9⟩:=Zz hS b6 (k,z,v) aV hR aT bC b3;have cC:∀Y aP,KS sb ab b ld wc A8 false L A P Y aP->(∀k,aP k->k<Y.heap.size)->Lets B Y->(∀k,aP k->H k)->Ag 23 #[A5 sb,A0 k,A0 z,A0 v] Y (Aj (A0 cd) λw'=>Ap Y aP w' (KS sb ab b ld wc A8 (decide (cd≠0)) aA aO aF)):=λY aP g1 g2 g3 g4=>by
  have:=SO Y (k,z,v) g1 g2 hS b6 aV g3 (λk hk=>cZ k (g4 k hk)) bV hl hc;rw[bC]at this;rw[b3];exact this
 have bT:pd.length<=330000:=by have:=hS.Be;omega
 have dC:∀p∈pd++[(k,z,v)],Ay p.2.1:=λp hp=>by
  rcases AX.1 hp with hp|hp
  ·exact(hS.pu p hp).2.1
  ·simp at hp;subst hp;exact aV.2.1
 have bU:∀p∈pd++[(k,z,v)],Bo p:=λp hp=>by
  rcases AX.1 hp with hp|hp
  ·exact hS.pu p hp
  ·simp at hp;subst hp;exact aV
 have bS:∀k,k<8->(aA k).length<=t+1:=λk hk=>z9 k hk (bV k hk);have hk:=aV.1;have dE:Hid (aF.D.n.Bh=true->EN (t+1) aF (pd++[(k,z,v)]) Ad (AN A8 ld) n.fell):=λhd=>⟨z1,z4,bU,by have:=hS.Be;simp;omega,by have:=hS.le;simp;omega,.inl hd⟩
 have b8:=A1 z2;have cA:=A1 z3;have cS:=A1 z5;have dF:=A1 z6;have cI:=A1 z7;have aM:=A1 z8;have aN:=A1 bS;have b5:=A1 dC;have b4:=A1 cC;have cL:=A1 hL;have bL:=A1 bT;have bM:Hid (0<=P.D.n.Bm/\P.D.n.Bm<=330000):=by have:=hp.refQ;exact⟨iC,iC⟩
 have bE:Hid (0<=P.D.n.fulls/\P.D.n.fulls<=330000):=by have:=hp.JM;exact⟨iC,iC⟩
 have hA:=(A4.C Aa w).ai (BL kd k z v tv);obtain⟨-,o1,o2,o3⟩:=GI w kd k z v tv;have h1:=h.ak hA;have hwl:=h.Ae.lt;have dI:=h.lt;have bA:w.heap.size<(w.alloc (BL kd k z v tv)).heap.size:=iE
 generalize cP:w.alloc (BL kd k z v tv)=w1 at hA o1 o2 o3 h1 bA;unfold BL at cP;obtain⟨rf,bK⟩:=iG P.D.n.Bm;obtain⟨fu,bH⟩:=iG P.D.n.fulls;obtain⟨cn,cJ⟩:=iG P.D.n.Bc;obtain⟨rm,aG⟩:=iG P.D.n.Av;obtain⟨us,aL⟩:=iG (AV P.F P.D.A6);have b9:=PO hp ht;have dS:=A1 h1.dW;rw[bK,bH]at dS;rw[aG,aL]at b9;have hrmk:=aG;rw[aG]at aE;have aS:=A1 bK;have cD:=A1 bH;have cV:=A1 cJ;have bJ:Hid (AV P.F P.D.A6=us/\us<=4611686018427387904):=⟨aL,by rw[<-aL];exact hp.bA ht⟩;have dY:=A1 hA;have cN:=A1 h1;have dG:=A1 dI;have b2:Hid (∀g,n.pv.oB g->g<w.heap.size):=λg hg=>Aw h.Dq hg;rw[bK]at bM;rw[bH]at bE;rw[aG,aL]at cA;rw[aG]at aM
 go_enter func54,ntmps54
 go_wp2_with (fail);refine dS.k ?_;rintro w2 k2;have v4:(w2.alloc (.cells #[A0 rf,A0 fu] 85)).cell? (A9 wb 4)=some (A5 b):=((cN.o.ak (k2.ai _)).Ae.c4).trans (by rw[cN.o.D9]);go_wp2_with (fail);have k3:A4 Aa w1 (w2.alloc (.cells #[A0 rf,A0 fu] 85)):=k2.ai _;have bZ:=Bn w2 (.cells #[A0 rf,A0 fu] 85);have m0:(w2.alloc (.cells #[A0 rf,A0 fu] 85)).cell? (A9 w2.heap.size 0)=some (A0 rf):=CJ bZ;have m1:(w2.alloc (.cells #[A0 rf,A0 fu] 85)).cell? (A9 w2.heap.size 1)=some (A0 fu):=CJ bZ;have cE:Hid (w1.heap.size<=w2.heap.size/\w.heap.size<w1.heap.size):=⟨k2.Ak,bA⟩;generalize w2.alloc (.cells #[A0 rf,A0 fu] 85)=w3 at k3 m0 m1 v4 ⊢;have cF:=A1 (cN.o.ak k3);have dX:=A1 <| dY.o.tr k3;have p1:=k3.ad o1;have p2:=k3.ad o2;have p3:=k3.ad o3;have dR:=A1 cF.o.Bc;rw[cV.o]at dR;refine dR.k ?_;rintro Y rfl;have c2:=cF.o.Ae.c2;have eA:=A1 (OC w3.drew aE);have eB:Hid (Ag 90 #[A5 b] w3.drew (Aj (A0 us) λw'=>A4 Aa w3.drew w')):=by
  have:=(cF.o.ak (A4.C Aa w3).aa).bA (by rw[bJ.o.1];exact bJ.o.2);rw[bJ.o.1]at this;exact this
 go_wp2;refine Bq (λw'=>w'.cell? (A9 wb 2)=some (A0 n.Av)/\w'.cell? (A9 wb 4)=some (A5 b)) 12
  (Ba [0,1,2,3,4,6,7,8,9,5,10,11] [5,10]) ⟨c2,v4⟩ ?_
 iterate 9 refine B4 ?_
 refine Bf λK hK=>?_;go_simp;refine eA.k ?_;rintro Y rfl;refine hK _ _ ⟨c2,v4⟩ (λhS=>?_);refine Bf λK hK=>?_;go_simp;refine eB.k ?_;rintro Y k4;have aD:A4 Aa w3 Y:=⟨k4.os,k4.DZ,k4.E3,k4.Ak,k4.Al⟩;refine hK _ _ ⟨aD.ad c2,aD.ad v4⟩ (λhS=>?_);have dL:=A1 (cF.o.ak (aD.AF (A4.C Aa Y).aa λ_ h _=>h));have dM:=A1 <| dX.o.tr (aD.AF (A4.C Aa Y).aa λ_ h _=>h);have q1:=aD.ad p1;have q2:=aD.ad p2;have q3:=aD.ad p3;have n0:=aD.ad m0;have n1:=aD.ad m1;refine B4 ?_;refine Bl ?_;go_wp2
 have eC:Hid (Ag 23 #[A5 sb,A0 k,A0 z,A0 v] Y.drew (Aj (A0 cd) λw'=>A4 H Y w'/\w'.cell? (A9 wb 5)=some (A5 sb)/\w'.cell? (A9 w.heap.size 1)=some (A0 k)/\w'.cell? (A9 w.heap.size 2)=some (A0 z)/\w'.cell? (A9 w.heap.size 3)=some (A0 v)/\
  w'.cell? (A9 w2.heap.size 0)=some (A0 rf)/\w'.cell? (A9 w2.heap.size 1)=some (A0 fu)/\∃cT,LW w' H wb n b ld (KS sb ab b ld wc A8 (decide (cd≠0)) aA aO aF) cT pd ls)):=by
  have a5:=dL.o;have h4:=dM.o;refine(b4.o Y.drew FT a5.Es a5.lt (cL.o.aL h4) a5.F4).k ?_;rintro w' hS;have⟨r1,FT2,r2⟩:=a5.cS (KS.E1 sb ab b ld wc A8 (decide (cd≠0)) aA aO aF) hS;have nb:∀x,w.heap.size<=x->¬FT x:=λx hx hy=>by have:=dG.o x hy;omega
  have hm:w.heap.size<=w2.heap.size:=by have:=cE.o;omega
  exact⟨rfl,⟨r1.os,r1.DZ,r1.E3,r1.Ak,r1.Al⟩,r2.Ae.c5.trans (by rw[aW]),Dv (w:=Y.drew) hS.1 q1 (nb _ (An _)),Dv (w:=Y.drew) hS.1 q2 (nb _ (An _)),Dv (w:=Y.drew) hS.1 q3 (nb _ (An _)),Dv (w:=Y.drew) hS.1 n0 (nb _ hm),Dv (w:=Y.drew) hS.1 n1 (nb _ hm),FT2,r2⟩
 have c5:=dL.o.Ae.c5;rw[aW]at c5;have cM:=A1 <| dM.o;refine Bq (λw'=>w'.cell? (A9 wb 5)=some (A5 sb)/\w'.cell? (A9 w.heap.size 1)=some (A0 k)/\w'.cell? (A9 w.heap.size 2)=some (A0 z)/\w'.cell? (A9 w.heap.size 3)=some (A0 v)) 11
  (Ba [0,1,2,3,4,5,6,7,8,9,10] [10]) ⟨c5,q1,q2,q3⟩ ?_
 iterate 10 refine B4 ?_
 refine Bf λK hK=>?_;go_simp;refine eC.k ?_;rintro w5⟨k5,d5,r1,r2,r3,m5,m6,aJ,hR⟩;refine hK _ _ ⟨d5,r1,r2,r3⟩ (λhS=>?_);have eF:=A1 <| (cM.o.aS (S:=H)).tr (⟨k5.os,k5.DZ,k5.E3,k5.Ak,k5.Al⟩:A4 H Y.drew w5);have dV:=A1 hR;have d9:=hR.Ae.c9;rw[b1]at d9;have d6:=hR.Ae.c6;have d4:=hR.Ae.c4;rw[hR.D9]at d4
 (try simp only[BO])
 refine Bl ?_;have dZ:Hid (∀w',Ag 91 #[A0 k] w' (Aj (.bool true) λw2=>w'=w2)):=λw'=>by
  have:=MM k w';have e:FM (k:Int)=true:=by unfold FM;simp;omega
  rwa [e]at this
 obtain⟨ap,cp,a0,hp1,hp2,-⟩:=hR.Dq.BW;rw[a0]at d6;go_wp2_with (go_at_call 91;refine(dZ.o _).k ?_;rintro w6 rfl);have⟨i0,hi,hz0,hz1,hz2⟩:=DQ Tryz.fv;have k6:A4 Aa w5 (w5.alloc (.cells #[A0 k,A0 z,A0 v] 141)).drew:=((A4.C Aa w5).ai _).aa;have dK:=A1 (dV.o.ak k6);have dD:GZ (w5.alloc (.cells #[A0 k,A0 z,A0 v] 141)).drew (.slice ap pd.length cp) pd:=by
  have:=dK.o.Dq;rwa [a0]at this
 have cX:=A1 dD;have eD:Hid (Src Tryz.prog 3 37 (AA w5.heap.size 1 1) 1 (B5 [(k,z,v)]) (w5.alloc (.cells #[A0 k,A0 z,A0 v] 141)).drew):=
  Src.cj (w:=(w5.alloc (.cells #[A0 k,A0 z,A0 v] 141)).drew) (cs:=#[A0 k,A0 z,A0 v]) ND (Bn w5 _) 1 1 rfl (HJ [(k,z,v)])
 have cY:Hid (∀g,n.pv.oB g->g<w.heap.size):=b2.o
 have dB:Hid (∀w7 v',App (w5.alloc (.cells #[A0 k,A0 z,A0 v] 141)).drew w7 141 3 (.slice ap pd.length cp) v' (pd.length+1) (B5 pd++B5 [(k,z,v)])->
  w7.cell? (A9 wb 6)=some (.slice ap pd.length cp)/\w7.frozen? (A9 wb 6)=false/\A4 H w5 (w7.setCell (A9 wb 6) v')/\LW (w7.setCell (A9 wb 6) v') H wb {n with pv:=v'} b ld (KS sb ab b ld wc A8 (decide (cd≠0)) aA aO aF) aJ (pd++[(k,z,v)]) ls/\
  (∀x,w.heap.size<=x->∀o u,w5.cell? (A9 x o)=some u->w7.cell? (A9 x o)=some u/\(w7.setCell (A9 wb 6) v').cell? (A9 x o)=some u)):=λw7 v' hA=>by
  rw[<-a0]at hA;have⟨a1,a2,a3,a4⟩:=dK.o.e9 hA;rw[a0]at a1;refine⟨a1,a2,(k6.aS (S:=H)).tr a3,a4,λx hx o u hu=>?_⟩;have q:=Dv hA.cm (k6.ad hu) (λe=>by have:=cY.o x e;omega);exact⟨q,(GU _ _ _ _ (by simp;try omega)).trans q⟩
 refine Bq (λw'=>w'.cell? (A9 wb 6)=some (.slice ap pd.length cp)/\w'.cell? (A9 w.heap.size 1)=some (A0 k)/\w'.cell? (A9 w.heap.size 2)=some (A0 z)/\w'.cell? (A9 w.heap.size 3)=some (A0 v)) 14
  (Ba [0,1,2,3,4,5,6,7,8,9,10,11,12,13] [12,13]) ⟨d6,r1,r2,r3⟩ ?_
 iterate 12 refine B4 ?_
 refine Bf λK hK=>?_;go_simp;have a6:A4 Aa w5 (w5.alloc (.cells #[A0 k,A0 z,A0 v] 141)).drew:=((A4.C Aa w5).ai _).aa;refine hK _ _ ⟨a6.ad d6,a6.ad r1,a6.ad r2,a6.ad r3⟩ (λhS=>?_);refine Dy rfl (by rfl) (λK hK=>?_);refine I1 (.tmp 83) (.tmp 91) 37 37 rfl 141 i0 _ 3 24 ND hi hz0 hz1 hz2 rfl iF (.slice ap pd.length cp) pd.length (B5 pd) (by rfl) cX.o _ 1 _ (by rfl) eD.o (by have:=bL.o;omega) ?_;intro b7 d w7 hA;have⟨y6,z6,k8,h8,hbox⟩:=dB.o w7 _ hA;refine hK _ _ ⟨y6,(hbox _ (An _) 1 _ r1).1,(hbox _ (An _) 2 _ r2).1,(hbox _ (An _) 3 _ r3).1⟩ (λhS=>?_);have m8:=(hbox w2.heap.size (by have:=cE.o;omega) 0 _ m5).2;have m9:=(hbox w2.heap.size (by have:=cE.o;omega) 1 _ m6).2;have bF:=A1 h8;have dH:Hid (A4 H w (w7.setCell (A9 wb 6) (.slice b7 (pd.length+1) d))):=eF.o.tr k8;have e4:(w7.setCell (A9 wb 6) (.slice b7 (pd.length+1) d)).cell? (A9 wb 4)=some (A5 b):=by
  rw[h8.Ae.c4];exact Ex some h8.D9
 (try simp only[BO])
 refine Bl ?_;go_wp2;generalize (w7.setCell (A9 wb 6) (.slice b7 (pd.length+1) d))=w8 at m8 m9 bF dH e4 ⊢;have eE:=A1 (bF.o.ak (A4.C Aa w8).aa).Bm;refine Bq (λw'=>w'.cell? (A9 wb 4)=some (A5 b)/\w'.cell? (A9 w2.heap.size 0)=some (A0 rf)) 7
  (Ba [0,1,2,3,5,6,4] [4]) ⟨e4,m8⟩ ?_
 iterate 6 refine B4 ?_
 refine Bf λK hK=>?_;go_simp;refine eE.k ?_;rintro w9 rfl;refine hK _ _ ⟨e4,m8⟩ (λhS=>?_)
 (try simp only[BO])
 refine Bl ?_;have dU:Hid (∃aX,aF.D.n.Bm=aX):=⟨_,rfl⟩;have⟨aX,hrf2⟩:=dU.o;rw[hrf2];have cO:(cd=0/\aX=rf)\/((cd=5\/cd=6)/\aX=rf+1):=by
  rcases b8.o with⟨q1,q2,-⟩|⟨q1,q2,-⟩|⟨q1,q2,-⟩
  ·exact .inl ⟨q1,by rw[<-hrf2,q2,aS.o]⟩
  ·exact .inr ⟨.inl q1,by rw[<-hrf2,q2,aS.o]⟩
  ·exact .inr ⟨.inr q1,by rw[<-hrf2,q2,aS.o]⟩
 rcases cO with⟨rfl,rfl⟩|⟨aY,rfl⟩
 ·have cB:=A1 (cS.o rfl);go_wp2;go_ret;refine⟨rfl,dH.o.aa,aJ,.slice b7 (pd.length+1) d,aO,aF,aA,pd++[(k,z,v)],aM.o.trans aE,.inl ⟨false,?_,cB.o.2,cB.o.1,aN.o⟩⟩;have:=bF.o.ak (A4.C Aa w8).aa;have en:({n with pv:=.slice b7 (pd.length+1) d,CU:=false}:WN) = {n with pv:=.slice b7 (pd.length+1) d}:=by rw[<-b1]
  rw[en];exact this
 ·have HNE:Hid (¬(rf+1=rf)):=by intro h;omega
  have z9:=bF.o.Ae.fz 9;have s9:=bF.o.Ae.c9;have dW:Hid (∀w',LW w' H wb {n with pv:=.slice b7 (pd.length+1) d,CU:=true} b ld (KS sb ab b ld wc A8 (decide (cd≠0)) aA aO aF) aJ (pd++[(k,z,v)]) ls->Ag 51 #[A5 wb,A0 cd,.agg #[A0 rf,A0 fu]] w' λe a9=>e=.returned (.bool true)/\A4 Aa w' a9):=λw' hw=>by
   rcases b8.o with⟨q1,-⟩|⟨q1,q2,q3⟩|⟨q1,q2,q3,-⟩
   ·rcases aY with h|h<;>omega
   ·subst q1;exact Vy w' rf fu hw (by rw[q2,aS.o]) (by rw[q3,cD.o]) bM.o bE.o
   ·subst q1;exact Vw w' rf fu hw (by rw[q2,aS.o]) (by rw[q3,cD.o]) bM.o bE.o
  go_wp2_with (fail);have cQ:=bF.o.CQ (n':={n with pv:=.slice b7 (pd.length+1) d,CU:=true}) 9 (.bool true) (bF.o.Ae.s9 true) rfl rfl rfl rfl;obtain⟨k9,h9⟩:=cQ;have mb8:w2.heap.size≠wb:=by have:=cE.o;omega
  have n8:(w8.setCell (A9 wb 9) (.bool true)).cell? (A9 w2.heap.size 0)=some (A0 rf):=(GU _ _ _ _ (by simp;try omega)).trans m8;have n9:(w8.setCell (A9 wb 9) (.bool true)).cell? (A9 w2.heap.size 1)=some (A0 fu):=(GU _ _ _ _ (by simp;try omega)).trans m9;have dN:=A1 h9;have dQ:Hid (A4 H w (w8.setCell (A9 wb 9) (.bool true))):=dH.o.tr k9;have dP:=A1 (dW.o _ (h9.ak (A4.C Aa _).aa));generalize (w8.setCell (A9 wb 9) (.bool true))=w9 at dN dQ dP n8 n9 ⊢;refine dP.k ?_;rintro aB a7;have a7:A4 Aa w9 aB:=(A4.C Aa w9).aa.tr a7;have O:=A1 (dN.o.ak a7);have bI:Hid (A4 H w aB):=dQ.o.bk a7;have e4:=O.o.Ae.c4;have bQ:=A1 O.o.Bh;rw[O.o.D9]at e4;have bB:cd=6->¬(200<=IntKind.i64.wrap (DM n.Av-(us:Int))):=λe=>by have:=cA.o e;rw[<-aE,b9];omega
  have z5:=O.o.Ae.fz 5;have s5:=O.o.Ae.c5;have s6:=O.o.Ae.c6;have z6:=O.o.Ae.fz 6;have aZ:(pd++[(k,z,v)]).length=pd.length+1:=iE
  obtain⟨a8,c8,aR,bG,bP,-⟩:=O.o.Dq.BW;rw[aZ]at bG aR;simp only[Value.slice.injEq,true_and]at aR;obtain⟨-,aR⟩:=aR;subst aR;unfold maxLen at bP;have hcap0:pd.length<=d:=iC
  have hnum:IntKind.i64.wrap ((pd.length:Int)+1)=((pd.length+1:Nat):Int):=by
   have:=bL.o;simp[IntKind.wrap,IntKind.bits,IntKind.signed];omega
  have cH:(pd++[(k,z,v)]).take (pd.length+1)=pd++[(k,z,v)]:=Eu iE;have hpl:pd.length<1099511627775:=by have:=bL.o;omega
  have cU:decide (cd≠0)=true:=by rcases aY with h|h<;>(subst h;rfl)
  rw[cU]at O;have dO:=A1 (λw' (aI:A4 Aa aB w')=>Ol w' (pd.length+1) (O.o.ak aI) aW rfl bX (by rw[aZ];omega) (by rw[aZ];omega) b5.o (λk hk=>by have:=aN.o k hk;omega) hl hc);rw[cH]at dO;cases hdd:aF.D.n.Bh with
  | true=>
   rw[hdd]at bQ;have E:Hid (A4 H w (aB.setCell (A9 wb 5) (.pointer none))/\M9 t H wb sb ab b Ad ld wc A8 (aB.setCell (A9 wb 5) (.pointer none)) n ls):=by
    have⟨X,h11⟩:=O.o.CQ (n':={n with pv:=.slice b7 (pd.length+1) d,CU:=true,sv:=.pointer none}) 5 (.pointer none) (O.o.Ae.s5 _) rfl rfl rfl rfl;have⟨Ft,h12⟩:=h11.bO;exact⟨bI.o.tr X,Ft,.slice b7 (pd.length+1) d,aO,aF,aA,pd++[(k,z,v)],aM.o.trans aE,.inr ⟨h12,dE.o hdd⟩⟩
   rcases aY with rfl|rfl
   ·go_wp2_with (go_at_call 36;refine bQ.k ?_;rintro I rfl);go_ret;exact⟨rfl,E.o⟩
   ·have h2:=bB rfl;have h3:decide (200<=IntKind.i64.wrap (DM n.Av-(us:Int)))=false:=CO h2;go_wp2_with (go_at_call 36;refine bQ.k ?_;rintro I rfl);go_ret;exact⟨rfl,E.o⟩
  | false=>
   rw[hdd]at bQ;have dT:=A1 (dF.o hdd);have bD:Hid (∀w',A4 Aa aB w'->Fq aA (pd++[(k,z,v)]) ld A8->A4 H w w'/\M9 t H wb sb ab b Ad ld wc A8 w' n ls):=λw' aI hT=>by
    have⟨g1,g2⟩:=dT.o _ (.inl rfl) hT;exact⟨bI.o.bk aI,aJ,.slice b7 (pd.length+1) d,aO,aF,aA,pd++[(k,z,v)],aM.o.trans aE,.inl ⟨true,O.o.ak aI,g2,g1,aN.o⟩⟩
   have bY:Hid (∀w',A4 Aa aB w'->¬Fq aA (pd++[(k,z,v)]) ld A8->A4 H w (w'.setCell (A9 wb 6) (.slice b7 pd.length d))/\
    LW (w'.setCell (A9 wb 6) (.slice b7 pd.length d)) H wb {n with pv:=.slice b7 pd.length d,CU:=true} b ld (KS sb ab b ld wc A8 true aA aO aF) aJ pd ls/\Fq aA pd ld A8/\(Rel aA pd ld A8/\St (t+1) aO aF pd Ad (AN A8 ld) true)):=λw' aI hT=>by
    have bW:=cI.o hT;have hw:=O.o.ak aI;have dA:GZ w' (.slice b7 pd.length d) pd:=by
     have h1:=hw.Dq;unfold GZ at h1 ⊢;rw[aZ]at h1;have h2:=OX h1 (m:=pd.length) iC;rw[It,List.take_left' (ZE pd)]at h2;exact h2
    have⟨g1,g2⟩:=hw.eB dA λg hg=>⟨hw.Dz g (.inr (.inl (by
     simp only[Value.ownBlock]at hg ⊢;cases b7 with
     | none=>simp at hg
     | some a=>simpa using hg))),hw.nw g (.inr (.inl (by
     simp only[Value.ownBlock]at hg ⊢;cases b7 with
     | none=>simp at hg
     | some a=>simpa using hg)))⟩
    exact⟨(bI.o.bk aI).tr g1,g2,bW,dT.o _ (.inr ⟨rfl,hT⟩) bW⟩
   have bR:Hid (∀w' b0,LW w' H wb {n with pv:=.slice b7 pd.length d,CU:=true} b ld (KS sb ab b ld wc A8 true aA aO aF) b0 pd ls->Fq aA pd ld A8->Ag 89 #[A5 wb,A0 pd.length] w' λe a9=>e=.returned (.bool true)/\A4 Aa w' a9):=λw' b0 hw hT=>by
    have:=Ol w' pd.length hw aW rfl bX (An _) iC (λp hp=>b5.o p (G9 _ hp)) (λk hk=>by have:=aN.o k hk;omega) hl hc;rw[C5]at this;refine this.mono ?_;rintro e a9⟨t0,rfl,h1,h2⟩;exact⟨by rw[h1.2 hT],h2⟩
   (have e1:((pd.length+1:Nat):Int)=(pd.length:Int)+1:=iC);have aU:=A1 (dO.o aB (A4.C _ _));rw[e1]at aU;have cG:=A1 (λw' (k:A4 Aa aB w')=>(O.o.ak k).Ae);rcases aY with rfl|rfl
   ·go_wp2_with (go_at_call 36;refine bQ.k ?_;rintro I rfl);refine aU.m ?_;rintro e I⟨t0,rfl,aK,X⟩;cases t0 with
    | true=>
     have E:=A1 (bD.o I X (aK.1 rfl));go_wp2;go_ret;exact⟨rfl,E.o⟩
    | false=>
     (have aQ:¬Fq aA (pd++[(k,z,v)]) ld A8:=λh=>by have:=aK.2 h;cases this);have⟨g1,g2,g3,g4,g5⟩:=bY.o I X aQ;have s6:=(cG.o I X).c6;have z6:=(cG.o I X).fz 6;have dJ:=A1 (bR.o _ _ g2 g3);have E:Hid (∀w',A4 Aa (I.setCell (A9 wb 6) (.slice b7 pd.length d)) w'->A4 H w w'/\M9 t H wb sb ab b Ad ld wc A8 w' n ls):=λw' k=>⟨g1.bk k,aJ,.slice b7 pd.length d,aO,aF,aA,pd,aM.o.trans aE,.inl ⟨true,g2.ak k,g5,g4,aN.o⟩⟩
     clear aK aU g1 g2 g3 g4 g5 aQ;go_wp2_with (fail);refine dJ.k ?_;rintro bO bN;have aH:=A1 (E.o bO bN);go_wp2;go_ret;exact⟨rfl,aH.o⟩
   ·have h2:=bB rfl;have h3:decide (200<=IntKind.i64.wrap (DM n.Av-(us:Int)))=false:=CO h2;go_wp2_with (go_at_call 36;refine bQ.k ?_;rintro I rfl);refine aU.m ?_;rintro e I⟨t0,rfl,aK,X⟩;cases t0 with
    | true=>
     have E:=A1 (bD.o I X (aK.1 rfl));go_wp2;go_ret;exact⟨rfl,E.o⟩
    | false=>
     (have aQ:¬Fq aA (pd++[(k,z,v)]) ld A8:=λh=>by have:=aK.2 h;cases this);have⟨g1,g2,g3,g4,g5⟩:=bY.o I X aQ;have s6:=(cG.o I X).c6;have z6:=(cG.o I X).fz 6;have dJ:=A1 (bR.o _ _ g2 g3);have E:Hid (∀w',A4 Aa (I.setCell (A9 wb 6) (.slice b7 pd.length d)) w'->A4 H w w'/\M9 t H wb sb ab b Ad ld wc A8 w' n ls):=λw' k=>⟨g1.bk k,aJ,.slice b7 pd.length d,aO,aF,aA,pd,aM.o.trans aE,.inl ⟨true,g2.ak k,g5,g4,aN.o⟩⟩
     clear aK aU g1 g2 g3 g4 g5 aQ;go_wp2_with (fail);refine dJ.k ?_;rintro bO bN;have aH:=A1 (E.o bO bN);go_wp2;go_ret;exact⟨rfl,aH.o⟩
end
def Tryz.fi:(Tryz.prog.info? 91).map (λi=>(i.zero,i.size,i.bytes))=some (some (.agg #[.slice none 0 0,A0 0]),2,32):=by kernel_rfl
section
variable{H:Nat->Prop}{wb b:Nat}{ld:Int}{R:Kind}{FT:Nat->Prop}{pd:gF Pu}{K:gF (gD×Int)}
def KN(n0 n:WN):Prop:=n = {n0 with lv:=n.lv,FQ:=n.FQ}
structure NP (K:gF (gD×Int)) (w:gC) (H:Nat->Prop) (wb:Nat) (n:WN) (FT:Nat->Prop) (v:gD) (l:gF Pt):Prop where
 Bj:Ch w v l
 Cw:l.length<1099511627776
 He:∀g,v.ownBlock=some g->H g/\¬Ff wb n K g/\¬FT g
structure Gy (K:gF (gD×Int)) (w0 w:gC) (H:Nat->Prop) (wb:Nat) (n0 n:WN) (b:Nat) (ld:Int) (R:Kind) (FT:Nat->Prop) (pd:gF Pu) (ls:gF (gD×Int)) (xb:Nat) (a c:Int) (v:gD) (l:gF Pt):Prop where
 FL:Co K w H wb n b ld R FT pd ls
 Em:NP K w H wb n FT v l
 x0:w.cell? ⟨xb,0,none⟩=some (.int .i64 a)
 x1:w.cell? ⟨xb,1,none⟩=some (.int .i64 c)
 xn:∀g,v.ownBlock=some g->g≠xb
 xw:¬Ff wb n K xb
 Iz:n.FQ=c
 Nq:KN n0 n
 Am:A4 H w0 w
def Gy.Ak{w0 w:gC}{n0 n:WN}{ls:gF (gD×Int)}{xb:Nat}{a c:Int}{v:gD}{l:gF Pt}(h:Gy K w0 w H wb n0 n b ld R FT pd ls xb a c v l):xb<w.heap.size:=GV w _ h.x0
def Gy.ak{w0 w w':gC}{n0 n:WN}{ls:gF (gD×Int)}{xb:Nat}{a c:Int}{v:gD}{l:gF Pt}(h:Gy K w0 w H wb n0 n b ld R FT pd ls xb a c v l)(d:A4 Aa w w'):Gy K w0 w' H wb n0 n b ld R FT pd ls xb a c v l:=
 ⟨h.FL.ak d,⟨Au h.Em.Bj λg z=>d.Al g (Aw h.Em.Bj z) (λh=>h),h.Em.Cw,h.Em.He⟩,d.ad h.x0,d.ad h.x1,h.xn,h.xw,h.Iz,h.Nq,h.Am.bk d⟩
def Gy.cq{w0 w w':gC}{n0 n:WN}{ls:gF (gD×Int)}{xb:Nat}{a c:Int}{v v':gD}{l:gF Pt}{p:gD×Int}(h:Gy K w0 w H wb n0 n b ld R FT pd ls xb a c v l)(L:App w w' 91 2 n.lv v' (ls.length+1) (FJ ls++FJ [p])):
 w'.cell? (A9 wb 14)=some n.lv/\w'.frozen? (A9 wb 14)=false/\Gy K w0 (w'.setCell (A9 wb 14) v') H wb n0 {n with lv:=v'} b ld R FT pd (ls++[p]) xb a c v l:=by
 have⟨a1,a2,a3,a4,a5⟩:=h.FL.cq L;have E:=h.Ak;have d:∀k,(k=wb\/n.lv.oB k)->Ff wb n K k:=λk I=>I.elim .inl (λe=>.inr (.inr (.inl e)));refine⟨a1,a2,a4,⟨?_,h.Em.Cw,λg z=>?_⟩,?_,?_,h.xn,?_,h.Iz,(show KN n0 {n with lv:=v'} from (Ex (λm:WN=>({m with lv:=v'}:WN)) (show n = {n0 with lv:=n.lv,FQ:=n.FQ} from h.Nq):({n with lv:=v'}:WN) = {n0 with lv:=v',FQ:=n.FQ})),?_⟩
 ·exact Au h.Em.Bj λg z=>a3.Al g (Aw h.Em.Bj z) λe=>(h.Em.He g z).2.1 (d g e)
 ·have⟨f1,f2,f3⟩:=h.Em.He g z;refine⟨f1,?_,f3⟩;rintro (e|e|e|e)
  ·exact f2 (.inl e)
  ·exact f2 (.inr (.inl e))
  ·rcases a5 with q|q
   ·simp only at e;rw[q]at e;exact f2 (.inr (.inr (.inl e)))
   ·simp only at e;rw[q]at e;cases e;have:=Aw h.Em.Bj z;omega
  ·exact f2 (.inr (.inr (.inr e)))
 ·exact Dv a3 h.x0 λe=>h.xw (d xb e)
 ·exact Dv a3 h.x1 λe=>h.xw (d xb e)
 ·rintro (e|e|e|e)
  ·exact h.xw (.inl e)
  ·exact h.xw (.inr (.inl e))
  ·rcases a5 with q|q
   ·simp only at e;rw[q]at e;exact h.xw (.inr (.inr (.inl e)))
   ·simp only at e;rw[q]at e;cases e;omega
  ·exact h.xw (.inr (.inr (.inr e)))
 ·exact h.Am.AF a3 λx E _=>h.FL.Dz x (d x E)
def Gy.dH{w0 w w':gC}{n0 n:WN}{ls:gF (gD×Int)}{xb:Nat}{a c:Int}{v v':gD}{l:gF Pt}{p:Pt}(h:Gy K w0 w H wb n0 n b ld R FT pd ls xb a c v l)(E:App w w' 70 2 v v' (l.length+1) (B7 l++B7 [p]))(O:l.length+1<1099511627776):
 Gy K w0 w' H wb n0 n b ld R FT pd ls xb a c v' (l++[p]):=by
 have I:=E.cm;have z:=h.Ak;refine⟨h.FL.bx I (λk L e=>(h.Em.He k e).2.1 L) (λk L e=>(h.Em.He k e).2.2 L),⟨?_,by simpa using O,λg d=>?_⟩,Dv I h.x0 λe=>h.xn xb e rfl,Dv I h.x1 λe=>h.xn xb e rfl,λg d=>?_,h.xw,h.Iz,h.Nq,h.Am.AF I λx z _=>(h.Em.He x z).1⟩
 ·unfold Ch;have:=E.AB;rw[<-Lp]at this;simpa using this
 ·rcases E.BX with e|e
  ·rw[e]at d;exact h.Em.He g d
  ·rw[e]at d;cases d;exact⟨h.FL.DP _ (An _),λz=>by have:=h.FL.b8 z;omega,λz=>by have:=h.FL.lt _ z;omega⟩
 ·rcases E.BX with e|e
  ·rw[e]at d;exact h.xn g d
  ·rw[e]at d;cases d;omega
def Ka(K:gF (gD×Int))(w:gC)(H:Nat->Prop)(wb:Nat)(n:WN)(FT:Nat->Prop)(c:Int)(v:gD)(l:gF Pt)(e:gD×Int):Prop:=
 e.2=c/\∃d m h,e.1=.slice d m h/\(m≠0->∃g,d=some ⟨g,0,none⟩/\((v.ownBlock=some g/\m<=l.length)\/(Hk w e/\(H g/\¬Ff wb n K g/\¬FT g)/\v.ownBlock≠some g)))
def Ch.e1{w:gC}{v:gD}{l:gF Pt}{a c:Int}(h:Ch w v l)(ha:∀p∈l,p=(a,c))(L:a=IntKind.i64.wrap (-c)){g m:Nat}(d:v.ownBlock=some g)(O:l.length<1099511627776)(Y:m<=l.length){e:gD×Int}(he:e.2=c){z:Nat}(I:e.1=AA g m z):Hk w e:=by
 have⟨cs,hh⟩:=B9 h d;obtain⟨ad,cap,rfl,-,-,X,-⟩:=B8 h;refine⟨_,m,z,⟨I,NO Y O⟩,λhm0=>⟨g,cs,rfl,hh,λk hk=>?_⟩⟩;obtain⟨E,rfl⟩:=X iC;have:E=g:=by simpa[Value.ownBlock] using d
 subst this;have⟨q0,q1⟩:=h.bt k iC;rw[ha _ (BT _)]at q0 q1;simp only[A7,World.cell?,hh]at q0 q1;rw[he,<-L];exact⟨by simpa using q0,by simpa using q1⟩
structure Hg (K:gF (gD×Int)) (w0 w:gC) (H:Nat->Prop) (wb:Nat) (n0 n:WN) (b:Nat) (ld:Int) (R:Kind) (FT:Nat->Prop) (pd:gF Pu) (ls:gF (gD×Int)) (xb:Nat) (a c:Int) (v:gD) (l:gF Pt):Prop where
 E0:Gy K w0 w H wb n0 n b ld R FT pd ls xb a c v l
 C9:∀p∈l,p=(a,c)
 wr:a=IntKind.i64.wrap (-c)
 DT:∃E,ls=K++E/\∀e∈E,Ka K w H wb n FT c v l e
section
variable{ls:gF (gD×Int)}{w0 w w':gC}{n0 n:WN}{xb:Nat}{a c:Int}{v v':gD}{l:gF Pt}
def Ka.aj{e:gD×Int}(h:Ka K w H wb n FT c v l e){S:Nat->Prop}(hc:A4 S w w')(O:∀g,H g/\¬Ff wb n K g/\¬FT g->v.ownBlock≠some g->¬S g):Ka K w' H wb n FT c v l e:=by
 obtain⟨Y,ad,m,cp,L,h3⟩:=h;refine⟨Y,ad,m,cp,L,λE=>?_⟩;obtain⟨g,I,X⟩:=h3 E;refine⟨g,I,X.imp id λz=>⟨z.1.aj hc λg2 d=>?_,z.2⟩⟩;unfold Gt at d;rw[L,I]at d;simp[E]at d;subst d;exact O _ z.2.1 z.2.2
def Hg.ak(h:Hg K w0 w H wb n0 n b ld R FT pd ls xb a c v l)(d:A4 Aa w w'):Hg K w0 w' H wb n0 n b ld R FT pd ls xb a c v l:=
 ⟨h.E0.ak d,h.C9,h.wr,by
  obtain⟨E,z,L⟩:=h.DT
  exact⟨E,z,λe I=>(L e I).aj d λ_ _ _ h=>h⟩⟩
def Hg.cq{p:gD×Int}(h:Hg K w0 w H wb n0 n b ld R FT pd ls xb a c v l)(hA:App w w' 91 2 n.lv v' (ls.length+1) (FJ ls++FJ [p]))(hp:Ka K w H wb n FT c v l p):
 w'.cell? (A9 wb 14)=some n.lv/\w'.frozen? (A9 wb 14)=false/\Hg K w0 (w'.setCell (A9 wb 14) v') H wb n0 {n with lv:=v'} b ld R FT pd (ls++[p]) xb a c v l:=by
 have⟨a1,a2,a3⟩:=h.E0.cq hA;obtain⟨-,-,a4,-,a5⟩:=h.E0.FL.cq hA;obtain⟨E,hE,DT⟩:=h.DT;refine⟨a1,a2,a3,h.C9,h.wr,E++[p],by rw[hE,Ci],λe he=>?_⟩;have key:Ka K w H wb n FT c v l e:=(AX.1 he).elim (DT e) λhe=>by rw[Ij.1 he];exact hp
 obtain⟨h1,ad,m,cp,O,h3⟩:=key.aj a4 λg hg _ hx=>hx.elim (λe=>hg.2.1 (.inl e)) λe=>hg.2.1 (.inr (.inr (.inl e)));refine⟨h1,ad,m,cp,O,λY=>?_⟩;obtain⟨g,e1,h4⟩:=h3 Y;have aA:∀cs:Hk w e,g<w.heap.size:=λhr=>by
  obtain⟨cs,hh⟩:=hr.bZ (g:=g) (by unfold Gt;rw[O,e1];simp[Y]);exact Bv hh
 refine⟨g,e1,?_⟩;obtain⟨-,ad',m',cp',z,X⟩:=key;rw[O]at z;cases z;obtain⟨g',I,L⟩:=X Y;rw[e1]at I;cases I;rcases h4 with d|d
 ·exact .inl d
 ·rcases L with h6|h6
  ·exact absurd h6.1 d.2.2
  ·refine .inr ⟨d.1,⟨d.2.1.1,?_,d.2.1.2.2⟩,d.2.2⟩;rintro (e|e|e|e)
   ·exact d.2.1.2.1 (.inl e)
   ·exact d.2.1.2.1 (.inr (.inl e))
   ·rcases a5 with q|q
    ·simp only at e;rw[q]at e;exact d.2.1.2.1 (.inr (.inr (.inl e)))
    ·simp only at e;rw[q]at e;cases e;exact absurd (aA h6.1) (FV _)
   ·exact d.2.1.2.1 (.inr (.inr (.inr e)))
def Hg.dH(h:Hg K w0 w H wb n0 n b ld R FT pd ls xb a c v l)(I:App w w' 70 2 v v' (l.length+1) (B7 l++B7 [(a,c)]))(hs:l.length+1<1099511627776):
 Hg K w0 w' H wb n0 n b ld R FT pd ls xb a c v' (l++[(a,c)]):=by
 refine⟨h.E0.dH I hs,λp hp=>(AX.1 hp).elim (h.C9 p) λhp=>Ij.1 hp,h.wr,?_⟩;obtain⟨E,hE,DT⟩:=h.DT;refine⟨E,hE,λe he=>?_⟩;obtain⟨h1,ad,m,cp,Y,h3⟩:=DT e he;refine⟨h1,ad,m,cp,Y,λhm=>?_⟩;obtain⟨g,e1,h4⟩:=h3 hm;refine⟨g,e1,?_⟩;have hb:Gt e=some g:=by unfold Gt;rw[Y,e1];simp[hm]
 have same:v'.ownBlock=v.ownBlock->_:=λq=>(show (v'.oB g/\m<=(l++[(a,c)]).length)\/(Hk w' e/\(H g/\¬Ff wb n K g/\¬FT g)/\v'.ownBlock≠some g) from h4.imp (λd=>⟨q.trans d.1,by simp;omega⟩) λd=>⟨d.1.aj I.cm λg2 z L=>by rw[hb]at z;cases z;exact d.2.2 L,d.2.1,by rw[q];exact d.2.2⟩)
 rcases I.BX with q|q
 ·exact same q
 ·rcases I.Hr with q2|q2
  ·exact same q2
  ·right;have hr:Hk w e:=h4.elim (λd=>h.E0.Em.Bj.e1 h.C9 h.wr d.1 h.E0.Em.Cw d.2 h1 (by rw[Y,e1])) λd=>d.1;obtain⟨cs,hh⟩:=hr.bZ hb;have O:=Bv hh;refine⟨?_,h4.elim (λd=>h.E0.Em.He g d.1) λd=>d.2.1,λL=>by rw[q]at L;cases L;exact FV _ O⟩;obtain⟨aA,m',c',k1,k2⟩:=hr;refine⟨aA,m',c',k1,λX=>?_⟩;obtain⟨g',aB,k3,k4,k5⟩:=k2 X;exact⟨g',aB,k3,(q2 g' (Bv k4)).trans k4,k5⟩
def Hg.fw(h:Hg K w0 w H wb n0 n b ld R FT pd ls xb a c v l):LW w H wb n b ld R FT pd ls:=by
 obtain⟨E,hE,DT⟩:=h.DT;have key:∀e∈E,Hk w e/\∀g,Gt e=some g->H g/\¬FT g:=λe d=>by
  obtain⟨h1,ad,m,cp,X,h3⟩:=DT e d;by_cases L:m=0
  ·refine⟨⟨ad,m,cp,⟨X,iC⟩,λh=>absurd L h⟩,λg I=>?_⟩;unfold Gt at I;rw[X]at I;cases ad<;>simp[L]at I
  ·obtain⟨g,e1,Y⟩:=h3 L;refine⟨Y.elim (λz=>h.E0.Em.Bj.e1 h.C9 h.wr z.1 h.E0.Em.Cw z.2 h1 (by rw[X,e1])) λz=>z.1,λg2 O=>?_⟩;(have hb:Gt e=some g:=by unfold Gt;rw[X,e1];simp[L]);rw[hb]at O;cases O;have:=Y.elim (λz=>h.E0.Em.He g z.1) λz=>z.2.1;exact⟨this.1,this.2.2⟩
 have L:∀e∈ls,e∈K\/e∈E:=λe d=>AX.1 (by rw[<-hE];exact d);refine h.E0.FL.re (λe d=>(L e d).elim (h.E0.FL.rd e) λd=>(key e d).1) λe d g I=>(L e d).elim (λd=>⟨h.E0.FL.Dz g (.inr (.inr (.inr ⟨e,d,I⟩))),h.E0.FL.nw g (.inr (.inr (.inr ⟨e,d,I⟩)))⟩) λd=>(key e d).2 g I
end
def Rn{n:WN}{ls:gF (gD×Int)}(w:gC)(v:gD)(l:gF Pt)(h:LW w H wb n b ld R FT pd ls)(hm:NP ls w H wb n FT v l)(hll:l.length<1099511627000)(hls:ls.length<1099511627000):
 Ag 94 #[A5 wb,v] w (Aj (.tuple #[]) λw'=>A4 H w w'/\∃n' z,LW w' H wb n' b ld R FT pd z/\z.length=ls.length+4/\KN n n'):=by
 obtain⟨ad,cap,rfl,l1,l2,l3,-,-⟩:=B8 hm.Bj;have c15:=h.Ae.cZ;have z15:=h.Ae.fz 15;have aS:=hm.Cw;obtain⟨d,hcn⟩:=iG (IntKind.i64.wrap (n.FQ+1));have hq:=h.CQ (n':={n with FQ:=d}) 15 (A0 d) (h.Ae.ft d) rfl rfl rfl rfl;obtain⟨k1,h1⟩:=hq;have aF:=A1 h1;have a9:=A1 k1;have a8:=A1 hm;have aN:=A1 l3;have aO:Hid (∀g,(Value.slice ad l.length cap).oB g->g<w.heap.size/\g≠wb):=λg hg=>⟨Aw hm.Bj hg,λe=>(hm.He g hg).2.1 (.inl e)⟩
 have aB:(w.setCell (A9 wb 15) (A0 d)).cell? (A9 wb 15)=some (A0 d):=h1.Ae.cZ
 go_enter func94,ntmps94
 go_wp2;generalize aG:(w.setCell (A9 wb 15) (A0 d))=w1 at aF a9 aB ⊢;have a1:w1.heap.size=w.heap.size:=by rw[<-aG];simp
 refine Bq (λw'=>w'.cell? (A9 wb 15)=some (A0 d)) 11
  (Ba [0,1,2,3,4,5,6,7,8,9,10] [10]) aB ?_
 iterate 10 refine B4 ?_
 refine Bf λK hK=>?_;go_simp;have k2:A4 Aa w1 (w1.alloc (.cells #[A0 0,A0 0] 70)).drew:=((A4.C _ w1).ai _).aa;have Y:(w1.alloc (.cells #[A0 0,A0 0] 70)).drew.heap[w.heap.size]?=some (.cells #[A0 0,A0 0] 70 (0,0)):=by rw[<-a1];exact Bn w1 _
 refine hK _ _ (k2.ad aB) (λhS=>?_);generalize (w1.alloc (.cells #[A0 0,A0 0] 70)).drew=w2 at k2 Y ⊢;obtain⟨a,ha⟩:=iG (IntKind.i64.wrap (-d));have aP:=A1 ha.symm;have x0:w2.cell? (A9 w.heap.size 0)=some (A0 0):=CJ Y;have x1:w2.cell? (A9 w.heap.size 1)=some (A0 0):=CJ Y;have f0:w2.frozen? (A9 w.heap.size 0)=false:=by simp[World.frozen?,Y]
 have f1:w2.frozen? (A9 w.heap.size 1)=false:=by simp[World.frozen?,Y]
 have aR:Hid (Gy ls w ((w2.setCell (A9 w.heap.size 0) (A0 a)).setCell (A9 w.heap.size 1) (A0 d)) H wb n {n with FQ:=d} b ld R FT pd ls w.heap.size a d (.slice ad l.length cap) l):=by
  have aI:((w2.setCell (A9 w.heap.size 0) (A0 a)).setCell (A9 w.heap.size 1) (A0 d)).heap[w.heap.size]?=some (.cells #[A0 a,A0 d] 70 (0,0)):=BQ (BQ Y);have aD:=((A4.C (One w.heap.size) w2).an (b:=w.heap.size) rfl 0 (A0 a)).an (b:=w.heap.size) rfl 1 (A0 d);have h2:=aF.o.ak k2;have hf:∀k,Ff wb n ls k->k≠w.heap.size:=λk I e=>by
   have:=aF.o.b8 (k:=k) I;omega
  have aX:∀k,FT k->k≠w.heap.size:=λk I e=>by
   have:=aF.o.lt _ I;omega
  refine⟨h2.bx aD (λk I e=>hf k I e) (λk I e=>aX k I e),⟨?_,aS,a8.o.He⟩,by simp only[World.cell?,aI];rfl,by simp only[World.cell?,aI];rfl,λg hg=>by have:=(aO.o g hg).1;omega,λhx=>hf _ hx rfl,rfl,rfl,?_⟩
  ·have I:A4 (λx=>x=wb\/x=w.heap.size) w ((w2.setCell (A9 w.heap.size 0) (A0 a)).setCell (A9 w.heap.size 1) (A0 d)):=by
    (have q1:A4 (One wb) w w1:=by rw[<-aG];exact(A4.C (One wb) w).an rfl 15 _);exact((q1.ah (S':=λx=>x=wb\/x=w.heap.size) λ_ _ e=>.inl e).bk k2).AF aD λx hx _=>.inr hx
   exact Au a8.o.Bj λg hg=>I.Al g (aO.o g hg).1 λe=>by
    have:=aO.o g hg;rcases e with e|e<;>omega
  ·exact(a9.o.bk k2).AF aD λx hx _=>by cases hx;exact aF.o.DP _ iC
 rw[ha];refine Bl ?_;go_wp2;generalize ((w2.setCell (A9 w.heap.size 0) (A0 a)).setCell (A9 w.heap.size 1) (A0 d))=w3 at aR ⊢;go_loopw [5] (λiv wr=>∃k:Nat,k<=l.length/\iv=A0 k/\Hid (∃l',l'.length=l.length/\(∀i,i<k->l'[i]?=some (a,d))/\Gy ls w wr H wb n {n with FQ:=d} b ld R FT pd ls w.heap.size a d (.slice ad l.length cap) l')) (λiv _=>l.length-(intOf iv).toNat)
 ·exact⟨0,Cb _,rfl,l,rfl,λi hi=>absurd hi (JX i),aR.o⟩
 ·obtain⟨k,I,rfl,hT⟩:=hrel;obtain⟨w0,a3⟩:=iH wr;subst a3;have k0:=BJ k;by_cases aT:k<l.length
  ·have i1:(k:Int)<(l.length:Int):=iC;have⟨l',hl',hpre,hT'⟩:=hT.o;obtain⟨g,rfl⟩:=aN.o iC;have E:k<l'.length:=iC;have X:Ch w0 (AA g l.length cap) l':=hT'.Em.Bj;have⟨o0,o1⟩:=X.bt k E;have z0:=ER X (g:=g) rfl (k*2);have z1:=ER X (g:=g) rfl (k*2+1);have x0:=hT'.x0;have x1:=hT'.x1;have a2:Hid (∃l2,l2.length=l.length/\(∀i,i<k+1->l2[i]?=some (a,d))/\Gy ls w ((w0.setCell (A9 g (k*2)) (A0 a)).setCell (A9 g (k*2+1)) (A0 d)) H wb n {n with FQ:=d} b ld R FT pd ls w.heap.size a d (AA g l.length cap) l2):=by
    have O:=X;unfold Ch at O;rw[hl']at O;have s1:=(O.stored (k*2) (A0 a)).1;have s2:=(s1.stored (k*2+1) (A0 d)).1;have e:=Ln l' k (a,d) E;simp only at e;rw[e]at s2;have⟨f1,f2,f3⟩:=hT'.Em.He g rfl;have hc:=((A4.C (One g) w0).an (b:=g) rfl (k*2) (A0 a)).an (b:=g) rfl (k*2+1) (A0 d);have aU:=hT'.xn g rfl;have hx:∀o u,w0.cell? (A9 w.heap.size o)=some u->((w0.setCell (A9 g (k*2)) (A0 a)).setCell (A9 g (k*2+1)) (A0 d)).cell? (A9 w.heap.size o)=some u:=λo u hu=>Dv hc hu λe=>aU e.symm;refine⟨l'.set k (a,d),by rw[HX];exact hl',λi hi=>?_,hT'.FL.bx hc (λk I e=>f2 (by cases e;exact I)) (λk I e=>f3 (by cases e;exact I)),⟨?_,by rw[HX];exact hT'.Em.Cw,hT'.Em.He⟩,hx _ _ x0,hx _ _ x1,hT'.xn,hT'.xw,rfl,rfl,hT'.Am.AF hc λx hx _=>by cases hx;exact f1⟩
    ·by_cases e:k=i
     ·subst e;rw[List.getElem?_set_self E]
     ·rw[List.getElem?_set_ne e,hpre i iC]
    ·unfold Ch;rw[HX,hl'];exact s2
   obtain⟨u0,aW⟩:=iG ((l'[k]'E).1);obtain⟨u1,a5⟩:=iG ((l'[k]'E).2);rw[aW]at o0;rw[a5]at o1;go_wp2;go_roundw
   ·exact⟨k+1,iC,by go_num,a2.o⟩
   ·simp[intOf];omega
  ·(obtain rfl:k=l.length:=iC);clear aR;go_wp2;clear aN aO;have⟨l0,hl0,hpre,hT0⟩:=hT.o
   have aH:Hid (Hg ls w w0 H wb n {n with FQ:=d} b ld R FT pd ls w.heap.size a d (.slice ad l.length cap) l0):=⟨hT0,λp hp=>by
    obtain⟨i,hi,rfl⟩:=DD hp;have:=hpre i iC;rw[Dx hi]at this
    exact NI this,aP.o,[],(Gk _).symm,λe he=>by cases he⟩
   have⟨i0,hi,hz0,hz1,hz2⟩:=DQ Tryz.fi;have⟨j0,hj,hy0,hy1,hy2⟩:=DQ Tryz.cy;clear hT hT0 hpre;go_loopw [1,6] (λvv iv wr=>∃k:Nat,k<=4/\iv=A0 k/\Hid (∃l' n' z,l'.length<=l.length+k/\z.length=ls.length+k/\Hg ls w wr H wb n n' b ld R FT pd z w.heap.size a d vv l')) (λ_ iv _=>4-(intOf iv).toNat)
   ·exact⟨0,iC,rfl,l0,_,ls,iC,rfl,aH.o⟩
   ·obtain⟨k,I,rfl,hT⟩:=hrel;obtain⟨w4,aQ⟩:=iH wr;subst aQ;have k0:=BJ k;by_cases aT:k<4
    ·have i1:(k:Int)<4:=iC;have⟨l',n',z,hl',hls',hT'⟩:=hT.o;have c14:=hT'.E0.FL.Ae.dK;have c15:=hT'.E0.FL.Ae.cZ;rw[hT'.E0.Iz]at c15;have x0:=hT'.E0.x0;have x1:=hT'.E0.x1;obtain⟨aa,cc,rfl,-,-,aM,-⟩:=B8 hT'.E0.Em.Bj;have aL:=A1 hT'
     have aE:Hid (∀w5,Ka ls w5 H wb n' FT d (.slice aa l'.length cc) l' (.slice aa l'.length cc,d)):=λw5=>⟨rfl,aa,l'.length,cc,rfl,λhm=>by
      obtain⟨g,rfl⟩:=aM iC
      exact⟨g,rfl,.inl ⟨rfl,An _⟩⟩⟩
     clear aM;have a6:=A1 hl';have aY:=A1 hls';have bl:l'.length+1<1099511627776:=iC;have bls:z.length+1<1099511627776:=iC;clear hT hT' aH hl' hls';go_wp2;refine Bq (λw'=>w'.cell? (A9 wb 14)=some n'.lv/\w'.cell? (A9 wb 15)=some (A0 d)) 13
      (Ba [0,1,2,3,4,5,6,7,8,9,10,11,12] [11,12]) ⟨c14,c15⟩ ?_
     iterate 11 refine B4 ?_
     refine Bf λK hK=>?_;go_simp;have k5:A4 Aa w4 (w4.alloc (.cells #[.slice aa l'.length cc,A0 d] 91)).drew:=((A4.C _ w4).ai _).aa;refine hK _ _ ⟨k5.ad c14,k5.ad c15⟩ (λhS=>?_);clear hK K hS;have L:=A1 (aL.o.ak k5);have a0:Hid (Src Tryz.prog 2 38 (AA w4.heap.size 1 1) 1 (FJ [(.slice aa l'.length cc,d)]) (w4.alloc (.cells #[.slice aa l'.length cc,A0 d] 91)).drew):=
      Src.cj (w:=(w4.alloc (.cells #[.slice aa l'.length cc,A0 d] 91)).drew) (cs:=#[.slice aa l'.length cc,A0 d]) underlying38 (Bn w4 _) 1 1 rfl (by
       intro u hu;simp at hu;rcases hu with rfl|rfl<;>rfl)
     have aZ:=A1 (aE.o (w4.alloc (.cells #[.slice aa l'.length cc,A0 d] 91)).drew);clear k5 aL aE;generalize (w4.alloc (.cells #[.slice aa l'.length cc,A0 d] 91)).drew=w5 at L a0 aZ ⊢;refine Dy rfl (by rfl) (λK hK=>?_);refine I1 (.tmp 43) (.tmp 50) 38 38 rfl 91 i0 _ 2 32 underlying38 hi hz0 hz1 hz2 rfl iF n'.lv z.length (FJ z) (by rfl) L.o.E0.FL.En _ 1 _ (by rfl) a0.o iC ?_;intro b6 aA w6 hA;have⟨y14,z14,hT6⟩:=L.o.cq hA aZ.o;have aJ:w6.cell? (A9 wb 15)=some (A0 d):=Dv hA.cm (L.o.E0.FL.Ae.cZ.trans (by rw[L.o.E0.Iz])) L.o.E0.FL.cd;refine hK _ _ ⟨y14,aJ⟩ (λhS=>?_);have x0':=hT6.E0.x0;have x1':=hT6.E0.x1;have a7:=A1 hT6;clear hK K hS hA a0 aZ L hT6 c14 c15 x0 x1 aJ;refine Bl ?_;have aK:=A1 (a7.o.ak ((A4.C Aa (w6.setCell (A9 wb 14) (.slice b6 (z.length+1) aA))).ai (.cells #[A0 a,A0 d] 70)));have a4:Hid (Src Tryz.prog 2 66 (AA w6.heap.size 1 1) 1 (B7 [(a,d)]) ((w6.setCell (A9 wb 14) (.slice b6 (z.length+1) aA)).alloc (.cells #[A0 a,A0 d] 70))):=
      Src.bb (B:=w6.heap.size) underlying66 (w6.setCell (A9 wb 14) (.slice b6 (z.length+1) aA)) #[A0 a,A0 d] 70 iE 1 1 rfl (Lo [(a,d)])
     go_wp2_with (at_builtin;refine CX rfl (.tmp 54) (.tmp 56) 66 66 rfl 70 j0 _ 2 16 underlying66 hj hy0 hy1 hy2 rfl iF (.slice aa l'.length cc) l'.length (B7 l') (by rfl) aK.o.E0.Em.Bj _ 1 _ (by rfl) a4.o iC ?_;intro b8 cap8 w8 hA;have aV:=A1 (aK.o.dH hA iC);clear hA);go_roundw
     ·exact⟨k+1,iC,by go_num,l'++[(a,d)],_,_,by have:=a6.o;simp;omega,by have:=aY.o;simp;omega,aV.o⟩
     ·simp[intOf];omega
    ·(obtain rfl:k=4:=iC);go_wp2;go_end0;have⟨l',n',z,hl',hls',hT'⟩:=hT.o;exact⟨rfl,hT'.E0.Am,n',z,hT'.fw,hls',hT'.E0.Nq⟩
end
section
variable{w w':gC}{H:Nat->Prop}{wb sb ab b:Nat}{n:WN}{ld wc A8:Int}{ro:Bool}{L:Nat->gF Pt}{A:Ar}{P:PD}{FT:Nat->Prop}{pd:gF Pu}{ls:gF (gD×Int)}
def Co.cO(h:LW w H wb n b ld (KS sb ab b ld wc A8 ro L A P) FT pd ls):∃lv,By w sb 0 (A5 ab) ld wc A8 ro lv/\EA w lv L:=by
 obtain⟨lv,F0,d,-⟩:=h.Es;exact⟨lv,d.Ae,d.Ed⟩
def A3K(w:gC)(a b3 c3:Int)(tv:gD)(h:LW w H wb n b ld (KS sb ab b ld wc A8 ro L A P) FT pd ls)(aA:n.sv=(A5 sb))(aI:n.Cy=A8)(aD:n.CU=ro):
 Ag 55 #[A5 wb,.agg #[A0 5,A0 a,A0 b3,A0 c3,tv]] w (Aj (.bool true) λw'=>A4 Aa w w'):=by
 have hA:=(A4.C Aa w).ai (BL 5 a b3 c3 tv);obtain⟨o0,-,-,-⟩:=GI w 5 a b3 c3 tv;have I:=h.ak hA;generalize aH:w.alloc (BL 5 a b3 c3 tv)=w1 at hA o0 I;unfold BL at aH;have c4:=I.Ae.c4;rw[I.D9]at c4;have c5:=I.Ae.c5;rw[aA]at c5;have E:Hid (∀w',A4 Aa w1 w'->Ag 49 #[A5 b] w' (Aj (A0 P.D.n.Bc) λd=>w'=d)):=λw' k=>(I.ak k).Bc
 obtain⟨lv,aB,-⟩:=I.cO;have ST:=A1 (RH w1 aB);generalize hcn:P.D.n.Bc=cn at E;have aL:=A1 (E.o w1 (A4.C _ _));have aK:=A1 hA;have aJ:=A1 I
 go_enter func55,ntmps55
 go_wp2_with (first
  | (go_at_call 49;refine aL.k ?_;rintro d rfl)
  | (go_at_call 38;refine ST.k ?_;rintro d aF;have aG:=A1 aF))
 have z:A4 Aa w1 (d.alloc (.cells #[.bool ro,A0 A8] 74)):=aG.o.ai _;have X:=Bn d (.cells #[.bool ro,A0 A8] 74);have d0:A7 (d.alloc (.cells #[.bool ro,A0 A8] 74)) d.heap.size 0 (.bool ro):=CJ X;have d1:A7 (d.alloc (.cells #[.bool ro,A0 A8] 74)) d.heap.size 1 (A0 A8):=CJ X;generalize (d.alloc (.cells #[.bool ro,A0 A8] 74))=w3 at z d0 d1 ⊢;have b9:=(aJ.o.ak z).Ae.c9;rw[aD]at b9;have O:=(aJ.o.ak z).Ae.br;rw[aI]at O;have e4:=z.ad c4;have Y:=A1 z;refine Bq (λw'=>A7 w' d.heap.size 0 (.bool ro)/\A7 w' d.heap.size 1 (A0 A8)/\A7 w' wb 9 (.bool ro)/\A7 w' wb 10 (A0 A8)) 16
  (Ba [0,1,2,3,4,5,6,7,8,9,10,11,12,13,14,15] []) ⟨d0,d1,b9,O⟩ ?_
 iterate 16 refine B4 ?_
 refine Bl ?_;have aE:=A1 (E.o w3.drew Y.o.aa);go_wp2_with (go_at_call 49;refine aE.k ?_;rintro w4 rfl);go_ret;exact⟨rfl,aK.o.tr Y.o.aa⟩
def A3L{k:Nat}(w:gC)(a d:Int)(tv:gD)(h:LW w H wb n b ld (KS sb ab b ld wc A8 ro L A P) FT pd ls)(aG:n.sv=(A5 sb))(aK:n.Cy=A8)(hR:Rel L pd ld A8)(hk:k<8)(hp:∀p∈pd,Ay p.2.1)(hpl:pd.length<1099511627000)(aQ:ls.length<1099511627000)(hl:1<=ld/\ld<=4611686018427387904)(hc:Ay A8):
 Ag 55 #[A5 wb,.agg #[A0 3,A0 k,A0 a,A0 d,tv]] w (Aj (.bool true) λw'=>A4 H w w'/\∃n' O,LW w' H wb n' b ld (KS sb ab b ld wc A8 ro L A P) FT pd O/\O.length=ls.length+4/\KN n n'):=by
 have hA:=(A4.C Aa w).ai (BL 3 k a d tv);have⟨o0,o1,o2,o3⟩:=GI w 3 k a d tv;have X:=h.ak hA;generalize aJ:w.alloc (BL 3 k a d tv)=w1 at hA o0 o1 o2 o3 X;unfold BL at aJ;have c4:=X.Ae.c4;rw[X.D9]at c4;have c5:=X.Ae.c5;rw[aG]at c5;have a0:=A1 (X.Bc);generalize aH:P.D.n.Bc=cn at a0;have aL:=A1 aH;have a2:=A1 hA;have aI:=X.ak (A4.C Aa w1).aa;have⟨lv,hsb,hrw⟩:=aI.cO;have aM:=A1 (MP w1.drew k a d hsb hrw hk hl hc);have aV:=hR.dG hp hk a d;rw[aV]at aM;have aR:=Sz pd k a d ld A8;have aT:Hid (∀w',A4 Aa w1 w'->_):=λw' k'=>SM w' n.pv pd pd.length (X.ak k').Dq (An _) iC hp k a d ld A8 hl hc;rw[C5]at aT;generalize hQ:refQ pd k a d ld A8=Q at aM aT aR;have a3:Hid (∀w',Ag 91 #[A0 k] w' (Aj (.bool true) λw2=>w'=w2)):=λw'=>by
  have:=MM k w';have e:FM (k:Int)=true:=by unfold FM;simp;omega
  rwa [e]at this
 have I:=A1 X;obtain⟨ap,cp,aB,-⟩:=X.Dq.BW
 go_enter func55,ntmps55
 go_wp2_with (go_at_call 49;refine a0.k ?_;rintro w2 rfl);refine Bq (λw'=>A7 w' wb 5 (A5 sb)/\A7 w' w.heap.size 1 (A0 k)/\A7 w' w.heap.size 2 (A0 a)/\A7 w' w.heap.size 3 (A0 d)) 15
  (Ba [0,1,2,3,4,5,6,7,8,9,10,11,12,13,14] [10]) ⟨c5,o1,o2,o3⟩ ?_
 iterate 10 refine B4 ?_
 refine Bf λK hK=>?_;go_simp;refine aM.m ?_;rintro e w2⟨v,rfl,hv,z,aS⟩;have k2:A4 Aa w1 w2:=⟨z.os,z.DZ,z.E3,z.Ak,z.Al⟩;have p1:=k2.ad o1;have p2:=k2.ad o2;have p3:=k2.ad o3;refine hK _ _ ⟨k2.ad c5,p1,p2,p3⟩ (λhS=>?_);have aX:=A1 k2;have aZ:=A1 hv;have a4:Hid (∀g,v.oB g->w1.heap.size<=g):=aS;have aF:=A1 (I.o.ak k2)
 iterate 4 refine B4 ?_
 refine Bl ?_;go_wp2_with (go_at_call 91;refine(a3.o _).k ?_;rintro w6 rfl);have c6:=aF.o.Ae.c6;rw[aB]at c6;have c0:=aF.o.Ae.c0;rw[aF.o.FO]at c0;have c10:=aF.o.Ae.br;rw[aK]at c10;have aY:=A1 (aT.o w2.drew aX.o.aa);rw[aB]at aY;refine Bq (λw'=>A7 w' wb 6 (.slice ap pd.length cp)/\A7 w' wb 0 (A0 ld)/\A7 w' wb 10 (A0 A8)/\A7 w' w.heap.size 1 (A0 k)/\A7 w' w.heap.size 2 (A0 a)/\A7 w' w.heap.size 3 (A0 d)) 25
  (Ba [0,1,2,3,4,5,6,7,8,9,10,11,12,13,14,15,16,17,18,19,20,21,22,23,24] [24]) ⟨c6,c0,c10,p1,p2,p3⟩ ?_
 iterate 24 refine B4 ?_
 refine Bf λK hK=>?_;go_simp;refine aY.m ?_;rintro e w3⟨v2,rfl,aO,E,hfr3⟩;have Y:A4 Aa w2 w3:=⟨E.os,E.DZ,E.E3,E.Ak,E.Al⟩;refine hK _ _ ⟨Y.ad c6,Y.ad c0,Y.ad c10,Y.ad p1,Y.ad p2,Y.ad p3⟩ (λhS=>?_);have a1:Hid (A4 Aa w1 w3):=aX.o.tr Y;have aA:Hid (Ch w3 v Q):=Au aZ.o λg hg=>Y.Al g (Aw aZ.o hg) (λh=>h);have bA:Hid (Ag 93 #[v,v2] w3 (Aj (.bool true) λw'=>A4 Aa w3 w')):=by
  have:=RX w3 v v2 Q Q aA.o aO iC iC
  rwa [CN rfl]at this
 refine Bl ?_;go_wp2_with (go_at_call 93;refine bA.k ?_;rintro w4 k4;have aW:Hid (A4 Aa w1 w4):=a1.o.tr k4;have aP:Hid (Ch w4 v Q):=Au aA.o (λg hg=>k4.Al g (Aw aA.o hg) (λh=>h)));have a5:=A1 (I.o.ak aW.o)
 have a7:Hid (NP ls w4 H wb n FT v Q):=⟨aP.o,iC,λg hg=>by
  have aN:=a4.o g hg
  exact⟨I.o.DP _ aN,λhx=>by have:=I.o.b8 hx;omega,λhx=>by have:=I.o.lt _ hx;omega⟩⟩
 have a9:=A1 (Rn w4 v Q a5.o a7.o iC aQ);refine a9.k ?_;rintro w5⟨k5,n',O,hW,aU,aE⟩;have aD:=A1 (hW.Bc);rw[aL.o]at aD;have d4:=hW.Ae.c4;rw[hW.D9]at d4;have a8:Hid (A4 H w w5):=((a2.o.tr aW.o).aS (S:=H)).tr k5;have a6:=A1 hW;go_wp2_with (go_at_call 49;refine aD.k ?_;rintro w6 rfl);go_ret;exact⟨rfl,a8.o,n',O,a6.o,aU,aE⟩
def A3M(w:gC)(k a I:Int)(tv:gD)(h:LW w H wb n b ld (KS sb ab b ld wc A8 ro L A P) FT pd ls)(aA:n.sv=(A5 sb))(hk:¬(0<=k/\k<8))(aJ:ls.length<1099511627000):
 Ag 55 #[A5 wb,.agg #[A0 3,A0 k,A0 a,A0 I,tv]] w (Aj (.bool true) λw'=>A4 H w w'/\∃n' z,LW w' H wb n' b ld (KS sb ab b ld wc A8 ro L A P) FT pd z/\z.length=ls.length+4/\KN n n'):=by
 have hA:=(A4.C Aa w).ai (BL 3 k a I tv);have⟨o0,o1,o2,o3⟩:=GI w 3 k a I tv;have E:=h.ak hA;generalize aH:w.alloc (BL 3 k a I tv)=w1 at hA o0 o1 o2 o3 E;unfold BL at aH;have c4:=E.Ae.c4;rw[E.D9]at c4;have c5:=E.Ae.c5;rw[aA]at c5;have aL:=A1 (E.Bc);generalize aB:P.D.n.Bc=cn at aL;have aD:=A1 aB;have aP:=A1 hA;have aG:=E.ak (A4.C Aa w1).aa;obtain⟨lv,aF,-⟩:=aG.cO;have aN:=A1 (Zv w1.drew k a I aF hk);have aS:Hid (∀w',Ag 91 #[A0 k] w' (Aj (.bool false) λO=>w'=O)):=λw'=>by
  have:=MM k w';have e:FM k=false:=by unfold FM;simp;omega
  rwa [e]at this
 have aI:=A1 E
 go_enter func55,ntmps55
 go_wp2_with (go_at_call 49;refine aL.k ?_;rintro O rfl);refine Bq (λw'=>A7 w' wb 5 (A5 sb)/\A7 w' w.heap.size 1 (A0 k)/\A7 w' w.heap.size 2 (A0 a)/\A7 w' w.heap.size 3 (A0 I)) 15
  (Ba [0,1,2,3,4,5,6,7,8,9,10,11,12,13,14] [10]) ⟨c5,o1,o2,o3⟩ ?_
 iterate 10 refine B4 ?_
 refine Bf λK hK=>?_;go_simp;refine aN.k ?_;rintro O d;have k2:A4 Aa w1 O:=⟨d.os,d.DZ,d.E3,d.Ak,d.Al⟩;have p1:=k2.ad o1;refine hK _ _ ⟨k2.ad c5,p1,k2.ad o2,k2.ad o3⟩ (λhS=>?_);have aK:=A1 k2
 iterate 4 refine B4 ?_
 refine Bl ?_;have aQ:=A1 (aI.o.ak aK.o);have aM:Hid (NP ls O H wb n FT (.slice none 0 0) []):=⟨Cq _ _ _ _,iF,λg hg=>by simp[Value.ownBlock]at hg⟩;have aT:=A1 (Rn O (.slice none 0 0) [] aQ.o aM.o iF aJ)
 go_wp2_with (first
  | (go_at_call 91;refine(aS.o _).k ?_;rintro w6 rfl))
 refine aT.k ?_;rintro w5⟨k5,n',z,hW,aE,Y⟩;have X:=A1 (hW.Bc);rw[aD.o]at X;have d4:=hW.Ae.c4;rw[hW.D9]at d4;have aO:Hid (A4 H w w5):=((aP.o.tr aK.o).aS (S:=H)).tr k5;have aR:=A1 hW;go_wp2_with (go_at_call 49;refine X.k ?_;rintro w6 rfl);go_ret;exact⟨rfl,aO.o,n',z,aR.o,aE,Y⟩
end
section
variable{w w':gC}{H:Nat->Prop}{wb sb ab b:Nat}{n:WN}{ld wc A8:Int}{ro:Bool}{L:Nat->gF Pt}{A:Ar}{P:PD}{FT:Nat->Prop}{pd:gF Pu}{ls:gF (gD×Int)}
def Xs(w:gC)(Y a X c3:Int)(tv:gD)(h:LW w H wb n b ld (KS sb ab b ld wc A8 ro L A P) FT pd ls)(aA:n.sv=(A5 sb))(ha:a<0):
 Ag 56 #[A5 wb,.agg #[A0 Y,A0 a,A0 X,A0 c3,tv]] w (Aj (.bool true) λw'=>A4 Aa w w'):=by
 have hA:=(A4.C Aa w).ai (BL Y a X c3 tv);obtain⟨-,o1,-,-⟩:=GI w Y a X c3 tv;have z:=h.ak hA;generalize aD:w.alloc (BL Y a X c3 tv)=w1 at hA o1 z;unfold BL at aD;have c4:=z.Ae.c4;rw[z.D9]at c4;have c5:=z.Ae.c5;rw[aA]at c5;have aF:=A1 (z.Bc);obtain⟨lv,aB,-⟩:=(z.ak (A4.C Aa w1).aa).cO;have aG:=A1 (Xu w1.drew a aB ha);have I:Hid (∀w',A4 Aa w1 w'->Ag 49 #[A5 b] w' (Aj (A0 P.D.n.Bc) λE=>w'=E)):=λw' k=>(z.ak k).Bc
 generalize hcn:P.D.n.Bc=cn at aF I;have aI:=A1 hA;have aJ:Hid (∀w',A4 Aa w1 w'->A7 w' wb 4 (A5 b)):=λw' k=>k.ad c4
 go_enter func56,ntmps56
 go_wp2_with (go_at_call 49;refine aF.k ?_;rintro E rfl);refine Bq (λw'=>A7 w' wb 5 (A5 sb)/\A7 w' w.heap.size 1 (A0 a)) 7
  (Ba [0,1,2,3,4,5,6] [6]) ⟨c5,o1⟩ ?_
 iterate 6 refine B4 ?_
 refine Bf λK hK=>?_;go_simp;refine aG.k ?_;rintro E O;have d:A4 Aa w1 E:=⟨O.os,O.DZ,O.E3,O.Ak,O.Al⟩;have d5:=d.ad c5;have p1:=d.ad o1;refine hK _ _ ⟨d5,p1⟩ (λhS=>?_);have aE:=A1 (I.o E d);have d4:=aJ.o E d;have aH:Hid (A4 Aa w E):=aI.o.tr d;refine Bl ?_;go_wp2_with (go_at_call 49;refine aE.k ?_;rintro w3 rfl);go_ret;exact⟨rfl,aH.o⟩
def Xr(w:gC)(Y a X c3:Int)(tv:gD)(h:LW w H wb n b ld (KS sb ab b ld wc A8 ro L A P) FT pd ls)(O:n.sv=(A5 sb))(aH:n.Cy=A8)(ha:0<=a/\a<=9223372036854775807)(hl:1<=ld/\ld<=4611686018427387904)(hc:Ay A8):
 Ag 56 #[A5 wb,.agg #[A0 Y,A0 a,A0 X,A0 c3,tv]] w (Aj (.bool true) λw'=>A4 H w w'/\
  ∃d z,LW w' H wb {n with Cy:=DL A8 a} b ld (KS sb ab b ld wc (DL A8 a) ro z A P) d pd ls/\HG L z (AN (DL A8 a) ld)):=by
 have hA:=(A4.C Aa w).ai (BL Y a X c3 tv);obtain⟨-,o1,-,-⟩:=GI w Y a X c3 tv;have I:=h.ak hA;have aF:w.heap.size<(w.alloc (BL Y a X c3 tv)).heap.size:=iE
 have aD:=h.lt;have hwl:=h.Ae.lt;generalize aG:w.alloc (BL Y a X c3 tv)=w1 at hA o1 I aF;unfold BL at aG;have c4:=I.Ae.c4;rw[I.D9]at c4;have c5:=I.Ae.c5;rw[O]at c5;have aI:=A1 (I.Bc)
 have aJ:Hid (Ag 27 #[A5 sb,A0 a] w1.drew (Aj (A0 0) λw'=>A4 H w1 w'/\w'.cell? (A9 wb 5)=some (A5 sb)/\w'.cell? (A9 w.heap.size 1)=some (A0 a)/\w'.cell? (A9 wb 10)=some (A0 A8)/\w'.frozen? (A9 wb 10)=false/\
  ∃d z,LW w' H wb n b ld (KS sb ab b ld wc (DL A8 a) ro z A P) d pd ls/\HG L z (AN (DL A8 a) ld))):=by
  have aA:=I.ak (A4.C Aa w1).aa;have⟨lv,F0,hs0,hsub⟩:=aA.Es;refine(Rm w1.drew a hs0.Ae hs0.Ed ha hl hc).k ?_;rintro w'⟨lv',z,hS,hF⟩;have E:=hs0.cU hsub hS;have⟨q1,FT2,q2⟩:=aA.cS (KS.E1 sb ab b ld wc (DL A8 a) ro z A P) E;refine⟨rfl,⟨q1.os,q1.DZ,q1.E3,q1.Ak,q1.Al⟩,?_,?_,?_,q2.Ae.fz 10,FT2,z,q2,hF⟩
  ·rw[q2.Ae.c5,O]
  ·exact Dv (w:=w1.drew) E.1 o1 (λhx=>by have:=aD _ hx;omega)
  ·rw[q2.Ae.br,aH]
 have aN:=A1 (Rl A8 a);generalize hcn:P.D.n.Bc=cn at aI;have aL:=A1 hA
 go_enter func56,ntmps56
 go_wp2_with (go_at_call 49;refine aI.k ?_;rintro w2 rfl);refine Bq (λw'=>w'.cell? (A9 wb 5)=some (A5 sb)/\w'.cell? (A9 w.heap.size 1)=some (A0 a)) 7
  (Ba [0,1,2,3,4,5,6] [6]) ⟨c5,o1⟩ ?_
 iterate 6 refine B4 ?_
 refine Bf λK hK=>?_;go_simp;refine aJ.k ?_;rintro w2⟨k2,d5,p1,d10,z10,hR⟩;refine hK _ _ ⟨d5,p1⟩ (λhS=>?_);have aM:=A1 hR;have aK:Hid (A4 H w w2):=(aL.o.aS (S:=H)).tr k2;have aE:=A1 (aN.o w2.drew hc ha);refine Bl ?_;obtain⟨ha1,ha2⟩:=ha;go_wp2;refine Bq (λw'=>w'.cell? (A9 wb 10)=some (A0 A8)/\w'.cell? (A9 w.heap.size 1)=some (A0 a)) 8
  (Ba [0,1,2,3,4,5,6,7] [7]) ⟨d10,p1⟩ ?_
 iterate 7 refine B4 ?_
 refine Bf λK hK=>?_;go_simp;refine aE.k ?_;rintro w3 rfl;refine hK _ _ ⟨d10,p1⟩ (λhS=>?_);refine Bl ?_;go_wp2;go_ret;have⟨d,z,q1,q2⟩:=aM.o;have aB:=q1.ak (A4.C Aa w2).aa;have⟨r1,r2⟩:=aB.CQ 10 (A0 (DL A8 a)) (aB.Ae.cv (DL A8 a)) rfl rfl rfl rfl;exact⟨rfl,aK.o.aa.tr r1,d,z,r2,q2⟩
end
def Hh.aj{H:Nat}{w w':gC}{v:gD}(h:Hh H w v)(I:A4 (Up H) w w'):Hh H w' v:=by
 obtain⟨ts,⟨z,cap,e,Y,hj⟩,L,E⟩:=h;refine⟨ts,⟨z,cap,e,Y,λj d=>?_⟩,L,E⟩;have⟨tb,to_,e2,h4,h5⟩:=hj j d;have X:=E z _ cap (A9 tb to_) (λO=>absurd (O ▸ d) (JX _)) e e2;exact⟨tb,to_,e2,Bp h4 I.Ak,Dv I h5 λhx=>by unfold Up at hx;dsimp only at X;omega⟩
def Hy.aj{L0:Nat}{H S:Nat->Prop}{w w':gC}{v:gD}(h:Hy L0 H w v)(E:A4 S w w')(z:∀k,S k->H k:=by exact λ_ h=>h):Hy L0 H w' v:=⟨h.1,h.2.aj (E.ah λk _ d=>h.1 k (z k d))⟩
section
variable{w w':gC}{L0:Nat}{H:Nat->Prop}{wb t t' B:Nat}{ld:Int}{n:WN}{pd:gF Pu}{ls:gF (gD×Int)}
def DE.ah(h:DE t L0 H wb ld w n pd ls)(d:t<=t'):DE t' L0 H wb ld w n pd ls:=by
 obtain⟨h1,X,h3,h4,b,Ad,P,FT,h5,h6,h7⟩:=h;refine⟨h1,X,h3,iC,b,Ad,P,FT,h5,h6,?_⟩;rcases h7 with⟨sb,ab,Y,L,A,E,z,I,g4,g5,O,g7,g8,g9⟩|⟨E,z,I⟩
 ·exact .inl ⟨sb,ab,Y,L,A,E,z,I,g4,g5,O,g7.ah d,g8,λk hk=>AO (g9 k hk) d⟩
 ·exact .inr ⟨E,z,I.ah d⟩
def DE.ak(h:DE t L0 H wb ld w n pd ls)(E:A4 Aa w w'):DE t L0 H wb ld w' n pd ls:=by
 obtain⟨h1,X,h3,h4,b,Ad,P,FT,h5,h6,h7⟩:=h;refine⟨h1,X,h3.aj E λ_ h=>h.elim,h4,b,Ad,P,FT,h5,h6,?_⟩;rcases h7 with⟨sb,ab,Y,L,A,z,d,I,g4,g5,O,g7⟩|⟨z,d,I⟩
 ·exact .inl ⟨sb,ab,Y,L,A,z,d,I,g4,g5,O.ak E,g7⟩
 ·exact .inr ⟨z,d.ak E,I⟩
def DE.Ae(h:DE t L0 H wb ld w n pd ls):AR w wb n:=by
 obtain⟨-,-,-,-,b,Ad,P,FT,-,-,d⟩:=h;rcases d with⟨_,_,_,_,_,_,_,_,_,_,g,-⟩|⟨-,g,-⟩<;>exact g.Ae
def LI(w:gC)(L0:Nat)(H:Nat->Prop)(wb:Nat)(ld:Int)(t:Nat):Prop:=∃n pd ls,DE t L0 H wb ld w n pd ls
def WL(w:gC)(kd k tt v:Int)(tv:gD)(h:DE t L0 H wb ld w n pd ls)(aA:n.sv≠.pointer none)(hL:Lets B w)(aB:∀k,H k->B<=k)(ht:t+1<=330000)(aD:Ay tt)(hv:Ay v):
 Ag 54 #[A5 wb,.agg #[A0 kd,A0 k,A0 tt,A0 v,tv]] w (Aj (.bool true) λw'=>A4 H w w'/\LI w' L0 H wb ld (t+1)):=by
 obtain⟨Y,h2,h3,h4,b,Ad,P,FT,h5,h6,h7⟩:=h;rcases h7 with⟨sb,ab,O,L,A,E,X,g3,g4,g5,g6,g7,g8,g9⟩|⟨E,-⟩
 ·by_cases hk:0<=k/\k<8
  ·cases O with
   | true=>
    refine(WM w kd k tt v tv g6 E X g7.pb iC h6 hk).k ?_;rintro w'⟨z,d,hW⟩;exact⟨rfl,z,n,pd,ls,DE.ah ⟨Y,h2,h3.aj z,h4,b,Ad,P,d,h5,h6,.inl ⟨sb,ab,true,L,A,E,X,g3,g4,g5,hW,g7,g8,g9⟩⟩ iC⟩
   | false=>
    refine(WO (Ad:=Ad) w kd k tt v tv g6 E X rfl g7 g8 ht h6 ⟨hk,aD,hv⟩ g9 g4 Y hL aB).k ?_;rintro w'⟨z,d,I,aF,aE,aG,q,q1,q2⟩;rcases q2 with⟨O,r1,r2,r3,r4⟩|⟨r1,r2⟩
    ·exact⟨rfl,z,{n with pv:=I,CU:=O},q,ls,Y,h2,h3.aj z,iC,b,Ad,aE,d,h5,q1,.inl ⟨sb,ab,O,aG,aF,E,rfl,g3,g4,g5,r1,r2,r3,r4⟩⟩
    ·exact⟨rfl,z,{n with pv:=I,CU:=true,sv:=.pointer none},q,ls,Y,h2,h3.aj z,iC,b,Ad,aE,d,h5,q1,.inr ⟨rfl,r1,r2⟩⟩
  ·refine(WQ w kd k tt v tv g6 E X g7.pb iC h6 hk).k ?_;rintro w'⟨z,d,hW⟩;exact⟨rfl,z,n,pd,ls,DE.ah ⟨Y,h2,h3.aj z,h4,b,Ad,P,d,h5,h6,.inl ⟨sb,ab,O,L,A,E,X,g3,g4,g5,hW,g7,g8,g9⟩⟩ iC⟩
 ·exact absurd E aA
def A3J(w:gC)(kd k a b3:Int)(tv:gD)(aB:kd=3\/kd=5)(h:DE t L0 H wb ld w n pd ls)(aA:n.sv≠.pointer none)(ht:t+1<=330000):
 Ag 55 #[A5 wb,.agg #[A0 kd,A0 k,A0 a,A0 b3,tv]] w (Aj (.bool true) λw'=>A4 H w w'/\LI w' L0 H wb ld (t+1)):=by
 obtain⟨h1,h2,h3,h4,b,Ad,P,FT,h5,h6,h7⟩:=h;rcases h7 with⟨sb,ab,ro,L,A,E,g2,g3,g4,g5,Y,g7,g8,g9⟩|⟨E,-⟩
 ·have hlen:=g7.Be;have fin:∀w' n' d,A4 H w w'->KN n n'->LW w' H wb n' b ld (KS sb ab b ld n.wc n.Cy ro L A P) FT pd d->d.length=ls.length+4->LI w' L0 H wb ld (t+1):=λw' n' d z X O hl=>by
   obtain⟨lv',c',rfl⟩:∃lv' c',n' = {n with lv:=lv',FQ:=c'}:=⟨_,_,X⟩;exact⟨{n with lv:=lv',FQ:=c'},pd,d,h1,h2,h3.aj z,iC,b,Ad,P,FT,h5,h6,.inl ⟨sb,ab,ro,L,A,E,g2,g3,g4,g5,O,g7.ah (EW t),g8,λk hk=>JZ (g9 k hk)⟩⟩
  rcases aB with rfl|rfl
  ·by_cases hk:0<=k/\k<8
   ·obtain⟨k',rfl⟩:∃k':Nat,k=k':=⟨k.toNat,iC⟩;refine(A3L w a b3 tv Y E rfl g8 iC (λp hp=>(g7.pu p hp).2.1) iC iC g4 h1).k ?_;rintro w'⟨z,n',d,O,I,X⟩;exact⟨rfl,z,fin w' n' d z X O I⟩
   ·refine(A3M w k a b3 tv Y E hk iC).k ?_;rintro w'⟨z,n',d,O,I,X⟩;exact⟨rfl,z,fin w' n' d z X O I⟩
  ·refine(A3K w k a b3 tv Y E rfl g2).k ?_;rintro w' z;exact⟨rfl,z.aS,n,pd,ls,DE.ah (DE.ak ⟨h1,h2,h3,h4,b,Ad,P,FT,h5,h6,.inl ⟨sb,ab,ro,L,A,E,g2,g3,g4,g5,Y,g7,g8,g9⟩⟩ z) iC⟩
 ·exact absurd E aA
def Xq(w:gC)(kd a b3 c3:Int)(tv:gD)(h:DE t L0 H wb ld w n pd ls)(aA:n.sv≠.pointer none)(ha:Ay a):
 Ag 56 #[A5 wb,.agg #[A0 kd,A0 a,A0 b3,A0 c3,tv]] w (Aj (.bool true) λw'=>A4 H w w'/\LI w' L0 H wb ld (t+1)):=by
 obtain⟨O,h2,h3,h4,b,Ad,P,FT,h5,h6,h7⟩:=h;rcases h7 with⟨sb,ab,ro,L,A,d,g2,g3,g4,g5,X,g7,g8,g9⟩|⟨d,-⟩
 ·obtain⟨ha1,z⟩:=ha;by_cases h0:a<0
  ·refine(Xs w kd a b3 c3 tv X d h0).k ?_;rintro w' I;exact⟨rfl,I.aS,n,pd,ls,DE.ah (DE.ak ⟨O,h2,h3,h4,b,Ad,P,FT,h5,h6,.inl ⟨sb,ab,ro,L,A,d,g2,g3,g4,g5,X,g7,g8,g9⟩⟩ I) iC⟩
  ·have E:n.Cy<=DL n.Cy a:=by
    obtain⟨k1,k2⟩:=O;unfold DL;split<;>omega
   refine(Xr w kd a b3 c3 tv X d rfl ⟨iC,z⟩ g4 O).k ?_;rintro w'⟨I,Y,aB,hW,hF⟩;refine⟨rfl,I,{n with Cy:=DL n.Cy a},pd,ls,DE.ah ⟨Mz O iC z,h2,h3.aj I,h4,b,Ad,P,Y,h5,h6,.inl ⟨sb,ab,ro,aB,A,d,g2,g3,g4,g5,hW,g7.bh (MX E),g8.e4 (λp hp=>(g7.pu p hp).2.1) E hF,λk hk=>?_⟩⟩ iC⟩;have:=hF.Be hk;have:=g9 k hk;omega
 ·exact absurd d aA
def Y7(w:gC)(d a z c3:Int)(tv:gD)(h:DE t L0 H wb ld w n pd ls)(E:n.sv≠.pointer none)(hL:Lets B w)(aI:∀k,H k->B<=k)(ht:t+1<=330000)(ha:Ay a)(hb:Ay z)(aK:Ay c3)(hk:d∉[1,6,7,8,9,10,11]):
 Ag 18 #[A5 wb,.agg #[A0 d,A0 a,A0 z,A0 c3,tv]] w (Aj (.bool true) λw'=>A4 H w w'/\LI w' L0 H wb ld (t+1)):=by
 have hA:=(A4.C Aa w).ai (BL d a z c3 tv);have⟨o0,o1,o2,o3⟩:=GI w d a z c3 tv;have o4:(w.alloc (BL d a z c3 tv)).cell? (A9 w.heap.size 4)=some tv:=by
  have aA:=Bn w (BL d a z c3 tv);unfold BL at aA ⊢;simp only[World.cell?,aA];rfl
 have O:=h.ak hA;have aB:=hL.aL hA;generalize aG:w.alloc (BL d a z c3 tv)=w1 at hA o0 o1 o2 o3 o4 O aB;unfold BL at aG;have c5:∃sb,w1.cell? (A9 wb 5)=some (A5 sb):=by
  have hb:=O.Ae.c5;obtain⟨-,-,-,-,b,Ad,P,FT,-,-,h7⟩:=O;rcases h7 with⟨sb,ab,ro,L,A,g1,-⟩|⟨g1,-⟩
  ·exact⟨sb,by rw[hb,g1]⟩
  ·exact absurd g1 E
 obtain⟨sb,c5⟩:=c5;have aO:Hid (∀d,Ag 54 #[A5 wb,.agg #[A0 d,A0 a,A0 z,A0 c3,tv]] w1 (Aj (.bool true) λw'=>A4 H w1 w'/\LI w' L0 H wb ld (t+1))):=λd=>WL w1 d a z c3 tv O E aB aI ht hb aK;have aM:Hid (∀d,d=3\/d=5->Ag 55 #[A5 wb,.agg #[A0 d,A0 a,A0 z,A0 c3,tv]] w1 (Aj (.bool true) λw'=>A4 H w1 w'/\LI w' L0 H wb ld (t+1))):=λd aF=>A3J w1 d a z c3 tv aF O E ht;have aL:Hid (∀d,Ag 56 #[A5 wb,.agg #[A0 d,A0 a,A0 z,A0 c3,tv]] w1 (Aj (.bool true) λw'=>A4 H w1 w'/\LI w' L0 H wb ld (t+1))):=λd=>Xq w1 d a z c3 tv O E ha;have aN:Hid (LI w1 L0 H wb ld (t+1)):=⟨n,pd,ls,O.ah (EW t)⟩;have aD:Hid (A4 H w w1):=hA.aS;simp only[BS,Wi,or_false,not_or]at hk;obtain⟨n1,n6,n7,n8,n9,n10,n11⟩:=hk;by_cases e2:d=2
 ·subst e2;have aH:=A1 (aO.o 2)
  go_enter func18,ntmps18
  go_wp2_with (go_at_call 54;refine aH.k ?_;rintro w2⟨k2,hI⟩;have X:=A1 k2;have Y:=A1 hI);go_ret;exact⟨rfl,aD.o.tr X.o,Y.o⟩
 ·by_cases I:d=3\/d=5
  ·have aE:=A1 (aM.o d I);rcases I with rfl|rfl
   all_goals
    go_enter func18,ntmps18
    go_wp2_with (go_at_call 55;refine aE.k ?_;rintro w2⟨k2,hI⟩;have X:=A1 k2;have Y:=A1 hI);go_ret;exact⟨rfl,aD.o.tr X.o,Y.o⟩
  ·by_cases e4:d=4
   ·subst e4;have aJ:=A1 (aL.o 4)
    go_enter func18,ntmps18
    go_wp2_with (go_at_call 56;refine aJ.k ?_;rintro w2⟨k2,hI⟩;have X:=A1 k2;have Y:=A1 hI);go_ret;exact⟨rfl,aD.o.tr X.o,Y.o⟩
   ·have e3:¬d=3:=λe=>I (.inl e);have e5:¬d=5:=λe=>I (.inr e)
    go_enter func18,ntmps18
    go_wp2;go_ret;exact⟨rfl,aD.o,aN.o⟩
def Y9(w:gC)(d a z c3:Int)(tv:gD)(h:AR w wb n)(E:n.sv=.pointer none)(O:d∉[1,6,7,8,9,10,11]):
 Ag 18 #[A5 wb,.agg #[A0 d,A0 a,A0 z,A0 c3,tv]] w (Aj (.bool true) λw'=>A4 Aa w w'):=by
 have I:=(A4.C Aa w).ai (BL d a z c3 tv);have⟨o0,o1,o2,o3⟩:=GI w d a z c3 tv;have X:=h.ak I;generalize L:w.alloc (BL d a z c3 tv)=w1 at I o0 o1 o2 o3 X;unfold BL at L;have c5:=X.c5;rw[E]at c5;have Y:=A1 I;simp only[BS,Wi,or_false,not_or]at O;obtain⟨n1,n6,n7,n8,n9,n10,n11⟩:=O
 go_enter func18,ntmps18
 go_wp2;go_ret;exact⟨rfl,Y.o⟩
end
section
variable{w:gC}{wb b:Nat}{n:WN}{D:DS}{F:Nat->FC}{Ft:Nat->Prop}
def L8(wb:Nat)(Ft:Nat->Prop)(k:Nat):Prop:=k=wb\/Ft k
def X9(w:gC)(h:AR w wb n)(aF:n.dv=(A5 b))(hd:AU w b D F Ft)(aG:¬Ft wb)(da:Int)(vt:gD)(ts:gF Int)(ht:Mo w vt ts)(aI:∀ad n c x,n≠0->vt=.slice ad n c->ad=some x->¬Ft x.block)(hs:D.A6.length<1099511627776/\D.AG.length<1099511627776/\D.As.length<1099511627776/\∀c∈D.As,c.length<1099511627776)(hdi : -9223372036854775808<=da/\da<=9223372036854775807)(aH:∀t∈ts,-9223372036854775808<=t/\t<=9223372036854775807)(hF:∀f,D.Aq f->0<=(F f).2/\(F f).2<=(F f).1.length/\(F f).1.length<=1099511627776):
 Ag 43 #[A5 wb,A0 da,vt] w (Aj (.tuple #[]) λw'=>AR w' wb {n with sv:=.pointer none,fell:=true}/\A4 (L8 wb Ft) w w'/\
  ∃d,AU w' b (Fm D F da ts).1 (Fm D F da ts).2 d/\(∀k,d k->k<w'.heap.size)/\∀k,d k->Ft k\/w.heap.size<=k):=by
 have CR:=A1 (A2S hd da vt ts ht aI hs hdi aH hF);have c4:=h.c4;rw[aF]at c4;have H:=A1 h;have aL:=A1 aG
 go_enter func43,ntmps43
 go_wp2_with (fail);refine CR.k ?_;rintro w1⟨O,E,aD,aJ,aE⟩;have I:=A1 (H.o.Am O aL.o);have e5:=I.o.fz 5;have e8:=I.o.fz 8;have s5:=I.o.c5;have s8:=I.o.c8;have aB:=A1 O;have aK:=A1 aD;have aA:=A1 aJ;have z:=A1 aE;go_wp2;have Y:A4 (One wb) w1 ((w1.sC wb 5 (.pointer none)).sC wb 8 (.bool true)):=((A4.C (One wb) w1).an rfl 5 _).an rfl 8 _;have X:¬E wb:=λhx=>(z.o wb hx).elim aL.o λh=>by have:=H.o.lt;omega
 refine Vp (Jv rfl _ _ _) rfl ?_;refine⟨rfl,(I.o.s5 (.pointer none)).s8 true,(aB.o.ah (S':=L8 wb Ft) λ_ _ h=>.inr h).AF Y (λx hx _=>.inl hx),E,aK.o.aK λk hk=>Y.Al k (aA.o k hk) (λe=>X (by cases e;exact hk)),λk hk=>by simpa using aA.o k hk,z.o⟩
def Fe(a:Int):Int:=if a<0 then 1 + -((a+1).tmod 40) else 1+a % 40
def Q6(a:Int):1<=Fe a/\Fe a<=40:=by
 unfold Fe;split
 ·rw[<-QL,A40 iC];omega
 ·omega
def X7(w:gC)(h:AR w wb n)(aA:n.dv=(A5 b))(hd:AU w b D F Ft)(E:∀k,Ft k->k<w.heap.size)(a p c:Int)(tv:gD)(ha : -9223372036854775808<=a/\a<=9223372036854775807):
 Ag 53 #[A5 wb,.agg #[A0 11,A0 a,A0 p,A0 c,tv]] w (Aj (.tuple #[]) λw'=>EC w Ft w' b {D with n:=EU D.n (Fe a) p} F):=by
 obtain⟨a1,a2⟩:=ha;have z:=(A4.C Aa w).ai (BL 11 a p c tv);obtain⟨o0,o1,X,-⟩:=GI w 11 a p c tv;have d:=hd.av E z;have c4:=(h.ak z).c4;rw[aA]at c4;generalize aB:w.alloc (BL 11 a p c tv)=w0 at z o0 o1 X d c4;unfold BL at aB;have aD:=A1 (λx=>UP d.aa x p);have K:Hid (∀w',EC w0.drew Ft w' b {D with n:=EU D.n (Fe a) p} F->EC w Ft w' b {D with n:=EU D.n (Fe a) p} F):=λw' h=>h.a1 z.aa;have hb:=Q6 a;by_cases hn:a<0
 ·have e1:IntKind.i64.wrap (a+1)=a+1:=E9 iC;have e2:IntKind.i64.wrap (-(a+1)) = -(a+1):=E9 iC;have O:Fe a=1 + -((a+1).tmod 40):=by unfold Fe;rw[Ai hn]
  rw[O]at hb K ⊢;have e3:IntKind.i64.wrap (1 + -((a+1).tmod 40))=1 + -((a+1).tmod 40):=E9 iC;have e4:IntKind.i64.wrap (-((a+1).tmod 40)) = -((a+1).tmod 40):=E9 iC
  go_enter func53,ntmps53
  go_wp2;refine Bq (λw'=>A7 w' wb 4 (A5 b)/\A7 w' w.heap.size 2 (A0 p)) 9
   (Ba [0,1,2,3,4,5,6,7,8] []) ⟨c4,X⟩ ?_
  iterate 9 refine B4 ?_
  refine Bl ?_;go_wp2_with (fail);refine(aD.o _).k ?_;rintro w1 Y;have I:=A1 (K.o _ Y);go_wp2;refine JU (Jv rfl _ _ _) rfl ?_;exact⟨rfl,I.o⟩
 ·have O:Fe a=1+a % 40:=by unfold Fe;rw[Af hn]
  rw[O]at hb K ⊢;have e3:IntKind.i64.wrap (1+a % 40)=1+a % 40:=E9 iC;have e4:IntKind.i64.wrap (a % 40)=a % 40:=E9 iC
  go_enter func53,ntmps53
  go_wp2;refine Bq (λw'=>A7 w' wb 4 (A5 b)/\A7 w' w.heap.size 2 (A0 p)) 9
   (Ba [0,1,2,3,4,5,6,7,8] []) ⟨c4,X⟩ ?_
  iterate 9 refine B4 ?_
  refine Bl ?_;go_wp2_with (fail);refine(aD.o _).k ?_;rintro w1 Y;have I:=A1 (K.o _ Y);go_wp2;refine JU (Jv rfl _ _ _) rfl ?_;exact⟨rfl,I.o⟩
def X8(w:gC)(h:AR w wb n)(aP:n.dv=(A5 b))(hd:AU w b D F Ft)(aE:∀k,Ft k->k<w.heap.size)(aI:¬Ft wb)(O a p c:Int)(E:Option Addr)(I z:Nat)(aN:O≠11){oa:Option Addr}{ol oc:Nat}(aF:n.tv=.slice oa ol oc)(ha : -9223372036854775808<=a/\a<=9223372036854775807):
 Ag 53 #[A5 wb,.agg #[A0 O,A0 a,A0 p,A0 c,.slice E I z]] w (Aj (.tuple #[]) λw'=>AR w' wb {n with da:=p,tv:=.slice E I z}/\A4 (L8 wb Ft) w w'/\
  ∃d,AU w' b {D with n:={D.n with CZ:=wrap64 (D.n.Bc+Fe a)}} F d/\(∀k,d k->k<w'.heap.size)/\∀k,d k->Ft k\/w.heap.size<=k):=by
 obtain⟨a1,a2⟩:=ha;have hA:=(A4.C Aa w).ai (BL O a p c (.slice E I z));have hbk:(O==11)=false:=I8.2 aN;have aL:=Bn w (BL O a p c (.slice E I z));obtain⟨o0,o1,o2,-⟩:=GI w O a p c (.slice E I z);have aG:=hd.av aE hA;have c4:=(h.ak hA).c4;rw[aP]at c4;have hW:=h.ak hA;have hwl:wb<w.heap.size:=h.lt;have o4:A7 (w.alloc (BL O a p c (.slice E I z))) w.heap.size 4 (.slice E I z):=CJ aL;have aO:(w.alloc (BL O a p c (.slice E I z))).heap.size=w.heap.size+1:=iE
 generalize aQ:w.alloc (BL O a p c (.slice E I z))=w0 at hA o0 o1 o2 o4 aG c4 hW aO;unfold BL at aQ;have aR:=A1 (λx=>V5 aG x)
 have K:Hid (∀w',EC w0 Ft w' b {D with n:={D.n with CZ:=if Fe a>0 then wrap64 (D.n.Bc+Fe a) else 0}} F->
  (A7 w' w.heap.size 2 (A0 p)/\A7 w' w.heap.size 4 (.slice E I z)/\AR w' wb n)/\
  (∀u,AR (u:gC) wb {n with da:=p,tv:=.slice E I z}->A4 (One wb) w' u->(AR u wb {n with da:=p,tv:=.slice E I z}/\A4 (L8 wb Ft) w u/\
  ∃d,AU u b {D with n:={D.n with CZ:=wrap64 (D.n.Bc+Fe a)}} F d/\(∀k,d k->k<u.heap.size)/\∀k,d k->Ft k\/w.heap.size<=k))):=λw' hf=>by
  obtain⟨aB,aM,aD,aJ,aH⟩:=hf;rw[Ai (by have:=Q6 a;omega)]at aD;have hx:¬Ft w.heap.size:=λhx=>by have:=aE _ hx;omega
  have keep:∀(o:Nat) (v:gD),A7 w0 w.heap.size o v->A7 w' w.heap.size o v:=λo v hv=>Dv aB hv hx;refine⟨⟨keep 2 _ o2,keep 4 _ o4,hW.Am aB aI⟩,λu hu aA=>⟨hu,?_,aM,aD.aK λk hk=>aA.Al k (aJ k hk) (λe=>?_),λk hk=>Bp (aJ k hk) aA.Ak,λk hk=>(aH k hk).imp id λh=>iC⟩⟩
  ·exact((hA.aS (S:=L8 wb Ft)).AF aB (λ_ h _=>.inr h)).AF aA λx hx _=>.inl hx
  ·cases e;(exact(aH _ hk).elim aI λh=>iC)
 have hb:=Q6 a;by_cases hn:a<0
 ·have e1:IntKind.i64.wrap (a+1)=a+1:=E9 iC;have e2:IntKind.i64.wrap (-(a+1)) = -(a+1):=E9 iC;have hq:Fe a=1 + -((a+1).tmod 40):=by unfold Fe;rw[Ai hn]
  rw[hq]at hb K ⊢;have e3:IntKind.i64.wrap (1 + -((a+1).tmod 40))=1 + -((a+1).tmod 40):=E9 iC;have e4:IntKind.i64.wrap (-((a+1).tmod 40)) = -((a+1).tmod 40):=E9 iC
  go_enter func53,ntmps53
  go_wp2_with (fail);refine(aR.o _).k ?_;rintro w1 hf;have⟨⟨p2,p4,hw1⟩,hfin⟩:=K.o _ hf;have X:=A1 hfin;have Y:=A1 hw1;have s9:=hw1.dx;have s10:=hw1.dY;rw[aF]at s10;have z9:=hw1.fz 12;have aK:=hw1.fz 13;go_wp2;refine Vp (Jv rfl _ _ _) rfl ?_;exact⟨rfl,X.o _ ((Y.o.eQ p).eN (.slice E I z)) (((A4.C (One wb) w1).an rfl 12 _).an rfl 13 _)⟩
 ·have hq:Fe a=1+a % 40:=by unfold Fe;rw[Af hn]
  rw[hq]at hb K ⊢;have e3:IntKind.i64.wrap (1+a % 40)=1+a % 40:=E9 iC;have e4:IntKind.i64.wrap (a % 40)=a % 40:=E9 iC
  go_enter func53,ntmps53
  go_wp2_with (fail);refine(aR.o _).k ?_;rintro w1 hf;have⟨⟨p2,p4,hw1⟩,hfin⟩:=K.o _ hf;have X:=A1 hfin;have Y:=A1 hw1;have s9:=hw1.dx;have s10:=hw1.dY;rw[aF]at s10;have z9:=hw1.fz 12;have aK:=hw1.fz 13;go_wp2;refine Vp (Jv rfl _ _ _) rfl ?_;exact⟨rfl,X.o _ ((Y.o.eQ p).eN (.slice E I z)) (((A4.C (One wb) w1).an rfl 12 _).an rfl 13 _)⟩
end
section
variable{w w':gC}{sb ab b t:Nat}{mu ld wc A8 o:Int}{ro:Bool}{L:Nat->gF Pt}{A:Ar}{P:PD}{FT:Nat->Prop}{pd:gF Pu}{Ad:Nat}
def DI.eS{E:Int×Int}(h:DI E P pd Ad o)(f:Nat)(I:P.D.Aq f):0<=(P.F f).2/\(P.F f).2<=(P.F f).1.length:=by
 have key:∀s∈BB P,∀e∈s,0<=(P.F e.2).2/\(P.F e.2).2<=(P.F e.2).1.length:=λs z e d=>by
  have⟨ix,sg,cl,lo,nb,hL,_⟩:=h.E6 s z;have O:vw P.F s e.1.data.toList=some (P.F e.2):=by
   unfold vw;rw[G4];cases hk:lookup s e.1 with
   | none=>exact absurd rfl (J1.1 hk e d)
   | some g=>
    have⟨i,hi,e1⟩:=DD (Eo hk);have⟨j,hj,e2⟩:=DD d;have:i=j:=JC (h.Ck s z) (by simpa using hi) (by simpa using hj) (by simp[e1,e2]);subst this;rw[e1]at e2;rw[<-e2];rfl
  exact hL.El _ _ O
 rcases I with⟨e,d,rfl⟩|⟨e,d,rfl⟩|⟨l,X,e,d,rfl⟩
 ·exact key _ h.CG e d
 ·exact key _ (BI ..) e d
 ·exact key _ (BC _ X) e d
def SF.bO(h:SF w sb ab b mu ld wc A8 ro L A P FT):∃Ft,Bw w b P Ft/\(∀k,Ft k->k<w.heap.size)/\(∀k,Ft k->FT k)/\∀(S z:Nat->Prop) (w':gC) (P':PD),A4 S w w'->(∀k,FT k->S k->Ft k)->Bw w' b P' z->(∀k,z k->k<w'.heap.size)->(∀k,z k->Ft k\/w.heap.size<=k)->
 ∃X,SF w' sb ab b mu ld wc A8 ro L A P' X/\(∀k,X k->k<w'.heap.size)/\∀k,X k->FT k\/w.heap.size<=k:=by
 obtain⟨lv,F0,I,O⟩:=h;have⟨xb,jb,sv,ov,l,jo,Ft,h3,h4⟩:=I.ar;refine⟨Ft,h3.dk,h3.lt,λk d=>O k (.inl (h4 k (.inl d))),λS z w' P' hc hS d1 d2 d3=>?_⟩;have hs:Gz (G0 ab xb jb sv ov l jo) w w':=hc.av (λ_ d=>h3.bJ d) λk d E=>h3.Dp k d (hS k (O k (.inl (h4 k (.inr d)))) E)
 have hA:Cv w' ab b xb jb sv ov l jo A P' z:=⟨(hs ab (.inl rfl)).trans h3.Ae,(hs xb (.inr (.inl rfl))).trans h3.ix,h3.sd.aK λg Y=>hs g (.inr (.inr (.inl Y))),h3.AS.aK λg Y=>hs g (.inr (.inr (.inr (.inl Y)))),
  h3.jn.aK λk d=>hs k (.inr (.inr (.inr (.inr d)))),d1,d2,λk d E=>(d3 k E).elim (h3.Dp k d) λh'=>by have:=h3.bJ d;omega,h3.G2,h3.GD,h3.Gg⟩
 have nF:∀k,(k=sb\/F6 lv k)->¬F0 k:=λk d=>by
  rcases d with rfl|d
  ·exact I.ns
  ·exact I.nr k d
 have oF:∀k,(k=sb\/F6 lv k)->FT k/\k<w.heap.size:=λk d=>by
  rcases d with rfl|d
  ·exact⟨O _ (.inr (.inl rfl)),I.Ae.lt⟩
  ·exact⟨O _ (.inr (.inr d)),I.Ed.lt d⟩
 have nS:∀k,(k=sb\/F6 lv k)->¬S k:=λk d E=>nF k d (h4 k (.inl (hS k (oF k d).1 E)));have nN:∀k,(k=sb\/F6 lv k)->¬(z k\/G0 ab xb jb sv ov l jo k):=λk d E=>by
  rcases E with E|E
  ·rcases d3 k E with h' | h'
   ·exact nF k d (h4 k (.inl h'))
   ·have:=(oF k d).2;omega
  ·exact nF k d (h4 k (.inr E))
 refine⟨λk=>(z k\/G0 ab xb jb sv ov l jo k)\/Own sb lv k,⟨lv,λk=>z k\/G0 ab xb jb sv ov l jo k,⟨I.Ae.Am hc (nS sb (.inl rfl)),I.Ed.Am hc λg Y=>nS g (.inr Y),⟨xb,jb,sv,ov,l,jo,z,hA,λk d=>d⟩,λk d=>hA.b0 d,nN sb (.inl rfl),λk d=>nN k (.inr d)⟩,λk d=>d⟩,λk d=>?_,λk d=>?_⟩
 ·rcases d with d|rfl|d
  ·exact hA.b0 d
  ·exact Bp I.Ae.lt hc.Ak
  ·exact Bp (I.Ed.lt d) hc.Ak
 ·rcases d with (d|d)|rfl|d
  ·exact(d3 k d).imp (λh'=>O k (.inl (h4 k (.inl h')))) id
  ·exact .inl (O k (.inl (h4 k (.inr d))))
  ·exact .inl (O _ (.inr (.inl rfl)))
  ·exact .inl (O _ (.inr (.inr d)))
end
end
section
open Go.RowKit
section
variable{w w':gC}{L0:Nat}{H:Nat->Prop}{wb b t:Nat}{n n':WN}{ld o:Int}{R R':Kind}{P:PD}{FT aA:Nat->Prop}{pd:gF Pu}{ls:gF (gD×Int)}{Ad:Nat}
def Co.dy{S:Nat->Prop}(h:LW w H wb n b ld R FT pd ls)(I:A4 S w w')(L:∀k,S k->k=wb\/FT k)(hb:AR w' wb n')(e1:n'.dv=n.dv)(e2:n'.ld=n.ld)(e3:n'.pv=n.pv)(e4:n'.lv=n.lv)(hs:Jf R')(hd:R' w' aA)(O:∀k,aA k->k<w'.heap.size)(hF:∀k,aA k->FT k\/w.heap.size<=k):A4 H w w'/\LW w' H wb n' b ld R' aA pd ls:=by
 have X:∀k,Ff wb n' ls k->Ff wb n ls k:=λk E=>by unfold Ff at E ⊢;rwa [e3,e4]at E
 have nP:∀g,n.pv.ownBlock=some g->¬S g:=λg d z=>(L g z).elim (λe=>h.cB (by rw[<-e];exact d)) (h.nw g (.inr (.inl d)))
 have nL:∀g,n.lv.ownBlock=some g->¬S g:=λg d z=>(L g z).elim (λe=>h.cd (by rw[<-e];exact d)) (h.nw g (.inr (.inr (.inl d))))
 refine⟨I.ah λk _ z=>(L k z).elim (λe=>by rw[e];exact h.Dz wb (.inl rfl)) (h.F4 k),hb,e1.trans h.D9,e2.trans h.FO,hs,hd,O,?_,?_,λk E z=>?_,λk E=>h.Dz k (X k E),λk E=>(hF k E).elim (h.F4 k) λz=>h.DP k z,λk E=>h.DP k (AO I.Ak E),λe Y=>(h.rd e Y).aj I λg d z=>(L g z).elim (h.b4 Y d).1 (h.nw g (.inr (.inr (.inr ⟨e,Y,d⟩))))⟩
 ·rw[e3];exact Au h.Dq λg d=>I.Al g (Aw h.Dq d) (nP g d)
 ·rw[e4];exact Au h.En λg d=>I.Al g (Aw h.En d) (nL g d)
 ·rcases hF k z with z|z
  ·exact h.nw k (X k E) z
  ·have:=h.b8 (X k E);omega
def Ym(d:PB P t)(ht:t<=330000):P.D.A6.length<1099511627776/\P.D.AG.length<1099511627776/\P.D.As.length<1099511627776/\∀c∈P.D.As,c.length<1099511627776:=by
 have h1:=d.D8.A6;have h2:=d.D8.AG;have h3:=d.D8.Am;exact⟨iC,iC,iC,λc h=>by have:=d.D8.G6 c h;omega⟩
def V7(h:LW w H wb n b ld (KD b P) FT pd ls)(I:PB P t)(z:DI (Cu t) P pd Ad o)(hq:∀p∈pd,Bo p)(hl:pd.length<=t)(aB:Ad<=pd.length)(ht:t<=330000)(da:Int)(Y:gD)(X:Ay da)(E:Hy L0 H w Y):
 Calls Tryz.prog 43 #[.pointer (some ⟨wb,0,none⟩),.int .i64 da,Y] w λe w'=>e=.returned (.tuple #[])/\A4 H w w'/\∃aA P',LW w' H wb {n with sv:=.pointer none,fell:=true} b ld (KD b P') aA pd ls/\EN t P' pd Ad o true/\P'.D.n.Bh=false/\P'.D.n.Av=P.D.n.Av:=by
 obtain⟨O,ts,k1,k2,k3⟩:=E;have d:=I.D8.Be;refine(X9 w h.Ae h.D9 h.Es (h.nw wb (.inl rfl)) da Y ts k1 (λad m c x e0 e1 e2 hx=>FV _ (Bp (k3 ad m c x e0 e1 e2) (O _ (h.F4 _ hx)))) (Ym I ht) X k2 (λf L=>⟨(z.eS f L).1,(z.eS f L).2,by have:=d f L;omega⟩)).k ?_;rintro w'⟨q1,q2,aA,q3,q4,q5⟩;have⟨c1,c2⟩:=EN.a6 I z hq hl aB ht da ts;have⟨r1,r2⟩:=h.dy (n':={n with sv:=.pointer none,fell:=true}) (R':=KD b (P.a6 da ts)) q2 (λk hk=>hk) q1 rfl rfl rfl rfl (KD.E1 _ _) q3 q4 q5;exact⟨rfl,r1,aA,_,r2,c1,c2,rfl⟩
end
section
variable{w w':gC}{L0:Nat}{H:Nat->Prop}{wb t:Nat}{n:WN}{ld:Int}{pd:gF Pu}{ls:gF (gD×Int)}
def DE.e3(h:DE t L0 H wb ld w n pd ls):∃(b Ad:Nat) (P:PD) (FT:Nat->Prop),n.AG=(Ad:Int)/\P.D.n.Av=DM n.Av/\LW w H wb n b ld (KD b P) FT pd ls/\EN t P pd Ad (AN n.Cy ld) n.fell:=by
 obtain⟨-,-,-,-,b,Ad,P,FT,z,E,X⟩:=h;rcases X with⟨sb,ab,ro,L,A,g1,d,I,g4,g5,O,Y,-⟩|⟨g1,d,I⟩
 ·have⟨Ft,g8⟩:=O.bO;exact⟨b,Ad,P,Ft,z,E,g8,Y.gq _⟩
 ·exact⟨b,Ad,P,FT,z,E,d,I⟩
def A2N(w:gC)(da:Int)(E:gD)(h:DE t L0 H wb ld w n pd ls)(O:t<=330000)(z:Ay da)(d:Hy L0 H w E):
 Ag 43 #[A5 wb,A0 da,E] w (Aj (.tuple #[]) λw'=>A4 H w w'/\LI w' L0 H wb ld t):=by
 have hh:=h;obtain⟨Y,L,h3,X,-⟩:=h;obtain⟨b,Ad,P,FT,s1,s2,s3,s4,s5,s6,s7,s8,-⟩:=hh.e3;refine(V7 s3 s4 s5 s6 s7 s8 O da E z d).k ?_;rintro w'⟨I,aA,P',q2,q3,q4,q5⟩;exact⟨rfl,I,{n with sv:=.pointer none,fell:=true},pd,ls,Y,L,h3.aj I,X,b,Ad,P',aA,s1,q5.trans s2,.inr ⟨rfl,q2,q3⟩⟩
end
section
variable{w w':gC}{L0:Nat}{H:Nat->Prop}{wb t:Nat}{n:WN}{ld:Int}{pd:gF Pu}{ls:gF (gD×Int)}
def DE.bR{n':WN}(h:DE t L0 H wb ld w n pd ls)(aE:n'.dv=n.dv)(aH:n'.ld=n.ld)(aF:n'.pv=n.pv)(aB:n'.lv=n.lv)(aD:n'.sv=n.sv)(aJ:n'.CU=n.CU)(aG:n'.fell=n.fell)(O:n'.Cy=n.Cy)(aI:n'.wc=n.wc)(X:n'.AG=n.AG)(aA:n'.Av=n.Av)(Y:Ay n'.da):
 ∃b P Ft,LW w H wb n b ld (λ_ _=>True) Ft pd ls/\Bw w b P Ft/\(∀k,Ft k->k<w.heap.size)/\(0<=P.D.n.BG/\P.D.n.BG<=9223372036854775807)/\∀(S:Nat->Prop) (E:DN) (w':gC) (z:Nat->Prop),E.Av=P.D.n.Av->(0<=E.BG/\E.BG<=9223372036854775807)->E.Bm=P.D.n.Bm->E.fulls=P.D.n.fulls->E.Bh=P.D.n.Bh->
  A4 S w w'->(∀k,S k->k=wb\/Ft k)->AR w' wb n'->Hy L0 H w' n'.tv->Bw w' b ⟨{P.D with n:=E},P.F⟩ z->(∀k,z k->k<w'.heap.size)->(∀k,z k->Ft k\/w.heap.size<=k)->A4 H w w'/\LI w' L0 H wb ld t:=by
 obtain⟨h1,h2,h3,h4,b,Ad,P,FT,h5,h6,h7⟩:=h;rcases h7 with⟨sb,ab,ro,L,A,g1,d,g3,g4,g5,I,g7,g8,g9⟩|⟨g1,d,g3⟩
 ·have⟨Ft,d1,d2,d3,d4⟩:=SF.bO I.Es;have hT:Jf (λ_ _=>True):=λ_ _ _ _ _ _ _ _=>trivial;refine⟨b,P,Ft,⟨I.Ae,I.D9,I.FO,hT,trivial,d2,I.Dq,I.En,λk hk hx=>I.nw k hk (d3 k hx),I.Dz,λk hk=>I.F4 k (d3 k hk),I.DP,I.rd⟩,d1,d2,g7.pb.D8.BG,λS E w' z e1 e2 e3 e4 e5 hc hS hb ht q1 q2 q3=>?_⟩;have⟨FT',r1,r2,r3⟩:=d4 S z w' _ hc (λk hk hx=>(hS k hx).elim (λe=>by rw[e]at hk;exact absurd hk (I.nw wb (.inl rfl))) id) q1 q2 q3;have⟨c1,c2⟩:=I.dy (n':=n') hc (λk hx=>(hS k hx).imp id (d3 k)) hb aE aH aF aB (KS.E1 sb ab b ld n.wc n.Cy ro L A ⟨{P.D with n:=E},P.F⟩) r1 r2 r3;refine⟨c1,n',pd,ls,by rw[O];exact h1,Y,ht,h4,b,Ad,⟨{P.D with n:=E},P.F⟩,FT',by rw[X];exact h5,by rw[aA,<-h6];exact e1,.inl ⟨sb,ab,ro,L,A,by rw[aD];exact g1,by rw[aJ];exact d,by rw[aG];exact g3,g4,by rw[aI];exact g5,by rw[aI,O];exact c2,by rw[O];exact g7.bR E e1 e2 e3 e4 e5,by rw[O];exact g8,g9⟩⟩
 ·have hT:Jf (λ_ _=>True):=λ_ _ _ _ _ _ _ _=>trivial;refine⟨b,P,FT,⟨d.Ae,d.D9,d.FO,hT,trivial,d.lt,d.Dq,d.En,d.nw,d.Dz,d.F4,d.DP,d.rd⟩,d.Es,d.lt,g3.1.D8.BG,λS E w' z e1 e2 e3 e4 e5 hc hS hb ht q1 q2 q3=>?_⟩;have⟨c1,c2⟩:=d.dy (n':=n') (R':=KD b ⟨{P.D with n:=E},P.F⟩) hc hS hb aE aH aF aB (KD.E1 _ _) q1 q2 q3;exact⟨c1,n',pd,ls,by rw[O];exact h1,Y,ht,h4,b,Ad,⟨{P.D with n:=E},P.F⟩,z,by rw[X];exact h5,by rw[aA,<-h6];exact e1,.inr ⟨by rw[aD];exact g1,c2,by rw[O,aG];exact g3.bR E e1 e2 e3 e4 e5⟩⟩
def ZQ{p:Int}{d:DN}{k:Int}(h:Ay p):0<=(EU d k p).BG/\(EU d k p).BG<=9223372036854775807:=by
 obtain⟨p1,p2⟩:=h;unfold EU wrap64;dsimp only
 split<;>omega
def A2g(w:gC)(a p c:Int)(tv:gD)(h:DE t L0 H wb ld w n pd ls)(ha:Ay a)(Y:Ay p):
 Ag 53 #[A5 wb,.agg #[A0 11,A0 a,A0 p,A0 c,tv]] w (Aj (.tuple #[]) λw'=>A4 H w w'/\LI w' L0 H wb ld t):=by
 have hh:=h;obtain⟨-,I,h3,-⟩:=h;obtain⟨b,P,Ft,d,k2,O,-,k4⟩:=hh.bR (n':=n) rfl rfl rfl rfl rfl rfl rfl rfl rfl rfl rfl I;refine(X7 w d.Ae d.D9 k2 O a p c tv ha).k ?_;rintro w'⟨E,z,q2,X,q4⟩;have⟨r1,r2⟩:=k4 Ft (EU P.D.n (Fe a) p) w' z rfl (ZQ Y) rfl rfl rfl E (λk L=>.inr L) (d.Ae.Am E (d.nw wb (.inl rfl))) (h3.aj (E.ah λk _ hx=>d.F4 k hx)) q2 X q4;exact⟨rfl,r1,r2⟩
def A2C(w:gC)(z a p c:Int)(tv:gD)(h:DE t L0 H wb ld w n pd ls)(E:z≠11)(ha:Ay a)(hp:Ay p)(L:Hy L0 H w tv):
 Ag 53 #[A5 wb,.agg #[A0 z,A0 a,A0 p,A0 c,tv]] w (Aj (.tuple #[]) λw'=>A4 H w w'/\LI w' L0 H wb ld t):=by
 have hh:=h;obtain⟨-,h2,⟨-,ts0,⟨a0,c0,e0,-⟩,-⟩,-⟩:=h;have I:=L;obtain⟨-,Y,⟨X,cap,rfl,-⟩,-⟩:=L;have⟨b,P,Ft,k1,k2,k3,k5,k4⟩:=hh.bR (n':={n with da:=p,tv:=.slice X Y.length cap}) rfl rfl rfl rfl rfl rfl rfl rfl rfl rfl rfl hp;refine(X8 w k1.Ae k1.D9 k2 k3 (k1.nw wb (.inl rfl)) z a p c X Y.length cap E e0 ha).k ?_;rintro w'⟨q0,O,d,q2,q3,q4⟩;have⟨r1,r2⟩:=k4 (L8 wb Ft) {P.D.n with CZ:=wrap64 (P.D.n.Bc+Fe a)} w' d rfl k5 rfl rfl rfl O (λk hk=>hk) q0 (I.aj (O.ah λk _ hx=>hx.elim (λe=>by rw[e];exact k1.Dz wb (.inl rfl)) (k1.F4 k))) q2 q3 q4;exact⟨rfl,r1,r2⟩
end

end
section
open Go.RowKit
attribute [local go_sem ↓] Go.wp_at_zero Go.wp_at_succ
def Xg{d u:Nat}(h:d<=330000)(hu:u<=300+150*d):IntKind.i64.wrap (150*(d:Int))=150*(d:Int)/\IntKind.i64.wrap (300+150*(d:Int))=300+150*(d:Int)/\(u:Int)<=300+150*(d:Int):=by
 refine⟨?_,?_,iC⟩
 ·simp[IntKind.wrap,IntKind.bits,IntKind.signed];omega
 ·simp[IntKind.wrap,IntKind.bits,IntKind.signed];omega
section
variable{w w':gC}{H:Nat->Prop}{wb sb ab b t B:Nat}{n:WN}{ld wc A8:Int}{ro:Bool}{L:Nat->gF Pt}{A:Ar}{P:PD}{FT:Nat->Prop}{pd:gF Pu}{ls:gF (gD×Int)}{Ad:Nat}
def M6(t:Nat)(H:Nat->Prop)(wb sb ab b Ad:Nat)(ld wc A8:Int)(L:Nat->gF Pt)(w':gC)(n:WN)(pd:gF Pu)(ls:gF (gD×Int)):Prop:=
 ∃d z h,h.D.n.Av=DM n.Av/\((∃ro s2,LW w' H wb {n with AG:=((s2:Nat):Int),CU:=ro} b ld (KS sb ab b ld wc A8 ro L z h) d pd ls/\St (t+1) z h pd s2 (AN A8 ld) ro)\/
  (LW w' H wb {n with CU:=true,sv:=.pointer none} b ld (KD b h) d pd ls/\EN (t+1) h pd Ad (AN A8 ld) n.fell))
def JW(f:Nat)(H:Nat->Prop)(B sb ab b:Nat)(ld wc A8:Int)(ro:Bool)(L:Nat->gF Pt)(A:Ar)(P:PD)(I:Int)(z:Bool)(O:Ar)(E:PD):Prop:=
 ∀h d,KS sb ab b ld wc A8 ro L A P h d->(∀k,d k->k<h.heap.size)->Lets B h->(∀k,d k->H k)->Calls Tryz.prog f #[.pointer (some ⟨sb,0,none⟩)] h λe w'=>e=.returned (.int .i64 I)/\Ap h d w' (KS sb ab b ld wc A8 z L O E)
def Qm(t:Nat)(I:Int)(ld wc A8:Int)(ro:Bool)(A:Ar)(P:PD)(pd:gF Pu)(Ad:Nat)(h:Int)(z:Bool)(E:Ar)(d:PD):Prop:=
 (ro=true/\z=true/\h=4/\E=A/\d=P/\St t A P pd Ad (AN A8 ld) true)\/
 (ro=false/\z=decide (h≠0)/\PB d (t+1)/\Ib P h d/\DI (Cu (t+1)) d pd Ad (AN A8 ld)/\Reads (Cu (t+1)) d pd (AN A8 ld)/\(h=0->St (t+1) E d pd pd.length (AN A8 ld) false)/\d.D.n.Av=P.D.n.Av/\(I=6->h≠6)/\
  (I=8->h=0->AV d.F d.D.A6<=300+150*F8 ld wc A8 pd pd.length))
def YJ(w:gC)(kd k tt v cd:Int)(tv:gD)(aB:Bool)(aF:Ar)(E:PD)(h:LW w H wb n b ld (KS sb ab b ld wc A8 ro L A P) FT pd ls)(bA:n.sv=(A5 sb))(aQ:n.CU=ro)(bY:n.Cy=A8)(b1:n.wc=wc)(cH:n.AG=(Ad:Int))(hp:PB P t)(b4:pd.length<=t)(b3:Ad<=pd.length)(cI:∀p∈pd,Bo p)(z:(kd=6/\JW 31 H B sb ab b ld wc A8 ro L A P cd aB aF E)\/(kd=7/\JW 24 H B sb ab b ld wc A8 ro L A P cd aB aF E)\/(kd=8/\JW 25 H B sb ab b ld wc A8 ro L A P cd aB aF E))(bE:Qm t kd ld wc A8 ro A P pd Ad cd aB aF E)(b9:t+1<=330000)(aN:P.D.n.Av=DM n.Av)(hl:1<=ld/\ld<=4611686018427387904)(hw:1<=wc/\wc<=4611686018427387904)(hc:Ay A8)(hL:Lets B w):
 Ag 57 #[A5 wb,.agg #[A0 kd,A0 k,A0 tt,A0 v,tv]] w (Aj (.bool true) λw'=>A4 H w w'/\
  M6 t H wb sb ab b Ad ld wc A8 L w' n pd ls):=by
 have ht:t<=330000:=iC
 have bI:=A1 bE;have aU:=A1 cI;have aE:=A1 (And.intro b4 b3);have bR:=A1 hL;have aY:=A1 (And.intro hl (And.intro hw hc));have aT:=A1 (And.intro bY (And.intro b1 (And.intro cH h.FO)));have a8:Hid (0<=P.D.n.Bm/\P.D.n.Bm<=330000):=by have:=hp.refQ;exact⟨iC,iC⟩
 have aX:Hid (0<=P.D.n.fulls/\P.D.n.fulls<=330000):=by have:=hp.JM;exact⟨iC,iC⟩
 have cE:=A1 (And.intro ht b9);have hA:=(A4.C Aa w).ai (BL kd k tt v tv);obtain⟨o0,-,-,-⟩:=GI w kd k tt v tv;have h1:=h.ak hA;have cC:=h.lt;have aS:w.heap.size<(w.alloc (BL kd k tt v tv)).heap.size:=iE
 generalize bW:w.alloc (BL kd k tt v tv)=w1 at hA o0 h1 aS;unfold BL at bW;obtain⟨O,a5⟩:=iG P.D.n.Bm;obtain⟨fu,a0⟩:=iG P.D.n.fulls;obtain⟨cn,bP⟩:=iG P.D.n.Bc;obtain⟨rm,aK⟩:=iG P.D.n.Av;obtain⟨us,aJ⟩:=iG (AV P.F P.D.A6);have cF:=PO hp ht;have cY:=A1 h1.dW;rw[a5,a0]at cY;rw[aK,aJ]at cF;rw[aK]at aN;have aH:=A1 a5;have bL:=A1 a0;have bF:=A1 bP;have bD:=A1 aK;have a3:Hid (AV P.F P.D.A6=us/\us<=4611686018427387904):=⟨aJ,by rw[<-aJ];exact hp.bA ht⟩;have dC:=A1 hA;have bT:=A1 h1;have b8:=A1 cC;have bC:=A1 h.Ae.lt;rw[a5]at a8;rw[a0]at aX;rcases z with⟨rfl,z⟩|⟨rfl,z⟩|⟨rfl,z⟩
 all_goals
  have a7:=A1 z
  go_enter func57,ntmps57
  go_wp2_with (fail);refine cY.k ?_;rintro I k2;have v4:A7 (I.alloc (.cells #[A0 O,A0 fu] 85)) wb 4 (A5 b):=((bT.o.ak (k2.ai _)).Ae.c4).trans (by rw[bT.o.D9]);go_wp2_with (fail);have k3:A4 Aa w1 (I.alloc (.cells #[A0 O,A0 fu] 85)):=k2.ai _;have bG:=Bn I (.cells #[A0 O,A0 fu] 85);have m0:A7 (I.alloc (.cells #[A0 O,A0 fu] 85)) I.heap.size 0 (A0 O):=CJ bG;have m1:A7 (I.alloc (.cells #[A0 O,A0 fu] 85)) I.heap.size 1 (A0 fu):=CJ bG;have cL:Hid (w1.heap.size<=I.heap.size/\w.heap.size<w1.heap.size):=⟨k2.Ak,aS⟩;generalize I.alloc (.cells #[A0 O,A0 fu] 85)=w3 at k3 m0 m1 v4 ⊢;have bM:=A1 (bT.o.ak k3);have dB:Hid (A4 Aa w w3):=dC.o.tr k3;have p0:=k3.ad o0;have bJ:=A1 bM.o.Bc;rw[bF.o]at bJ;refine bJ.k ?_;rintro w4 rfl;have c2:=bM.o.Ae.c2;have dE:=A1 (OC w3.drew aN);have dF:Hid (Ag 90 #[A5 b] w3.drew (Aj (A0 us) λw'=>A4 Aa w3.drew w')):=by
   have:=(bM.o.ak (A4.C Aa w3).aa).bA (by rw[a3.o.1];exact a3.o.2);rw[a3.o.1]at this;exact this
  go_wp2;refine Bq (λw'=>A7 w' wb 2 (A0 n.Av)/\A7 w' wb 4 (A5 b)) 12
   (Ba [0,1,2,3,4,6,7,8,9,5,10,11] [5,10]) ⟨c2,v4⟩ ?_
  iterate 9 refine B4 ?_
  refine Bf λK hK=>?_;go_simp;refine dE.k ?_;rintro w4 rfl;refine hK _ _ ⟨c2,v4⟩ (λhS=>?_);refine Bf λK hK=>?_;go_simp;refine dF.k ?_;rintro w4 k4;have aD:A4 Aa w3 w4:=⟨k4.os,k4.DZ,k4.E3,k4.Ak,k4.Al⟩;refine hK _ _ ⟨aD.ad c2,aD.ad v4⟩ (λhS=>?_);have cM:=A1 (bM.o.ak aD);have cN:Hid (A4 Aa w w4):=dB.o.tr aD;have q0:=aD.ad p0;have n0:=aD.ad m0;have n1:=aD.ad m1;refine B4 ?_;refine Bl ?_;have c5:A7 w4 wb 5 n.sv:=cM.o.Ae.c5;rw[bA]at c5
  have SV:Hid (∀f,JW f H B sb ab b ld wc A8 ro L A P cd aB aF E->Ag f #[A5 sb] w4 (Aj (A0 cd) λw'=>A4 H w4 w'/\(∀o u,A7 w4 w.heap.size o u->A7 w' w.heap.size o u)/\
   w'.cell? (A9 I.heap.size 0)=some (A0 O)/\A7 w' I.heap.size 1 (A0 fu)/\∃b0,LW w' H wb n b ld (KS sb ab b ld wc A8 aB L aF E) b0 pd ls)):=λf hf=>by
   have aP:=cM.o;have h4:=cN.o;refine(hf w4 FT aP.Es aP.lt (bR.o.aL h4) aP.F4).k ?_;rintro w' hS;have⟨r1,FT2,r2⟩:=aP.cS (KS.E1 sb ab b ld wc A8 aB L aF E) hS;(have nb:∀x,w.heap.size<=x->¬FT x:=λx hx hy=>by have:=b8.o x hy;omega);(have hm:w.heap.size<=I.heap.size:=by have:=cL.o;omega);exact⟨rfl,r1,λo u hu=>Dv (w:=w4) hS.1 hu (nb _ (An _)),Dv (w:=w4) hS.1 n0 (nb _ hm),Dv (w:=w4) hS.1 n1 (nb _ hm),FT2,r2⟩
  have bX:=A1 (SV.o _ a7.o);go_wp2_with (fail);refine bX.k ?_;rintro w5⟨k5,cJ,m5,m6,aR,hR⟩;have q5:=cJ 0 _ q0;have cX:Hid (A4 H w w5):=(cN.o.aS (S:=H)).tr k5;have bB:=A1 hR;have d9:=hR.Ae.c9;have d4:=hR.Ae.c4;rw[hR.D9]at d4;obtain⟨ap,cp,aV,hp1,hp2,-⟩:=bB.o.Dq.BW;rcases bI.o with⟨rfl,rfl,rfl,rfl,rfl,hS⟩|⟨rfl,rfl,z1,z2,z3,z4,z5,z6,z7,z8⟩
  ·rw[aQ]at d9;have bJ:=A1 bB.o.Bc;rw[bF.o]at bJ;have d:Hid (A4 H w w5/\M6 t H wb sb ab b Ad ld wc A8 L w5 n pd ls):=by
    refine⟨cX.o,aR,_,_,bD.o.trans aN,.inl ⟨true,Ad,?_,hS.ah (EW t)⟩⟩;(have en:({n with AG:=(Ad:Int),CU:=true}:WN)=n:=by rw[<-aT.o.2.2.1,<-aQ]);rw[en];exact bB.o
   go_wp2_with (go_at_call 49;refine bJ.k ?_;rintro w6 rfl);go_ret;exact⟨rfl,d.o⟩
  rw[aQ]at d9;have b6:Hid (E.D.n.Bh=true->EN (t+1) E pd Ad (AN A8 ld) n.fell):=λhd=>⟨z1,z3,aU.o,JZ aE.o.1,aE.o.2,.inl hd⟩
  have bS:Hid (E.D.n.Bh=false->St (t+1) aF E pd Ad (AN A8 ld) true):=λhd=>St.dc z1 z3 z4 aU.o (JZ aE.o.1) aE.o.2 hd;have cB:=A1 z2;have bZ:=A1 z5;have aW:Hid (E.D.n.Av=DM n.Av):=z6.trans (bD.o.trans aN);have cU:=A1 z7;have dD:=A1 z8;have dG:=A1 z1;have b5:=A1 aU.o;have cV:=A1 (bB.o.ak (A4.C Aa w5).aa).Bm;generalize aI:E.D.n.Bm=rf2 at cV;have bU:(cd=0/\rf2=O)\/((cd=5\/cd=6)/\rf2=O+1):=by
   rcases z2 with⟨q1,q2,-⟩|⟨q1,q2,-⟩|⟨q1,q2,-⟩
   ·exact .inl ⟨q1,by rw[<-aI,q2,aH.o]⟩
   ·exact .inr ⟨.inl q1,by rw[<-aI,q2,aH.o]⟩
   ·exact .inr ⟨.inr q1,by rw[<-aI,q2,aH.o]⟩
  go_wp2;refine Bq (λw'=>A7 w' wb 4 (A5 b)/\A7 w' I.heap.size 0 (A0 O)) 7
   (Ba [0,1,2,3,5,6,4] [4]) ⟨d4,m5⟩ ?_
  iterate 6 refine B4 ?_
  refine Bf λK hK=>?_;go_simp;refine cV.k ?_;rintro w9 rfl;refine hK _ _ ⟨d4,m5⟩ (λhS=>?_);refine Bl ?_;have aG:=A1 (bB.o.ak (A4.C Aa w5).aa);have b7:Hid (A4 H w w5.drew):=cX.o.aa;have t0:w5.drew.cell? (A9 w.heap.size 0)=_:=q5;have t5:w5.drew.cell? (A9 I.heap.size 0)=_:=m5;have t6:w5.drew.cell? (A9 I.heap.size 1)=_:=m6;generalize w5.drew=w6 at aG b7 t0 t5 t6 ⊢;have bV:wb≠w.heap.size:=by have:=aG.o.Ae;intro e;have:=bC.o;omega
  rcases bU with⟨rfl,rfl⟩|⟨aM,rfl⟩
  ·have z7:=aG.o.Ae.fz 7;have s7:=aG.o.Ae.c7;have d6:A7 w6 wb 6 n.pv:=aG.o.Ae.c6;rw[aV]at d6;have⟨k7,h7⟩:=aG.o.CQ (n':={n with AG:=((pd.length:Nat):Int)}) 7 (A0 pd.length) (aG.o.Ae.s7 _) rfl rfl rfl rfl;have cS:Hid (A4 H w (w6.setCell (A9 wb 7) (A0 pd.length))):=b7.o.tr k7;have aL:=A1 h7;have u0:=(GU w6 (A9 wb 7) (A9 w.heap.size 0) (A0 pd.length) (by simp;try omega)).trans t0;have aZ:Hid (∀w',A4 Aa (w6.setCell (A9 wb 7) (A0 pd.length)) w'->A4 H w w'/\M6 t H wb sb ab b Ad ld wc A8 L w' n pd ls):=λw' aO=>by
    refine⟨cS.o.bk aO,aR,aF,E,aW.o,.inl ⟨false,pd.length,?_,bZ.o rfl⟩⟩;(have en:({n with AG:=((pd.length:Nat):Int),CU:=false}:WN) = {n with AG:=((pd.length:Nat):Int)}:=by rw[<-aQ]);rw[en];exact aL.o.ak aO
   have dI:=A1 λh8=>dD.o h8 rfl;go_wp2_with (fail);generalize (w6.setCell (A9 wb 7) (A0 pd.length))=w7 at aL cS u0 aZ ⊢
   first
    | (go_ret;exact⟨rfl,aZ.o w7 (A4.C _ _)⟩)
    | skip
   all_goals
    have e6:A7 w7 wb 6 n.pv:=aL.o.Ae.c6;have e0:A7 w7 wb 0 (A0 n.ld):=aL.o.Ae.c0;have a6:A7 w7 wb 11 (A0 n.wc):=aL.o.Ae.cX;have a4:A7 w7 wb 10 (A0 n.Cy):=aL.o.Ae.br;have e4:A7 w7 wb 4 (A5 b):=aL.o.Ae.c4.trans (Ex some aL.o.D9);obtain⟨q1,q2,-,q4⟩:=aT.o;rw[aV]at e6;rw[q4]at e0;rw[q2]at a6;rw[q1]at a4;have dA:Hid (Ag 95 #[.slice ap pd.length cp,A0 ld,A0 wc,A0 A8] w7.drew (Aj (A0 (F8 ld wc A8 pd pd.length)) λw'=>A4 Aa w7.drew w')):=by
     have:=A1k w7.drew n.pv pd ld wc A8 (aL.o.ak (A4.C Aa w7).aa).Dq (by have:=aE.o.1;have:=cE.o.1;omega) (λp hp=>(b5.o p hp).2.1) aY.o.1 aY.o.2.1 aY.o.2.2
     rwa [aV]at this
    have cP:Hid (F8 ld wc A8 pd pd.length<=330000):=AO (Ud ..) (by have:=aE.o.1;have:=cE.o.1;omega);have b2:=A1 (dI.o (by trivial));have cG:Hid (∀w',A4 Aa w7 w'->Ag 90 #[A5 b] w' (Aj (A0 (AV E.F E.D.A6)) λI=>A4 Aa w' I)):=λw' aO=>(aL.o.ak aO).bA (dG.o.bA cE.o.2)
    refine Bq (λw'=>A7 w' wb 6 (.slice ap pd.length cp)/\A7 w' wb 0 (A0 ld)/\A7 w' wb 11 (A0 wc)/\A7 w' wb 10 (A0 A8)) 18
     (Ba [0,1,2,3,4,5,6,7,8,9,10,11,12,13,14,15,16,17] [17]) ⟨e6,e0,a6,a4⟩ ?_
    iterate 17 refine B4 ?_
    refine Bf λK hK=>?_;go_simp;refine dA.k ?_;rintro w8 k8;have aA:A4 Aa w7 w8:=((A4.C Aa w7).aa).tr k8;refine hK _ _ ⟨aA.ad e6,aA.ad e0,aA.ad a6,aA.ad a4⟩ (λhS=>?_);have dH:=A1 aA;have e4':=aA.ad e4;have bK:=A1 (cG.o w8 aA);refine Bl ?_;obtain⟨kn,bO⟩:=iG (F8 ld wc A8 pd pd.length);obtain⟨u2,bQ⟩:=iG (AV E.F E.D.A6);rw[bO]at cP b2 ⊢;rw[bQ]at b2 bK;have⟨y1,y2,y3⟩:=Xg cP.o b2.o;go_wp2_with (fail);refine bK.k ?_;rintro w9 k9;have d:=A1 (aZ.o w9 (dH.o.tr k9));go_wp2;go_ret;exact⟨rfl,d.o⟩
  ·have hgt:O<O+1:=Int.lt_succ O;have z9:=aG.o.Ae.fz 9;have s9:A7 w6 wb 9 (.bool n.CU):=aG.o.Ae.c9;have cZ:Hid (∀w',LW w' H wb {n with CU:=true} b ld (KS sb ab b ld wc A8 (decide (cd≠0)) L aF E) aR pd ls->Ag 51 #[A5 wb,A0 cd,.agg #[A0 O,A0 fu]] w' λe cD=>e=.returned (.bool true)/\A4 Aa w' cD):=λw' hw=>by
    rcases cB.o with⟨q1,-⟩|⟨q1,q2,q3⟩|⟨q1,q2,q3,-⟩
    ·exact absurd q1 (by rcases aM with h|h<;>(rw[h];decide))
    ·subst q1;exact Vy w' O fu hw (by rw[q2,aH.o]) (by rw[q3,bL.o]) a8.o aX.o
    ·subst q1;exact Vw w' O fu hw (by rw[q2,aH.o]) (by rw[q3,bL.o]) a8.o aX.o
   have⟨k9,h9⟩:=aG.o.CQ (n':={n with CU:=true}) 9 (.bool true) (aG.o.Ae.s9 true) rfl rfl rfl rfl;(have mb8:wb≠I.heap.size:=by have h1:=cL.o;have h2:=bC.o;omega);have u0:=(GU w6 (A9 wb 9) (A9 w.heap.size 0) (.bool true) (by simp;try omega)).trans t0;have u5:=(GU w6 (A9 wb 9) (A9 I.heap.size 0) (.bool true) (by simp;try omega)).trans t5;have u6:=(GU w6 (A9 wb 9) (A9 I.heap.size 1) (.bool true) (by simp;try omega)).trans t6;have cO:=A1 h9;have cT:Hid (A4 H w (w6.setCell (A9 wb 9) (.bool true))):=b7.o.tr k9;have cQ:=A1 (cZ.o _ h9);have bN:=A1 bV;(have cA:Hid (decide (cd≠0)=true):=by rcases aM with h|h<;>(rw[h];rfl));go_wp2_with (fail);generalize (w6.setCell (A9 wb 9) (.bool true))=w9 at cO cT cQ u0 u5 u6 ⊢;refine cQ.k ?_;rintro Y a2;have X:=A1 (cO.o.ak a2);have bH:Hid (A4 H w Y):=cT.o.bk a2;have v0:=a2.ad u0;have e4:A7 Y wb 4 (A5 b):=X.o.Ae.c4.trans (Ex some X.o.D9);have a9:=A1 X.o.Bh;have y5:=X.o.Ae.fz 5;have s5:A7 Y wb 5 n.sv:=X.o.Ae.c5;rw[bA]at s5;cases hdd:E.D.n.Bh with
   | true=>
    rw[hdd]at a9;have d:Hid (A4 H w (Y.setCell (A9 wb 5) (.pointer none))/\M6 t H wb sb ab b Ad ld wc A8 L (Y.setCell (A9 wb 5) (.pointer none)) n pd ls):=by
     have⟨k11,h11⟩:=X.o.CQ (n':={n with CU:=true,sv:=.pointer none}) 5 (.pointer none) (X.o.Ae.s5 _) rfl rfl rfl rfl;have⟨Ft,h12⟩:=h11.bO;exact⟨bH.o.tr k11,Ft,aF,E,aW.o,.inr ⟨h12,b6.o hdd⟩⟩
    have x0:=(GU Y (A9 wb 5) (A9 w.heap.size 0) (.pointer none) (by have:=bN.o;simp;try omega)).trans v0;rcases aM with rfl|rfl
    ·go_wp2_with (go_at_call 36;refine a9.k ?_;rintro a1 rfl);go_ret;exact⟨rfl,d.o⟩
    ·first
      | (exfalso;have h:=cU.o;simp at h;done)
      | (go_wp2_with (go_at_call 36;refine a9.k ?_;rintro a1 rfl)
         go_ret
         exact⟨rfl,d.o⟩)
   | false=>
    rw[hdd]at a9;have d:Hid (A4 H w Y/\M6 t H wb sb ab b Ad ld wc A8 L Y n pd ls):=by
     refine⟨bH.o,aR,aF,E,aW.o,.inl ⟨true,Ad,?_,bS.o hdd⟩⟩;(have en:({n with AG:=(Ad:Int),CU:=true}:WN) = {n with CU:=true}:=by rw[<-aT.o.2.2.1]);rw[en];have:=X.o
     rwa [cA.o]at this
    rcases aM with rfl|rfl
    ·go_wp2_with (go_at_call 36;refine a9.k ?_;rintro a1 rfl);go_ret;exact⟨rfl,d.o⟩
    ·first
      | (exfalso;have h:=cU.o;simp at h;done)
      | (go_wp2_with (go_at_call 36;refine a9.k ?_;rintro a1 rfl)
         go_ret
         exact⟨rfl,d.o⟩)
end
end
section
open Go.RowKit
section
variable{w w':gC}{L0:Nat}{H:Nat->Prop}{wb t N B:Nat}{ld:Int}{n:WN}{pd:gF Pu}{ls:gF (gD×Int)}
def YI(aH:FR N)(hN:N<=330000)(w:gC)(O a b3 c3:Int)(tv:gD)(aF:O=6\/O=7\/O=8)(h:DE t L0 H wb ld w n pd ls)(aJ:n.sv≠.pointer none)(hL:Lets B w)(aD:∀k,H k->B<=k)(ht:t+1<=330000)(aK:t<=N):
 Ag 57 #[A5 wb,.agg #[A0 O,A0 a,A0 b3,A0 c3,tv]] w (Aj (.bool true) λw'=>A4 H w w'/\LI w' L0 H wb ld (t+1)):=by
 obtain⟨h1,h2,h3,h4,b,Ad,P,FT,h5,h6,h7⟩:=h;rcases h7 with⟨sb,ab,ro,L,A,g1,g2,g3,g4,g5,g6,E,g8,g9⟩|⟨g1,-⟩
 ·have key:∀cd z aB aA,((O=6/\JW 31 H B sb ab b ld n.wc n.Cy ro L A P cd z aB aA)\/(O=7/\JW 24 H B sb ab b ld n.wc n.Cy ro L A P cd z aB aA)\/(O=8/\JW 25 H B sb ab b ld n.wc n.Cy ro L A P cd z aB aA))->
   Qm t O ld n.wc n.Cy ro A P pd Ad cd z aB aA->
   Ag 57 #[A5 wb,.agg #[A0 O,A0 a,A0 b3,A0 c3,tv]] w (Aj (.bool true) λw'=>A4 H w w'/\LI w' L0 H wb ld (t+1)):=λcd z aB aA k1 k2=>by
   refine(YJ w O a b3 c3 cd tv z aB aA g6 g1 g2 rfl rfl h5 E.pb E.Be E.le E.pu k1 k2 ht h6 g4 g5 h1 hL).k ?_;rintro w'⟨hc,aE,aB,aA,d,q2⟩;rcases q2 with⟨aI,s2,r1,r2⟩|⟨r1,r2⟩
   ·exact⟨rfl,hc,{n with AG:=((s2:Nat):Int),CU:=aI},pd,ls,h1,h2,h3.aj hc,iC,b,s2,aA,aE,rfl,d,.inl ⟨sb,ab,aI,L,aB,g1,rfl,g3,g4,g5,r1,r2,g8,λk hk=>JZ (g9 k hk)⟩⟩
   ·exact⟨rfl,hc,{n with CU:=true,sv:=.pointer none},pd,ls,h1,h2,h3.aj hc,iC,b,Ad,aA,aE,h5,d,.inr ⟨rfl,r1,r2⟩⟩
  cases ro with
  | true=>
   have Y:Qm t O ld n.wc n.Cy true A P pd Ad 4 true A P:=.inl ⟨rfl,rfl,rfl,rfl,rfl,E⟩;rcases aF with rfl|rfl|rfl
   ·exact key 4 true A P (.inl ⟨rfl,λI X d _ _ _=>Xz I d⟩) Y
   ·exact key 4 true A P (.inr (.inl ⟨rfl,λI X d q2 _ _=>UL I d q2⟩)) Y
   ·exact key 4 true A P (.inr (.inr ⟨rfl,λI X d q2 _ _=>A29 I d q2⟩)) Y
  | false=>
   have aG:=AO E.Be aK;rcases aF with rfl|rfl|rfl
   ·have⟨a1,a2,a3,a4,a5,a6⟩:=E.ae ht;exact key _ _ _ _ (.inl ⟨rfl,λI X d q2 q3 q4=>Xx I d q2 q3 λk hk=>aD k (q4 k hk)⟩) (.inr ⟨rfl,rfl,a1,a2,a3,a4,a5,YV A P,λ_=>a6,λe=>by cases e⟩)
   ·have⟨a1,a2,a3,a4,a5⟩:=E.aR (wa:=n.wc) (Gi _) ht;exact key _ _ _ _ (.inr (.inl ⟨rfl,λI X d q2 q3 q4=>UK aH hN I d q2 E ht aG g5 q3 λk hk=>aD k (q4 k hk)⟩)) (.inr ⟨rfl,rfl,a1,a2,a3,a4,a5,YS A P n.wc,λe=>(by cases e),λe=>by cases e⟩)
   ·have⟨a1,a2,a3,a4,a5⟩:=E.aM (wa:=n.wc) (Gi _) ht;exact key _ _ _ _ (.inr (.inr ⟨rfl,λI X d q2 q3 q4=>A27 aH hN I d q2 E ht aG g5 q3 (λk hk=>aD k (q4 k hk)) g4 h1⟩)) (.inr ⟨rfl,rfl,a1,a2,a3,a4,a5,YT A P n.wc _,λe=>(by cases e),λ_=>E.du (wa:=n.wc) (Gi _) ht⟩)
 ·exact absurd g1 aJ
end
end
section
open Go.RowKit
attribute [local go_sem ↓] Go.wp_at_zero Go.wp_at_succ
def Xc:piece (EH (λ_=>[]) (AN 0 5) 1 2 3 1) (max 0 (AN 0 5)) 9=[(2,3)]:=by decide +kernel
def Xd{d:Nat->gF Pt}(h:HG (EH (λ_=>[]) (AN 0 5) 1 2 3) d (AN (DL 0 7) 5)):piece (d 1) (max 0 (AN (DL 0 7) 5)) 9=[]:=by
 rcases h 1 iC with e|e
 ·rw[e];decide +kernel
 ·rw[e];decide +kernel
def A0l{B:Nat}(w:gC)(room:Int)(b:Nat)(Ft:Nat->Prop)(h:Bw w b (De room) Ft)(d:∀k,Ft k->k<w.heap.size)(hr:0<=room/\room<=9223372036854775807)(O:Env B w)(ld wc A8:Int)(hl:1<=ld/\ld<=4611686018427387904)(hw:1<=wc/\wc<=4611686018427387904)(hc:Ay A8):
 Ag 22 #[A5 b,.agg #[A0 ld,A0 wc],A0 A8] w λe w'=>
  ∃ab z,e=.returned (.tuple #[A5 z,A0 0])/\w.heap.size<=z/\Ap w Ft w' (λw' L=>SF w' z ab b 0 ld wc A8 false (λ_=>[]) ⟨⟨1,[]⟩,⟨[],0,0,none⟩,0,[]⟩ (De room) L):=by
 refine(Tn w ld wc A8 hl hw hc d (P:=De room) (Ft:=Ft) (b:=b) (λA ps h=>by rw[PJ]at h;cases h;simp) λY E=>?_).mono ?_
 ·refine Vz Y (AU.av h d E) (λk I=>Bp (d k I) E.Ak) (UD hr) ⟨iC,iC,iC⟩ iC (O.1.aL E) (O.2.1.aL E) (λnm hm=>by cases hm) (λix X=>?_) (λfirst=>?_)
  ·rw[PC (PK room AJ)]at X;cases X;simp
  ·rw[show (De room).Az=[] from rfl];simp[BV,PD.pd,PD.bp]
 ·rintro e w' (⟨n,h1,-⟩|⟨A,ps,ab,z,h1,rfl,h2,h3⟩)
  ·rw[PJ]at h1;cases h1
  ·rw[PJ]at h1;cases h1;exact⟨ab,z,rfl,h2,h3⟩
def ZA{B X ab b:Nat}{FT:Nat->Prop}{ld wc A8:Int}(w:gC)(room:Int)(p:Pu)(h:SF w X ab b 0 ld wc A8 false (λ_=>[]) ⟨⟨1,[]⟩,⟨[],0,0,none⟩,0,[]⟩ (De room) FT)(I:∀k,FT k->k<w.heap.size)(hr:1000<=room/\room<=9223372036854775807)(Y:Bo p)(hL:Lets B w)(O:∀k,FT k->B<=k)(hl:1<=ld/\ld<=4611686018427387904)(hc:Ay A8):
 Calls Tryz.prog 23 #[.pointer (some ⟨X,0,none⟩),.int .i64 p.1,.int .i64 p.2.1,.int .i64 p.2.2] w λe w'=>e=.returned (.int .i64 0)/\
  ∃A' P',Ap w FT w' (λw' z=>SF w' X ab b 0 ld wc A8 false (EH (λ_=>[]) (AN A8 ld) p.1.toNat p.2.1 p.2.2) A' P' z):=by
 have d:Cm (De room) (3+0+3) 33:=A11 iC iC;obtain⟨a1,a2,-,-,-⟩:=(Lay.gB (PK room)).af (N:=3) (by simpa using d) (λ_=>rfl) p Y iC;have E:CK (0+1)/\Ay (0+1)/\Ay 0:=⟨I3 iC iC,by constructor<;>omega,by constructor<;>omega⟩;refine(SP w p h I Y (λ_=>E) iE hL O (UD iC) ⟨iC,iC,iC⟩ (λ_ _=>iE) hl hc).k ?_;rintro w' L;rw[a2]at L ⊢;rw[a1]at L;exact⟨rfl,_,_,L⟩
def A3G{B:Nat}(w:gC)(hE:Env B w):
 Ag 15 #[] w (Aj (.bool true) λw'=>A4 Aa w w'):=by
 have a4:Hid (Ag 21 #[A0 100000] w λe w'=>∃b,e=.returned (A5 b)/\Bw w' b (De 100000) (One w.heap.size)/\A4 Aa w w'/\w'.heap.size=w.heap.size+1):=by
  refine(Tz (F:=λ_=>([],0)) 100000 w).k ?_;rintro w'⟨h1,h2,h3⟩;exact⟨_,rfl,h1,h2,h3⟩
 have aL:=A1 hE
 go_enter func15,ntmps15
 go_wp2_with (fail);refine a4.m ?_;rintro e w1⟨b,rfl,aQ,k1,hz1⟩;have a5:=A1 (A0l w1 100000 b (One w.heap.size) aQ (λk d=>by cases d;omega) iC (aL.o.aL k1) 5 5 0 iC iC (by constructor<;>omega));have aV:=A1 k1;go_wp2_with (fail);refine a5.m ?_;rintro e w2⟨ab,sb,rfl,hsb,k2,Y,hV,aE,aH⟩;have aO:Hid (A4 Aa w w2):=aV.o.bU k2 λk d=>by cases d;omega
 have aM:Hid (∀k,Y k->w.heap.size<=k):=λk d=>(aH k d).elim (λh=>by cases h;exact An _) λh=>AO aV.o.Ak h
 have a2:Hid (Ag 23 #[A5 sb,A0 1,A0 2,A0 3] w2 (Aj (A0 0) λw'=>∃A' P',Ap w2 Y w' (λw' aJ=>SF w' sb ab b 0 5 5 0 false (EH (λ_=>[]) (AN 0 5) 1 2 3) A' P' aJ))):=
  ZA w2 100000 (1,2,3) hV aE iC ⟨iE,(show Ay 2 by constructor<;>omega),(show Ay 3 by constructor<;>omega)⟩ (aL.o.aL aO.o).1 (λk d=>AO aL.o.1.1 (aM.o k d)) iC (by constructor<;>omega)
 go_wp2_with (fail);refine a2.k ?_;rintro O⟨A3,P3,k3,X,aP,aB,aF⟩;have aX:Hid (A4 Aa w O):=aO.o.bU k3 aM.o;have aN:Hid (∀k,X k->w.heap.size<=k):=λk d=>(aF k d).elim (aM.o k) (λh=>AO aO.o.Ak h)
 obtain⟨lv3,F03,I,E⟩:=aP;have a1:Hid (Ag 37 #[A5 sb,A0 1,A0 0,A0 9] O λe w'=>∃v,e=.returned (.tuple #[v,A0 0])/\Ch w' v [(2,3)]/\A4 Aa O w'/\∀g,v.oB g->O.heap.size<=g):=by
  have:=MP O 1 0 9 I.Ae I.Ed iC iC (by constructor<;>omega);rw[Xc]at this;exact this
 have aG:=A1 I;have aK:=A1 E;have aS:=A1 aB;go_wp2_with (fail);refine a1.m ?_;rintro e w4⟨v,rfl,hv,k4,aD⟩;obtain⟨ad,cap,rfl,-,-,hg,-,-⟩:=B8 hv;obtain⟨g,rfl⟩:=hg iF;have aR:=A1 (aG.o.ak k4);have aY:Hid (A4 Aa w w4):=aX.o.tr k4;have aW:=A1 hv;have aZ:Hid (¬X g):=λz=>by have:=aS.o g z;have:=aD g rfl;omega
 have a0:=A1 (Rm w4 7 aR.o.Ae aR.o.Ed iC iC (by constructor<;>omega));go_wp2_with (fail);refine a0.k ?_;rintro L⟨lv5,L5,hS,hF⟩;obtain⟨k5,FT6,⟨lv6,F06,aU,-⟩,-,s6⟩:=aR.o.cU aK.o hS;have a6:Hid (A4 Aa w L):=aY.o.bU k5 aN.o;have aA:Hid (Ch L (AA g 1 cap) [(2,3)]):=Au aW.o λx z=>k5.Al x (Aw aW.o z) (by simp[Value.ownBlock]at z;subst z;exact aZ.o);have a7:Hid (Ag 37 #[A5 sb,A0 1,A0 0,A0 9] L λe w'=>∃v,e=.returned (.tuple #[v,A0 0])/\Ch w' v []/\A4 Aa L w'/\∀g,v.oB g->L.heap.size<=g):=by
  have aT:Ay (DL 0 7):=Mz (by constructor<;>omega) iC iC;have:=MP L 1 0 9 aU.Ae aU.Ed iC iC aT;rw[Xd hF]at this;exact this
 go_wp2_with (fail);refine a7.m ?_;rintro e w6⟨v,rfl,hv,k6,aD⟩;obtain⟨ad,cap2,rfl,-⟩:=B8 hv;have aI:Ch w6 (AA g 1 cap) [(2,3)]:=Au aA.o λx z=>k6.Al x (Aw aA.o z) (λh=>h);have⟨t0,t1⟩:=aI.bt 0 iF;have a3:Hid (A4 Aa w w6):=a6.o.tr k6;simp only[KY]at t0 t1;go_wp2;go_ret;exact⟨rfl,a3.o⟩

end
section
open Go.ChangeAt Go.ChangeShapes Go.RowKit Go.WideShapes
def Tryz.ev:Tryz.prog.cellsOf 34=5:=by kernel_rfl
def Tryz.fk:Tryz.prog.cellsOf 23=4:=by kernel_rfl
def A1e{W:gC}(h:laidMetH Tryz.prog Rows.writesUptoRow.laid W):Env W.heap.size W:=by
 have L:=A1c h;have E:=A1d h;obtain⟨⟨I,d,b1⟩,O,z,b2⟩:=E;exact⟨L,⟨⟨I,d,b1⟩,O,z,b2⟩,GV W _ d,GV W _ z⟩
def A3t{H:Type}(l:gF (DataW H)):l.length<=Rows.uptoBulkAll l:=by
 induction l with
 | nil=>simp
 | cons x r ih=>
  have:1<=Rows.uptoBulk x:=by
   cases x with
   | lit l=>cases l<;>simp[Rows.uptoBulk]
   | nil=>simp[Rows.uptoBulk]
   | ptr d=>simp[Rows.uptoBulk]
   | slice elems spare=>simp[Rows.uptoBulk]
   | agg parts=>simp[Rows.uptoBulk]
   | iface t d=>simp[Rows.uptoBulk]
   | map entries=>simp[Rows.uptoBulk]
   | held h=>simp[Rows.uptoBulk]
  simp only[Rows.uptoBulkAll,CA];omega
section
variable{H:Type}{enc:TypeId×gD->H}{W:gC}{sp:Nat->Bool}{aA:Nat}
def A3s(l:gF (DataW H))(h:∀x∈l,6<=Rows.uptoBulk x):l.length*6<=Rows.uptoBulkAll l:=by
 induction l with
 | nil=>simp
 | cons x r ih=>
  have h1:=h x (BI ..);have h2:=ih λy d=>h y (BC _ d);simp only[Rows.uptoBulkAll,CA];omega
end
end
section
open Go.RowKit
attribute [local go_sem ↓] Go.wp_at_zero Go.wp_at_succ
def M8(t L0:Nat)(H:Nat->Prop)(wb b Ad:Nat)(ld A8:Int)(pd:gF Pu)(ls:gF (gD×Int))(d w:gC):Prop:=∃n P FT,LW w H wb n b ld (KD b P) FT pd ls/\n.Cy=A8/\Ay n.da/\Hy L0 H w n.tv/\n.AG=(Ad:Int)/\P.D.n.Av=DM n.Av/\P.D.n.Bh=false/\EN t P pd Ad (AN A8 ld) n.fell/\A4 H d w
section
variable{w w':gC}{L0:Nat}{H:Nat->Prop}{wb b t N B:Nat}{ld A8 wa:Int}{pd:gF Pu}{ls:gF (gD×Int)}{Ad:Nat}
def A0f(dN:FR N)(hN:N<=330000)(w0:gC)(z da:Int)(dd:Bool)(ta:Option Addr)(tn tc:Nat)(cY:A7 w0 wb 4 (A5 b))(aY:A7 w0 wb 12 (A0 da))(aX:A7 w0 wb 13 (.slice ta tn tc))(cH:Ag 36 #[A5 b] w0 (Aj (.bool dd) λw'=>w0=w'))(bR:dd=true->Ag 43 #[A5 wb,A0 da,.slice ta tn tc] w0.drew (Aj (.tuple #[]) λw'=>M8 t L0 H wb b Ad ld A8 pd ls w0 w'))(bU:dd=false->M8 t L0 H wb b Ad ld A8 pd ls w0 w0)(h4:ls.length<=4*t)(ht:t+3<=330000)(hqN:pd.length+2<=N)(a7:Env B w0)(bA:∀k,H k->B<=k)(hc:Ay A8)(aF:Ay z):
 Ag 17 #[A5 wb,A0 wa,A0 z] w0 (Aj (.bool true) λw'=>A4 H w0 w'/\LI w' L0 H wb ld t):=by
 have bC:=A1 cH;have b9:=A1 bR;have bV:=A1 bU;clear cH bR bU
 go_enter func17,ntmps17
 cases dd
 focus
  go_wp2_with (fail);refine bC.k ?_;rintro w hw;have cM:Hid (M8 t L0 H wb b Ad ld A8 pd ls w0 w):=hw ▸ bV.o (by trivial);clear hw
 rotate_left
 focus
  go_wp2_with (fail);refine bC.k ?_;rintro w1 rfl;go_wp2_with (fail);refine Bq (λw'=>A7 w' wb 12 (A0 da)/\A7 w' wb 13 (.slice ta tn tc)) 9
   (Ba [0,1,2,3,4,5,6,7,8] []) ⟨aY,aX⟩ ?_
  iterate 9 refine B4 ?_
  refine Bl ?_;go_wp2_with (fail);refine(b9.o (by trivial)).k ?_;rintro w hr;have cM:=A1 hr;clear hr
 rotate_left
 all_goals
  clear bC b9 bV cY aY aX;have⟨n,P,FT,h,hck,h2,h3,hsafe,hroom,hdead,hcl0,k0⟩:=cM.o;have eB:=A1 k0;have hE:Env B w:=a7.aj k0 λk d=>bA k d;by_cases bQ:(1<=ld/\ld<=4611686018427387904)/\(1<=wa/\wa<=4611686018427387904)
  focus
   obtain⟨hl,hw⟩:=bQ;obtain⟨hp,-,hq,hpl,-,hx⟩:=hcl0;obtain⟨n0,cC,aM,hall⟩:∃n0,(Ad<=n0/\n0<=pd.length)/\(n.fell=false->n0=pd.length)/\∀o' m,AN A8 ld<=o'->n0<=m->m<=pd.length->C4 o' (pd.take n0) (pd.take m)->DI (Cu t) P (pd.take m) Ad o'/\Reads (Cu t) P (pd.take m) o':=by
    rcases hx with hx|⟨n0,q1,q2,q3,q4⟩
    ·rw[hdead]at hx;cases hx
    ·exact⟨n0,⟨q1,q2⟩,q3,q4⟩
   have h0:=cC;have⟨hc',hcle⟩:=Vj hc aF;have aG:AN A8 ld<=AN (GR A8 z) ld:=MX hcle
  rotate_left
  focus
   have aV:=bQ;have hp:=hcl0.1;have⟨hc',hcle⟩:=Vj hc aF
  rotate_left
  all_goals
   have⟨w1,hc1,hsz,hw1,aH,hB1,hB2⟩:=A3A w wb n A8 z ld wa h.Ae hck;have cV:Hid (0<=z->Ag 44 #[A0 A8,A0 z] w (Aj (A0 (GR A8 z)) λw'=>w=w')):=λh0=>by
    have:=Rl A8 z w hc ⟨h0,aF.2⟩;(have e:GR A8 z=DL A8 z:=by unfold GR;rw[Ai h0]);rw[e];exact this
   obtain⟨I,cG⟩:=iG (GR A8 z)
  focus
   rw[cG]at hc' aG hw1 hB1 cV;have⟨d0,r0⟩:=hall (AN I ld) n0 aG (An _) h0.2 (C4.C _ _);have aL:∀p∈pd.take n0,Bo p:=λp hp=>hq p (HD hp);(have cO:(pd.take n0).length=n0:=by rw[BK];omega)
  rotate_left
  focus
   rw[cG]at hc' hcle hw1 hB1 cV
  rotate_left
  all_goals
   have hd:AU w b P.D P.F FT:=h.Es;have aK:=h.lt;have a5:¬FT wb:=h.nw wb (.inl rfl);have bI:=h.Ae.lt;have aQ:H wb:=h.Dz wb (.inl rfl);have c4:=h.Ae.c4;rw[h.D9]at c4;have c0:=h.Ae.c0;rw[h.FO]at c0;have c10:=h.Ae.br;rw[hck]at c10;have f10:=h.Ae.fz 10;have e0:=(h.Ae.cv I).c0;rw[h.FO]at e0;have aS:AU w1 b P.D P.F FT:=hd.aK λk d=>hc1.Al k (aK k d) (λe=>a5 (by cases e;exact d));have q0:A7 w1 w.heap.size 0 (A0 ld):=CJ aH;have q1:A7 w1 w.heap.size 1 (A0 wa):=CJ aH;(have aD:∀k,FT k->k<w1.heap.size:=λk d=>by have:=aK k d;omega);have CF:=A1 (A23 w1 ld wa)
  focus
   rw[A24 hl hw]at CF;(have a8:Env B w1:=hE.aj hc1 λk e=>by cases e;exact bA _ aQ);have eE:Hid (∀w2,A4 Aa w1 w2->Ag 46 #[A5 wb,.agg #[A0 ld,A0 wa]] w2 (Aj (.tuple #[]) λw'=>A4 Aa w1 w')):=λw2 k2=>by
    refine(Xp (t:=t) (q:=pd.take n0) (Ad:=Ad) dN hN w2 (hw1.ak k2) h.D9 rfl (aS.av aD k2) (λk d=>Bp (aD k d) k2.Ak) hp d0 r0 aL iC iC hdead ht iC (a8.aL k2) hl hw hc').k ?_;rintro w' h2;exact⟨rfl,k2.tr h2⟩
  rotate_left
  focus
   rw[A25 aV]at CF
  rotate_left
  all_goals
   have dU:Hid (∀w3,A4 Aa w1 w3->Ag 47 #[A5 b] w3 λe w'=>∃b2 E,e=.returned (A5 b2)/\AU w' b2 P.D P.F E/\(∀k,E k->w1.heap.size<=k/\k<w'.heap.size)/\A4 Aa w1 w'):=λw3 k3=>by
    refine(Vb (aS.av aD k3) (hp.en iC)).mono ?_;rintro e w'⟨b2,E,rfl,a1,a2,a3⟩;exact⟨b2,E,rfl,a1,λk d=>⟨AO k3.Ak (a2 k d).1,(a2 k d).2⟩,k3.tr a3⟩
  focus
   have cT:Hid (∀(w3:gC) (b2:Nat) (aO:Nat->Prop),Bw w3 b2 P aO->(∀k,aO k->k<w3.heap.size)->Env B w3->Ag 22 #[A5 b2,.agg #[A0 ld,A0 wa],A0 I] w3 λe w'=>
    ∃A ab Y L,e=.returned (.tuple #[A5 Y,A0 0])/\w3.heap.size<=Y/\(∃ps,Ar.aT P=.ok (A,ps))/\Rel L (pd.take n0) ld I/\(∀k,k<8->(L k).length<=t)/\Ap w3 aO w' (KS Y ab b2 ld wa I false L A P)):=λw3 b2 aO g1 g2 g3=>by
    refine(Tm (t:=t) (pd:=pd.take n0) (Ad:=Ad) w3 aO g1 g2 hp d0 r0 aL iC iC hdead iC g3 hl hw hc').mono ?_;rintro e w'⟨A,ab,Y,L,rfl,k1,k2,-,k3,k4,k5⟩;exact⟨A,ab,Y,L,rfl,k1,k2,k3,k4,k5⟩
   have cB:Hid (∀(A:Ar) (L:Nat->gF Pt) (m:Nat),(∃ps,Ar.aT P=.ok (A,ps))->Rel L (pd.take n0) ld I->n0<=m->m<=pd.length->Fq L (pd.take m) ld I->
    Ad<=m/\m<=pd.length/\St t A P (pd.take m) Ad (AN I ld) false/\Rel L (pd.take m) ld I):=λA L m hA hR h1 h2 hT=>by
    obtain⟨ps,hA⟩:=hA;have cQ:=hR.cN λp hp=>(aL p hp).2.1
    have hs:=RY hq h1 λk d=>(cQ k d).symm.trans (hT k d)
    have⟨dm,rm⟩:=hall (AN I ld) m aG h1 h2 hs;have bP:∀p∈pd.take m,Bo p:=λp hp=>hq p (HD hp);(have hlm:(pd.take m).length=m:=by rw[BK];omega);obtain⟨A2,ps2,g1,g2,-,-⟩:=St.aT hp dm rm bP iC iC hdead iC;rw[hA]at g1;cases g1;exact⟨iC,h2,g2,Sv hR bP hs⟩
   have dG:Hid (∀(X:gC) (b2 Y ab:Nat) (A:Ar) (L:Nat->gF Pt) (aA:Nat->Prop),(∃ps,Ar.aT P=.ok (A,ps))->Rel L (pd.take n0) ld I->(∀k,k<8->(L k).length<=t)->A4 (One wb) w X->
    AR X wb {n with Cy:=I,dv:=(A5 b2),sv:=(A5 Y),CU:=false,wc:=wa}->KS Y ab b2 ld wa I false L A P X aA->(∀k,aA k->k<X.heap.size)->(∀k,aA k->w.heap.size<=k)->
    Ag 52 #[A5 wb] X (Aj (.bool true) λw'=>A4 H X w'/\∃m pv,LW w' H wb {n with Cy:=I,dv:=(A5 b2),sv:=(A5 Y),CU:=false,wc:=wa,fell:=false,pv:=pv} b2 ld (KS Y ab b2 ld wa I false L A P) aA (pd.take m) ls/\
     Ad<=m/\m<=pd.length/\St t A P (pd.take m) Ad (AN I ld) false/\Rel L (pd.take m) ld I)):=λX b2 Y ab A L aA hA hR bM bJ hb bK aJ bL=>by
    have cU:=h.ew (n':={n with Cy:=I,dv:=(A5 b2),sv:=(A5 Y),CU:=false,wc:=wa}) bJ hb rfl rfl rfl rfl (KS.E1 Y ab b2 ld wa I false L A P) bK aJ bL;refine(A17 X cU rfl rfl rfl hsafe h0 aM (hR.cN λp hp=>(aL p hp).2.1) iC (λp hp=>(hq p hp).2.1) (λk d=>by have:=bM k d;omega) hl hc').k ?_;rintro w'⟨g1,m,pv,g2,g3,g4,g5⟩;exact⟨rfl,g1,m,pv,g5,cB.o A L m hA hR g2 g3 g4⟩
  rotate_left
  focus
   have dI:Hid (∀(X:gC) (b2:Nat) (aA:Nat->Prop),A4 (One wb) w X->AR X wb {n with Cy:=I,dv:=(A5 b2),sv:=.pointer none}->KD b2 P X aA->(∀k,aA k->k<X.heap.size)->(∀k,aA k->w.heap.size<=k)->
    LW X H wb {n with Cy:=I,dv:=(A5 b2),sv:=.pointer none} b2 ld (KD b2 P) aA pd ls):=λX b2 aA bJ hb bK aJ bL=>h.ew bJ hb rfl rfl rfl rfl (KD.E1 b2 P) bK aJ bL
  rotate_left
  all_goals
   obtain⟨rf,bD⟩:=iG P.D.n.Bm;obtain⟨fu,bB⟩:=iG P.D.n.fulls;have bT:=A1 bD;have dS:=A1 bB;have b5:=h.D9;have bE:=A1 hw1;have bS:=A1 hc1
  focus
   have dJ:=A1 a8
  rotate_left;rotate_left
  all_goals
   have aB:Hid (w1.heap.size=w.heap.size+1/\wb<w.heap.size/\H wb):=⟨hsz,bI,aQ⟩;have dF:=A1 hB1;have dB:=A1 hB2;have b3:Hid (A4 H w0 w/\Ay n.da/\Hy L0 H w n.tv/\ls.length<=4*t/\n.AG=(Ad:Int)/\P.D.n.Av=DM n.Av):=⟨k0,h2,h3,h4,hsafe,hroom⟩;have dZ:=A1 hc'
  focus
   clear hall aL cO hd aK aS aD a5 d0 r0 h hp hE hsz bI aQ hw1 hc1 a8 aH hB1 hB2 hq aM h0 cB hdead bD bB aG hcle eB cM a7 k0 h2 h3 hsafe hroom hck hx cC h4
  rotate_left
  focus
   have dQ:=A1 (hcl0.bh (MX hcle));clear hd aK aS aD a5 h hp hsz bI aQ hw1 hc1 aH hB1 hB2 hdead bD bB hcle hE a7 k0 h2 h3 hsafe hroom hck h4 cM hcl0
  rotate_left
  all_goals
   by_cases aF:0<=z
   focus
    have dO:=cV.o aF;go_wp2_with (go_at_call 44;refine dO.k ?_;rintro w1 rfl);rw[dF.o aF]
   rotate_left
   focus
    go_wp2_with (fail);rw[dB.o aF]
  all_goals
   refine CF.k ?_;rintro w2 k2
  iterate 2
   focus
    have cN:=A1 (eE.o w2 k2);have r0:=k2.ad q0;have r1:=k2.ad q1;go_wp2_with (fail);refine cN.k ?_;rintro w3 k3;have t4:=(bE.o.ak k3).c4;dsimp only at t4;rw[b5]at t4;have cE:=A1 (dU.o w3 k3)
   rotate_left
  iterate 2
   focus
    have t4:=(bE.o.ak k2).c4;dsimp only at t4;rw[b5]at t4;have cE:=A1 (dU.o w2 k2)
   rotate_left
  all_goals
   go_wp2_with (fail);refine cE.m ?_;rintro e w4⟨b2,E,rfl,dH,aR,k4⟩;have aZ:=bE.o.ak k4;have t4':=aZ.c4;have z4:=aZ.fz 4;(have b8:¬E wb:=λhx=>by have:=(aR wb hx).1;have:=aB.o;omega);have cA:=(A4.C (One wb) w4).an (b:=wb) rfl 4 (A5 b2);have bX:=aZ.s4 (A5 b2);(have aW:∀k,E k->k<(w4.setCell (A9 wb 4) (A5 b2)).heap.size:=λk d=>by simpa using(aR k d).2);have bN:AU (w4.setCell (A9 wb 4) (A5 b2)) b2 P.D P.F E:=dH.aK λk d=>cA.Al k (aR k d).2 (λe=>b8 (by cases e;exact d));have dY:Hid (A4 (One wb) w1 (w4.setCell (A9 wb 4) (A5 b2))):=(k4.aS (S:=One wb)).tr cA;have cD:=A1 (TU _ bX rfl bN aW);have bH:=A1 bX;have bZ:=A1 bN;have b6:Hid (∀k,E k->w1.heap.size<=k):=λk d=>(aR k d).1
   have aT:=A1 aW;have x0:=k4.ad q0;have x1:=k4.ad q1;(have hwne:wb≠w.heap.size:=by have:=aB.o;omega);have y0:A7 (w4.setCell (A9 wb 4) (A5 b2)) w.heap.size 0 (A0 ld):=(GU _ _ _ _ (by simp;try omega)).trans x0;have y1:A7 (w4.setCell (A9 wb 4) (A5 b2)) w.heap.size 1 (A0 wa):=(GU _ _ _ _ (by simp;try omega)).trans x1;rw[bT.o,dS.o]at cD;go_wp2_with (fail);generalize (w4.setCell (A9 wb 4) (A5 b2))=w5 at dY cD bH bZ aT y0 y1 ⊢;refine cD.k ?_;rintro w6 k6;have v4:A7 (w6.alloc (.cells #[A0 rf,A0 fu] 85)) wb 4 (A5 b2):=(bH.o.ak (k6.ai _)).c4;go_wp2_with (fail);have k7:A4 Aa w5 (w6.alloc (.cells #[A0 rf,A0 fu] 85)):=k6.ai _;have aH:=Bn w6 (.cells #[A0 rf,A0 fu] 85);have m0:A7 (w6.alloc (.cells #[A0 rf,A0 fu] 85)) w6.heap.size 0 (A0 rf):=CJ aH;(have b4:Hid ((w6.alloc (.cells #[A0 rf,A0 fu] 85)).heap.size=w6.heap.size+1):=by simp[Hid]);generalize w6.alloc (.cells #[A0 rf,A0 fu] 85)=w7 at k7 m0 b4 ⊢;have cL:=A1 (bH.o.ak k7);have dA:=A1 (bZ.o.av aT.o k7);have dL:Hid (∀k,E k->k<w7.heap.size):=λk d=>Bp (aT.o k d) k7.Ak;have cI:Hid (A4 (One wb) w1 w7):=dY.o.bk k7;have eC:Hid (∀k,E k->k<w6.heap.size):=λk d=>Bp (aT.o k d) k6.Ak;have p0:=k7.ad y0;have p1:=k7.ad y1;have p4:A7 w7 wb 4 (A5 b2):=cL.o.c4;have a4:A7 w7 wb 10 (A0 I):=cL.o.br;have bG:=A1 (Qf dA.o)
  iterate 2
   focus
    generalize a0:P.D.n.Bc=cn at bG;refine bG.k ?_;rintro w8 rfl;go_wp2_with (fail);have dW:=A1 (cT.o w7.drew b2 E dA.o.aa dL.o ((dJ.o.aj cI.o λk e=>by cases e;exact bA _ aB.o.2.2).aL (A4.C Aa w7).aa))
   rotate_left
  iterate 2
   focus
    obtain⟨cn,a0⟩:=iG P.D.n.Bc;rw[a0]at bG;have cZ:=A1 a0;refine bG.k ?_;rintro w8 rfl;go_wp2_with (fail)
    have dW:=A1 (A0g w7.drew ld wa I (some (A9 b2 0)) (by
     by_cases h1:1<=ld/\ld<=4611686018427387904
     ·exact .inr λh2=>aV ⟨h1,h2⟩
     ·exact .inl h1))
   rotate_left
  all_goals
   refine Bq (λw'=>A7 w' wb 4 (A5 b2)/\A7 w' w.heap.size 0 (A0 ld)/\A7 w' w.heap.size 1 (A0 wa)/\A7 w' wb 10 (A0 I)) 14
    (Ba [0,1,2,3,4,5,6,7,8,9,10,11,12,13] [9]) ⟨p4,p0,p1,a4⟩ ?_
   iterate 9 refine B4 ?_
   refine Bf λK hK=>?_;go_simp;refine dW.m ?_
  iterate 2
   focus
    rintro e w8⟨A,ab,Y,L,rfl,hsb,hA,hR,bM,O,aE,hV,cF,cX⟩;have dM:=cI.o.Ak;have hz7:=b4.o;have aU:∀k,E k->w1.heap.size<=k:=b6.o;(have a6:¬E wb:=λhx=>by have:=aU wb hx;have:=aB.o;omega);(have bW:¬E w.heap.size:=λhx=>by have:=aU _ hx;have:=aB.o;omega);(have cS:¬E w6.heap.size:=λhx=>by have:=eC.o _ hx;omega);refine hK _ _ ⟨Dv O p4 a6,Dv O p0 bW,Dv O p1 bW,Dv O a4 a6⟩ (λhS=>?_);have k8:A4 E w7 w8:=(A4.C E w7).aa.tr O;have aI:=A1 (cL.o.Am k8 a6);(have dE:Hid (A4 (One wb) w1 w8):=cI.o.AF k8 λx hx aK=>by have:=aU x hx;omega);have m8:=Dv k8 m0 cS;have dX:Hid (∀k,aE k->w1.heap.size<=k):=λk d=>(cX k d).elim (aU k) λh=>AO dM h
    have cD:Hid (wb≠w6.heap.size):=λe=>by
     have:=aB.o;omega
    have s4:A7 w8 wb 4 (A5 b2):=aI.o.c4;have s5:=aI.o.c5;have s9:=aI.o.c9;have s11:=aI.o.cX;have z5:=aI.o.fz 5;have z9:=aI.o.fz 9;have dR:=aI.o.fz 11;have mk:=cD.o;have eH:=A1 hV;have bY:=A1 cF;have eD:=A1 hA;have eJ:=A1 hR;have b1:=A1 bM
    iterate 4 refine B4 ?_
    refine Bl ?_;go_wp2_with (fail);have aN:=A1 (aI.o.s5 (.pointer none));have a9:=(A4.C (One wb) w8).an (b:=wb) rfl 5 (.pointer none);(have dV:Hid (¬aE wb):=λhx=>by have:=dX.o wb hx;have:=aB.o;omega);have dP:=A1 (KS.E1 Y ab b2 ld wa I false L A P _ _ _ _ eH.o bY.o a9 λk d e=>dV.o (by cases e;exact d));(have bO:Hid (∀k,aE k->k<(w8.setCell (A9 wb 5) (.pointer none)).heap.size):=λk d=>by simpa using bY.o k d);have cJ:Hid (A4 (One wb) w1 (w8.setCell (A9 wb 5) (.pointer none))):=dE.o.an rfl 5 _;have g4:A7 (w8.setCell (A9 wb 5) (.pointer none)) wb 4 (A5 b2):=aN.o.c4;have gm:A7 (w8.setCell (A9 wb 5) (.pointer none)) w6.heap.size 0 (A0 rf):=(GU _ _ _ _ (by simp;try omega)).trans m8;generalize w8.setCell (A9 wb 5) (.pointer none)=w9 at aN dP cJ bO g4 gm ⊢;have eI:Hid (Ag 50 #[A5 b2] w9.drew (Aj (A0 rf) λw'=>w9.drew=w')):=by
     obtain⟨Ft9,dD,-⟩:=SF.dk dP.o;have:=OK (AU.aa dD)
     rwa [bT.o]at this
    refine Bq (λw'=>A7 w' wb 4 (A5 b2)/\A7 w' w6.heap.size 0 (A0 rf)) 7
     (Ba [0,1,2,3,5,6,4] [4]) ⟨g4,gm⟩ ?_
    iterate 6 refine B4 ?_
    refine Bf λK hK=>?_;go_simp;refine eI.k ?_;rintro w10 rfl;refine hK _ _ ⟨g4,gm⟩ (λhS=>?_);refine Bl ?_;have s5:=aN.o.c5;have s9:=aN.o.c9;have s11:=aN.o.cX;have z5:=aN.o.fz 5;have z9:=aN.o.fz 9;have dR:=aN.o.fz 11;go_wp2_with (fail);have dK:=((aN.o.s5 (A5 Y)).s9 false).e6 wa;have aP:A4 (One wb) w9 (((w9.setCell (A9 wb 5) (A5 Y)).setCell (A9 wb 9) (.bool false)).setCell (A9 wb 11) (A0 wa)).drew:=((((A4.C (One wb) w9).an rfl 5 _).an rfl 9 _).an rfl 11 _).aa;have cP:=KS.E1 Y ab b2 ld wa I false L A P _ _ _ _ dP.o bO.o aP λk d e=>dV.o (by cases e;exact d);have bF:∀k,aE k->k<(((w9.setCell (A9 wb 5) (A5 Y)).setCell (A9 wb 9) (.bool false)).setCell (A9 wb 11) (A0 wa)).drew.heap.size:=λk d=>Bp (bO.o k d) aP.Ak;have b0:Hid (A4 (One wb) w (((w9.setCell (A9 wb 5) (A5 Y)).setCell (A9 wb 9) (.bool false)).setCell (A9 wb 11) (A0 wa)).drew):=(bS.o.tr cJ.o).tr aP;have eG:=A1 (dG.o _ b2 Y ab A L aE eD.o eJ.o b1.o b0.o dK cP bF λk d=>by have:=dX.o k d;have:=aB.o;omega);refine eG.k ?_;rintro b7⟨h1,m,pv,h2,h3,h4,h5,h6⟩
    have dC:Hid (A4 H w b7/\LW b7 H wb {n with Cy:=I,dv:=(A5 b2),sv:=(A5 Y),CU:=false,wc:=wa,fell:=false,pv:=pv} b2 ld (KS Y ab b2 ld wa I false L A P) aE (pd.take m) ls/\
     Ad<=m/\m<=pd.length/\St t A P (pd.take m) Ad (AN I ld) false/\Rel L (pd.take m) ld I):=
     ⟨(b0.o.ah (S':=H) λx _ e=>by cases e;exact aB.o.2.2).tr h1,h2,h3,h4,h5,h6⟩
    go_wp2;go_ret;have⟨f1,f2,f3,f4,f5,f6⟩:=dC.o;have⟨l1,l2,l3,l4,l5,l6⟩:=b3.o;exact⟨rfl,l1.tr f1,{n with Cy:=I,dv:=(A5 b2),sv:=(A5 Y),CU:=false,wc:=wa,fell:=false,pv:=pv},pd.take m,ls,dZ.o,l2,l3.aj f1,l4,b2,Ad,P,aE,l5,l6,.inl ⟨Y,ab,false,L,A,rfl,rfl,rfl,hl,hw,f2,f5,f6,b1.o⟩⟩
  iterate 2
   focus
    rintro e w8⟨rfl,O⟩;refine hK _ _ ⟨O.ad p4,O.ad p0,O.ad p1,O.ad a4⟩ (λhS=>?_);have k8:A4 Aa w7 w8:=⟨O.os,O.DZ,O.E3,O.Ak,O.Al⟩;have aI:=A1 (cL.o.ak k8);have dE:Hid (A4 (One wb) w1 w8):=cI.o.bk k8;have eF:=A1 (dA.o.av dL.o k8);have eA:Hid (¬E wb):=b8;have bY:Hid (∀k,E k->k<w8.heap.size):=λk d=>Bp (dL.o k d) k8.Ak;have s4:A7 w8 wb 4 (A5 b2):=aI.o.c4;have s5:=aI.o.c5;have z5:=aI.o.fz 5
    iterate 4 refine B4 ?_
    refine Bl ?_;have a9:=(A4.C (One wb) w8).an (b:=wb) rfl 5 (.pointer none);have aN:=A1 (aI.o.s5 (.pointer none));have dT:Hid (AU (w8.setCell (A9 wb 5) (.pointer none)) b2 P.D P.F E):=eF.o.aK λk d=>a9.Al k (bY.o k d) (λe=>eA.o (by cases e;exact d));(have bO:Hid (∀k,E k->k<(w8.setCell (A9 wb 5) (.pointer none)).heap.size):=λk d=>by simpa using bY.o k d);have cJ:Hid (A4 (One wb) w1 (w8.setCell (A9 wb 5) (.pointer none))):=dE.o.an rfl 5 _;have bG:=A1 (Qf dT.o);rw[cZ.o]at bG;go_wp2_with (go_at_call 49;refine bG.k ?_;rintro w8 rfl);go_ret;have d:A4 (One wb) w (w8.setCell (A9 wb 5) (.pointer none)):=bS.o.tr cJ.o;have⟨l1,l2,l3,l4,l5,l6⟩:=b3.o;(have f1:A4 H w (w8.setCell (A9 wb 5) (.pointer none)):=d.ah λx _ e=>by cases e;exact aB.o.2.2);exact⟨rfl,l1.tr f1,{n with Cy:=I,dv:=(A5 b2),sv:=.pointer none},pd,ls,dZ.o,l2,l3.aj f1,l4,b2,Ad,P,E,l5,l6,.inr ⟨rfl,dI.o _ b2 E d aN.o dT.o bO.o (λk d=>by have:=b6.o k d;have:=aB.o;omega),dQ.o⟩⟩
end
section
variable{w:gC}{L0:Nat}{H:Nat->Prop}{wb t N B:Nat}{ld:Int}{n:WN}{pd:gF Pu}{ls:gF (gD×Int)}
def P5(aA:FR N)(hN:N<=330000)(w:gC)(wa d:Int)(h:DE t L0 H wb ld w n pd ls)(ht:t+3<=330000)(htN:t+2<=N)(hE:Env B w)(aB:∀k,H k->B<=k)(X:Ay d):
 Ag 17 #[A5 wb,A0 wa,A0 d] w (Aj (.bool true) λw'=>A4 H w w'/\LI w' L0 H wb ld t):=by
 have hh:=h;obtain⟨h1,L,h3,h4,-⟩:=h;have⟨b,Ad,P,FT,s1,s2,s3,s4⟩:=hh.e3;have aD:=s4;obtain⟨k1,k2,k3,k4,k5,-⟩:=s4;have z:=h3;obtain⟨-,ts,⟨ta,Y,et,-⟩,-⟩:=h3;have c4:=s3.Ae.c4;rw[s3.D9]at c4;have c13:=s3.Ae.dY;rw[et]at c13;have E:A4 Aa w w.drew:=(A4.C Aa w).aa;have CR:P.D.n.Bh=true->Ag 43 #[A5 wb,A0 n.da,.slice ta ts.length Y] w.drew (Aj (.tuple #[]) λw'=>M8 t L0 H wb b Ad ld n.Cy pd ls w w'):=λ_=>by
  refine(V7 (s3.ak E) k1 k2 k3 k4 k5 iC n.da (.slice ta ts.length Y) L (by rw[<-et];exact z.aj (E.aS))).k ?_;rintro w'⟨q1,O,P',q2,q3,q4,q5⟩;have I:A4 H w w':=(E.aS (S:=H)).tr q1;exact⟨rfl,{n with sv:=.pointer none,fell:=true},P',O,q2,rfl,L,z.aj I,s1,q5.trans s2,q4,q3,I⟩
 have aE:P.D.n.Bh=false->M8 t L0 H wb b Ad ld n.Cy pd ls w w:=λhd=>⟨n,P,FT,s3,rfl,L,z,s1,s2,hd,aD,A4.C _ _⟩
 exact A0f aA hN w d n.da P.D.n.Bh ta ts.length Y c4 s3.Ae.dx c13 (UX s3.Es) CR aE h4 ht iC hE aB h1 X
end
section
variable{w w':gC}{L0:Nat}{H:Nat->Prop}{wb t N B:Nat}{ld:Int}{n:WN}{pd:gF Pu}{ls:gF (gD×Int)}
def LI.cE{d:Nat}(h:LI w L0 H wb ld t)(z:t<=d):LI w L0 H wb ld d:=by
 obtain⟨n,pd,ls,h⟩:=h;exact⟨n,pd,ls,h.ah z⟩
def Yb(aF:FR N)(hN:N<=330000)(w:gC)(E a z c3:Int)(tv:gD)(aE:E=1\/E=9\/E=10\/E=11)(h:DE t L0 H wb ld w n pd ls)(hE:Env B w)(aH:∀k,H k->B<=k)(ht:t+3<=330000)(aJ:t+2<=N)(ha:Ay a)(hb:Ay z)(aA:Hy L0 H w tv):
 Ag 18 #[A5 wb,.agg #[A0 E,A0 a,A0 z,A0 c3,tv]] w (Aj (.bool true) λw'=>A4 H w w'/\LI w' L0 H wb ld (t+1)):=by
 have hA:=(A4.C Aa w).ai (BL E a z c3 tv);have⟨o0,o1,o2,o3⟩:=GI w E a z c3 tv;have o4:A7 (w.alloc (BL E a z c3 tv)) w.heap.size 4 tv:=by
  have aB:=Bn w (BL E a z c3 tv);unfold BL at aB ⊢;simp only[A7,World.cell?,aB];rfl
 have h1:=h.ak hA;have Y:=hE.aL hA;have d:=aA.aj (hA.aS (S:=H));generalize aG:w.alloc (BL E a z c3 tv)=w1 at hA o0 o1 o2 o3 o4 h1 Y d;unfold BL at aG;have aD:Hid (A4 H w w1):=hA.aS;obtain⟨-,ts,⟨ta,tc,rfl,-⟩,-⟩:=aA;rcases aE with rfl|rfl|rfl|rfl
 ·have aK:=A1 (P5 aF hN w1 a z h1 ht aJ Y aH hb)
  go_enter func18,ntmps18
  go_wp2_with (fail);refine aK.k ?_;rintro w2⟨X,O⟩;have I:=A1 X;have L:=A1 O;go_wp2;go_ret;exact⟨rfl,aD.o.tr I.o,L.o.cE (EW t)⟩
 ·have CR:=A1 (A2N w1 a (.slice ta ts.length tc) h1 iC ha d)
  go_enter func18,ntmps18
  go_wp2_with (fail);refine CR.k ?_;rintro w2⟨X,O⟩;have I:=A1 X;have L:=A1 O;go_wp2;go_ret;exact⟨rfl,aD.o.tr I.o,L.o.cE (EW t)⟩
 ·have aI:=A1 (A2C w1 10 a z c3 (.slice ta ts.length tc) h1 iF ha hb d)
  go_enter func18,ntmps18
  go_wp2_with (fail);refine aI.k ?_;rintro w2⟨X,O⟩;have I:=A1 X;have L:=A1 O;go_wp2;go_ret;exact⟨rfl,aD.o.tr I.o,L.o.cE (EW t)⟩
 ·have aI:=A1 (A2g w1 a z c3 (.slice ta ts.length tc) h1 ha hb)
  go_enter func18,ntmps18
  go_wp2_with (fail);refine aI.k ?_;rintro w2⟨X,O⟩;have I:=A1 X;have L:=A1 O;go_wp2;go_ret;exact⟨rfl,aD.o.tr I.o,L.o.cE (EW t)⟩
def Y8(aB:FR N)(hN:N<=330000)(w:gC)(z a E c3:Int)(tv:gD)(I:z=6\/z=7\/z=8)(h:DE t L0 H wb ld w n pd ls)(hL:Lets B w)(aE:∀k,H k->B<=k)(ht:t+1<=330000)(aF:t<=N):
 Ag 18 #[A5 wb,.agg #[A0 z,A0 a,A0 E,A0 c3,tv]] w (Aj (.bool true) λw'=>A4 H w w'/\LI w' L0 H wb ld (t+1)):=by
 have hA:=(A4.C Aa w).ai (BL z a E c3 tv);have⟨o0,o1,o2,o3⟩:=GI w z a E c3 tv;have o4:A7 (w.alloc (BL z a E c3 tv)) w.heap.size 4 tv:=by
  have O:=Bn w (BL z a E c3 tv);unfold BL at O ⊢;simp only[A7,World.cell?,O];rfl
 have X:=h.ak hA;have Y:=hL.aL hA;generalize aD:w.alloc (BL z a E c3 tv)=w1 at hA o0 o1 o2 o3 o4 X Y;unfold BL at aD;have aG:Hid (A4 H w w1):=hA.aS;have aA:Hid (LI w1 L0 H wb ld (t+1)):=⟨n,pd,ls,X.ah (EW t)⟩;have aI:Hid (n.sv≠.pointer none->_):=λd=>YI aB hN w1 z a E c3 tv I X d Y aE ht aF;have c5:A7 w1 wb 5 n.sv:=X.Ae.c5;have d:n.sv=.pointer none\/∃sb,n.sv=(A5 sb):=by
  obtain⟨-,-,-,-,b,Ad,P,FT,-,-,h7⟩:=X;rcases h7 with⟨sb,ab,ro,L,A,g1,-⟩|⟨g1,-⟩
  ·exact .inr ⟨sb,g1⟩
  ·exact .inl g1
 rcases d with d|⟨sb,d⟩
 ·rw[d]at c5;rcases I with rfl|rfl|rfl
  all_goals
   go_enter func18,ntmps18
   go_wp2;go_ret;exact⟨rfl,aG.o,aA.o⟩
 ·have SB:=A1 (aI.o (by rw[d];simp));rw[d]at c5;rcases I with rfl|rfl|rfl
  all_goals
   go_enter func18,ntmps18
   go_wp2_with (fail);refine SB.k ?_;rintro w2⟨k2,hI⟩;have aH:=A1 k2;have aA:=A1 hI;go_wp2;go_ret;exact⟨rfl,aG.o.tr aH.o,aA.o⟩
def Ya(O:FR N)(hN:N<=330000)(w:gC)(d a E c3:Int)(tv:gD)(h:LI w L0 H wb ld t)(Y:Env B w)(z:∀k,H k->B<=k)(ht:t+3<=330000)(aA:t+2<=N)(ha:Ay a)(hb:Ay E)(aB:Ay c3)(X:Hy L0 H w tv):
 Calls Tryz.prog 18 #[.pointer (some ⟨wb,0,none⟩),.agg #[.int .i64 d,.int .i64 a,.int .i64 E,.int .i64 c3,tv]] w λe w'=>e=.returned (.bool true)/\A4 H w w'/\LI w' L0 H wb ld (t+1):=by
 obtain⟨n,pd,ls,L⟩:=h;by_cases k1:d=1\/d=9\/d=10\/d=11
 ·exact Yb O hN w d a E c3 tv k1 L Y z ht aA ha hb X
 ·by_cases k2:d=6\/d=7\/d=8
  ·exact Y8 O hN w d a E c3 tv k2 L Y.1 z iC iC
  ·(have hk:d∉[1,6,7,8,9,10,11]:=by simp;omega);by_cases I:n.sv=.pointer none
   ·refine(Y9 w d a E c3 tv L.Ae I hk).k ?_;rintro w' q1;exact⟨rfl,q1.aS,n,pd,ls,(L.ak q1).ah (EW t)⟩
   ·exact Y7 w d a E c3 tv L I Y.1 z iC ha hb aB hk
end
def VS(w:gC)(g o n:Nat):Prop:=∀i,i<n->∃d a b c tv,Ay a/\Ay b/\Ay c/\w.cell? ⟨g,o+i*5,none⟩=some (.int .i64 d)/\w.cell? ⟨g,o+i*5+1,none⟩=some (.int .i64 a)/\w.cell? ⟨g,o+i*5+2,none⟩=some (.int .i64 b)/\w.cell? ⟨g,o+i*5+3,none⟩=some (.int .i64 c)/\w.cell? ⟨g,o+i*5+4,none⟩=some tv/\Hh w.heap.size w tv
section
variable{w:gC}{L0:Nat}{H:Nat->Prop}{wb b B:Nat}{ld:Int}
def Tl{wa room A8 count:Int}(L:FR 330000)(w:gC)(h:AR w wb ⟨ld,wa,room,A8,.pointer (some ⟨b,0,none⟩),.pointer none,.slice none 0 0,0,false,false,A8,wa,0,.slice none 0 0,.slice none 0 0,count⟩)(hd:AU w b ⟨[],[],[],GO (DM room)⟩ (λ_=>([],0)) (One b))(hbw:b<wb)(z:H b)(O:H wb)(Y:∀k,H k->L0<=k)(aA:∀k,w.heap.size<=k->H k)(hE:Env B w)(X:∀k,H k->B<=k)(hc:Ay A8)(hr:Ay room):
 Calls Tryz.prog 17 #[.pointer (some ⟨wb,0,none⟩),.int .i64 wa,.int .i64 0] w λe w'=>e=.returned (.bool true)/\A4 H w w'/\LI w' L0 H wb ld 0:=by
 have hwl:=h.lt;have E : -4611686018427387904<=DM room/\DM room<=9223372036854775807:=by
  obtain⟨r1,r2⟩:=hr;unfold DM;split<;>omega
 have aB:LW w H wb ⟨ld,wa,room,A8,.pointer (some ⟨b,0,none⟩),.pointer none,.slice none 0 0,0,false,false,A8,wa,0,.slice none 0 0,.slice none 0 0,count⟩ b ld (KD b (De (DM room))) (One b) [] []:=by
  refine⟨h,rfl,rfl,KD.E1 _ _,hd,λk I=>by cases I;omega,Cq _ _ _ _,Cq _ _ _ _,?_,?_,λk I=>by cases I;exact z,aA,λe d=>by cases d⟩
  ·rintro k (rfl|e|e|⟨e,d,-⟩) hx
   ·cases hx;omega
   ·simp[Value.ownBlock]at e
   ·simp[Value.ownBlock]at e
   ·cases d
  ·rintro k (rfl|e|e|⟨e,d,-⟩)
   ·exact O
   ·simp[Value.ownBlock]at e
   ·simp[Value.ownBlock]at e
   ·cases d
 have hL:DE 0 L0 H wb ld w ⟨ld,wa,room,A8,.pointer (some ⟨b,0,none⟩),.pointer none,.slice none 0 0,0,false,false,A8,wa,0,.slice none 0 0,.slice none 0 0,count⟩ [] []:=
  ⟨hc,by constructor<;>simp,⟨Y,Hh.bS _ _ ⟨none,0,rfl,iE,λj hj=>by simp at hj⟩⟩,iE,b,0,De (DM room),One b,rfl,rfl,.inr ⟨rfl,aB,A12 E⟩⟩
 exact P5 L iF w wa 0 hL iC iC hE X (by constructor<;>simp)
end
def TY:∀(l:gF (gD×Int)) (k:Nat) (h:k<l.length),(FJ l)[k*2]?=some (l[k]'h).1/\(FJ l)[k*2+1]?=some (A0 (l[k]'h).2)
 | [],_,h=>by simp at h
 | (v,i):: r,0,_=>by simp[FJ]
 | (v,i):: r,k+1,h=>by
  have:=TY r k (by simpa using h);rw[show (k+1)*2=k*2+1+1 from by omega];simpa[FJ] using this
section
variable{w w':gC}{L0:Nat}{H:Nat->Prop}{wb b t N B:Nat}{ld:Int}{n:WN}{R:Kind}{FT:Nat->Prop}{pd:gF Pu}{ls K:gF (gD×Int)}
def RG(w:gC)(h:LW w H wb n b ld R FT pd ls)(hl:ls.length<1099511627000):
 Ag 19 #[A5 wb] w (Aj (.bool true) λw'=>A4 Aa w w'):=by
 obtain⟨ad,cap,hv,-,-,hs,-⟩:=B8 h.En;have aJ:=A1 h;have aN:=A1 hv;have aO:=A1 hs;clear h hv hs;obtain⟨m,hm⟩:=iG ls.length;have aL:=A1 hm;rw[hm]at hl;clear hm
 go_enter func19,ntmps19
 go_wp2;go_loopw [3] (λiv wr=>∃i:Nat,iv=A0 i/\i<=m/\Hid (A4 Aa w wr)) (λiv _=>m-(intOf iv).toNat)
 case atStart=>exact⟨0,rfl,Cb _,A4.C _ _⟩
 case round=>
  obtain⟨i,rfl,hi,X⟩:=hrel;obtain⟨w4,aH⟩:=iH wr;subst aH;have i0:=BJ i;have c14:=(aJ.o.ak X.o).Ae.dK;rw[aN.o,aL.o]at c14;by_cases aD:i<m
  ·have i1:(i:Int)<(m:Int):=iC;have ei:IntKind.i64.wrap ((i:Int)+1)=(i:Int)+1:=E9 iC;(have aR:Hid (m-(intOf (A0 ((i:Int)+1))).toNat<m-(intOf (A0 (i:Int))).toNat):=by simp only[Hid,intOf];omega);(have aB:i<ls.length:=by rw[aL.o];exact aD);obtain⟨g,rfl⟩:=aO.o iC;obtain⟨q0,q1⟩:=TY ls i aB;have z:=aJ.o.En;rw[aN.o]at z;have l0:=Bu z rfl q0;have L:=Bu z rfl q1;have aE:=aJ.o.rd _ (BT aB);generalize (ls[i]'aB)=e at l0 L aE;obtain⟨ev,I⟩:=e;obtain⟨a2,O,c2,⟨rfl,aA⟩,h2⟩:=aE;have aA:=A1 aA;have l0:=X.o.ad l0;have L:=X.o.ad L;have aP:=A1 h2;clear q0 q1 z h2;go_wp2;go_loopw [4] (λjv wr=>∃j:Nat,jv=A0 j/\j<=O/\Hid (A4 Aa w4 wr)) (λjv _=>O-(intOf jv).toNat)
   case atStart=>exact⟨0,rfl,Cb _,A4.C _ _⟩
   case round=>
    obtain⟨j,rfl,hj,d⟩:=hrel;obtain⟨E,aK⟩:=iH wr;subst aK;have j0:=BJ j;have c14:=d.o.ad c14;have l0:=d.o.ad l0;have L:=d.o.ad L;by_cases aG:j<O
    ·have j1:(j:Int)<(O:Int):=iC;obtain⟨g2,cs,rfl,hh,aF⟩:=aP.o iC;obtain⟨p0,p1⟩:=aF j aG;(have c0:A7 w g2 (j*2) (A0 (IntKind.i64.wrap (-I))):=by simp only[A7,World.cell?,hh];simpa using p0);(have c1:A7 w g2 (j*2+1) (A0 I):=by simp only[A7,World.cell?,hh];simpa using p1);have c0:=d.o.ad (X.o.ad c0);have c1:=d.o.ad (X.o.ad c1)
     have ej:IntKind.i64.wrap ((j:Int)+1)=(j:Int)+1:=E9 (by
      have:=aA.o
      omega)
     (have aI:Hid (O-(intOf (A0 ((j:Int)+1))).toNat<O-(intOf (A0 (j:Int))).toNat):=by simp only[Hid,intOf];omega);obtain⟨x,hx⟩:=iG (IntKind.i64.wrap (-I));rw[hx]at c0;clear hh aF p0 p1;go_wp2;have k6:A4 Aa E (E.alloc (.cells #[A0 x,A0 I] 70)):=(A4.C _ E).ai _;have Y:=Bn E (.cells #[A0 x,A0 I] 70);have x0:A7 (E.alloc (.cells #[A0 x,A0 I] 70)) E.heap.size 0 (A0 x):=CJ Y;have x1:A7 (E.alloc (.cells #[A0 x,A0 I] 70)) E.heap.size 1 (A0 I):=CJ Y;have c14:=k6.ad c14;have L:=k6.ad L;have aM:=A1 k6;clear k6 Y;generalize (E.alloc (.cells #[A0 x,A0 I] 70))=w6 at x0 x1 c14 L aM ⊢;refine Bq (λw'=>A7 w' E.heap.size 0 (A0 x)/\A7 w' E.heap.size 1 (A0 I)/\A7 w' wb 14 (AA g m cap)/\A7 w' g (i*2+1) (A0 I)) 24
      (Ba [0,1,2,3,4,5,6,7,8,9,10,11,12,13,14,15,16,17,18,19,20,21,22,23] []) ⟨x0,x1,c14,L⟩ ?_
     iterate 24 refine B4 ?_
     refine Bl ?_;go_wp2;go_roundw
     ·exact⟨j+1,iE,aG,d.o.tr aM.o.aa⟩
     ·exact aI.o
    ·have j1:¬(j:Int)<(O:Int):=iC;have aQ:Hid (A4 Aa w E):=X.o.tr d.o;go_wp2;go_roundw
     ·exact⟨i+1,iE,aD,aQ⟩
     ·exact aR.o
  ·(obtain rfl:i=m:=iC);have i1:¬(i:Int)<(i:Int):=L6 _;go_wp2;go_ret;exact⟨rfl,X.o⟩
def Co.b7{S E:Nat->Prop}(h:Co K w H wb n b ld R FT pd ls)(X:A4 S w w')(I:∀k,k<w.heap.size->H k->¬S k)(L:∀k,k<w.heap.size->H k->E k)(O:∀k,w'.heap.size<=k->E k):Co K w' E wb n b ld R FT pd ls:=by
 have z:=h.bx X (λk d=>I k (h.b8 d) (h.Dz k d)) (λk d=>I k (h.lt k d) (h.F4 k d));exact⟨z.Ae,z.D9,z.FO,z.E1,z.Es,z.lt,z.Dq,z.En,z.nw,λk d=>L k (h.b8 d) (h.Dz k d),λk d=>L k (h.lt k d) (h.F4 k d),O,z.rd⟩
def LI.b7{S d:Nat->Prop}(h:LI w L0 H wb ld t)(X:A4 S w w')(hS:∀k,k<w.heap.size->H k->¬S k)(E:∀k,S k->L0<=k)(h1:∀k,k<w.heap.size->H k->d k)(h2:∀k,w'.heap.size<=k->d k)(O:∀k,d k->L0<=k):LI w' L0 d wb ld t:=by
 obtain⟨n,pd,ls,a1,a2,⟨-,a4⟩,a5,b,Ad,P,FT,h5,h6,h7⟩:=h;refine⟨n,pd,ls,a1,a2,⟨O,a4.aj (X.ah λk _ hk=>E k hk)⟩,a5,b,Ad,P,FT,h5,h6,?_⟩;rcases h7 with⟨sb,ab,ro,L,A,I,z,Y,g4,g5,g6,g7⟩|⟨I,z,Y⟩
 ·exact .inl ⟨sb,ab,ro,L,A,I,z,Y,g4,g5,g6.b7 X hS h1 h2,g7⟩
 ·exact .inr ⟨I,z.b7 X hS h1 h2,Y⟩
def LI.ak(h:LI w L0 H wb ld t)(d:A4 Aa w w'):LI w' L0 H wb ld t:=by
 obtain⟨n,pd,ls,h⟩:=h;exact⟨n,pd,ls,h.ak d⟩
def LI.cz(h:LI w L0 H wb ld t):∀k,H k->L0<=k:=by
 obtain⟨n,pd,ls,-,-,d,-⟩:=h;exact d.1
def LI.DP(h:LI w L0 H wb ld t):∀k,w.heap.size<=k->H k:=by
 obtain⟨n,pd,ls,-,-,-,-,b,Ad,P,FT,-,-,E⟩:=h;rcases E with⟨sb,ab,ro,L,A,-,-,-,-,-,d,-⟩|⟨-,z,-⟩
 ·exact d.DP
 ·exact z.DP
def LI.ds(h:LI w L0 H wb ld t)(ht:t<=330000):Ag 19 #[A5 wb] w (Aj (.bool true) λw'=>A4 Aa w w'):=by
 obtain⟨n,pd,ls,-,-,-,h4,b,Ad,P,FT,-,-,E⟩:=h;rcases E with⟨sb,ab,ro,L,A,-,-,-,-,-,d,-⟩|⟨-,z,-⟩
 ·exact RG w d iC
 ·exact RG w z iC
end
def Ez(W:gC)(p q:Nat)(lp lq:Int)(t:Nat)(w:gC):Prop:=
 A4 (Up W.heap.size) W w/\∃d h,LI w W.heap.size d p lp t/\LI w W.heap.size h q lq t/\∀k,k<w.heap.size->d k->¬h k
section
variable{W w w':gC}{p q t B:Nat}{lp lq:Int}
def Ez.b6(h:Ez W p q lp lq t w):Ez W q p lq lp t w:=by
 obtain⟨I,O,X,z,L,E⟩:=h;exact⟨I,X,O,L,z,λk d a b=>E k d b a⟩
def Ez.ak(h:Ez W p q lp lq t w)(z:A4 Aa w w'):Ez W p q lp lq t w':=by
 obtain⟨I,X,Y,E,L,O⟩:=h;have hn:=E.DP;refine⟨I.AF z λ_ h _=>h.elim,X,λk=>(k<w.heap.size/\Y k)\/w'.heap.size<=k,E.ak z,?_,λk d a b=>b.elim (λb=>O k b.1 a b.2) λb=>iC⟩;exact L.b7 z (λ_ _ _ h=>h) (λ_ h=>h.elim) (λk d a=>.inl ⟨d,a⟩) (λk d=>.inr d) λk d=>d.elim (λa=>L.cz k a.2) λa=>AO I.Ak (AO z.Ak a)
def Ez.al{h I:Nat->Prop}{z:Nat}(Y:A4 (Up W.heap.size) W w)(h3:LI w W.heap.size I q lq t)(X:∀k,k<w.heap.size->h k->¬I k)(E:A4 h w w')(O:LI w' W.heap.size h p lp z)(ht:t<=z):Ez W p q lp lq z w':=by
 have L:=O.cz;refine⟨Y.AF E λk d _=>L k d,h,λk=>(k<w.heap.size/\I k)\/w'.heap.size<=k,O,?_,λk d a b=>b.elim (λb=>X k b.1 a b.2) λb=>iC⟩;exact(h3.b7 E (λk d a b=>X k d b a) L (λk d a=>.inl ⟨d,a⟩) (λk d=>.inr d) λk d=>d.elim (λa=>h3.cz k a.2) λa=>AO Y.Ak (AO E.Ak a)).cE ht
def Ez.eC(h:Ez W p q lp lq t w)(d:Env B W):Env B w:=d.aj h.1 λ_ z=>AO d.1.1 z
def Ez.aZ(E:FR 330000)(h:Ez W p q lp lq t w)(X a d c3:Int)(tv:gD)(hE:Env B W)(ht:t+3<=329000)(ha:Ay a)(hb:Ay d)(L:Ay c3)(z:Hh W.heap.size W tv):
 Ag 18 #[A5 p,.agg #[A0 X,A0 a,A0 d,A0 c3,tv]] w (Aj (.bool true) λw'=>Ez W p q lp lq (t+1) w'):=by
 have I:=h.eC hE;obtain⟨Y,Hp,Hq,O,h3,h4⟩:=h;have hl:=O.cz;refine(Ya E iF w X a d c3 tv O I (λk hk=>AO hE.1.1 (hl k hk)) iC iC ha hb L ⟨hl,z.aj Y⟩).mono ?_;rintro e w'⟨rfl,hc,hI⟩;exact⟨rfl,Ez.al Y h3 h4 hc hI (EW t)⟩
def Ez.eM(d:FR 330000)(h:Ez W p q lp lq t w)(I:Env B W)(ht:t+3<=329000):∃wc,A7 w p 11 (A0 wc)/\
 Ag 17 #[A5 p,A0 wc,A0 0] w (Aj (.bool true) λw'=>Ez W p q lp lq t w'):=by
 have z:=h.eC I;obtain⟨Y,Hp,Hq,E,h3,X⟩:=h;have hl:=E.cz;obtain⟨n,pd,ls,L⟩:=E;refine⟨n.wc,L.Ae.cX,(P5 d iF w n.wc 0 L iC iC z (λk O=>AO I.1.1 (hl k O)) (by constructor<;>simp)).mono ?_⟩;rintro e w'⟨rfl,hc,hI⟩;exact⟨rfl,Ez.al Y h3 X hc hI (An t)⟩
def Ez.ds(h:Ez W p q lp lq t w)(E:t<=330000):Ag 19 #[A5 p] w (Aj (.bool true) λw'=>Ez W p q lp lq t w'):=by
 have z:=h;obtain⟨h1,Hp,Hq,d,h3,h4⟩:=h;refine(d.ds E).mono ?_;rintro e w'⟨rfl,I⟩;exact⟨rfl,z.ak I⟩
def Xm{z:gC}{b1 b2:Nat}{i1 r1 c1 i2 Y c2 n1 n2:Int}(L:FR 330000)(O:Env B W)(hW:A4 (λ_=>False) W z)(hp:AR z p ⟨lp,i1,r1,c1,.pointer (some ⟨b1,0,none⟩),.pointer none,.slice none 0 0,0,false,false,c1,i1,0,.slice none 0 0,.slice none 0 0,n1⟩)(aD:AU z b1 ⟨[],[],[],GO (DM r1)⟩ (λ_=>([],0)) (One b1))(hq:AR z q ⟨lq,i2,Y,c2,.pointer (some ⟨b2,0,none⟩),.pointer none,.slice none 0 0,0,false,false,c2,i2,0,.slice none 0 0,.slice none 0 0,n2⟩)(aA:AU z b2 ⟨[],[],[],GO (DM Y)⟩ (λ_=>([],0)) (One b2))(h1:W.heap.size<=b1)(h2:b1<p)(h3:p<b2)(h4:b2<q)(aI:Ay c1)(aF:Ay r1)(aE:Ay c2)(aB:Ay Y):
 Calls Tryz.prog 17 #[.pointer (some ⟨p,0,none⟩),.int .i64 i1,.int .i64 0] z λe X=>e=.returned (.bool true)/\A4 (Up b1) z X/\
  ∀E,A4 (λ_=>False) X E->Calls Tryz.prog 17 #[.pointer (some ⟨q,0,none⟩),.int .i64 i2,.int .i64 0] E λe w6=>e=.returned (.bool true)/\Ez W p q lp lq 0 w6:=by
 have hqs:=hq.lt;have hWs:=hW.Ak;refine(Tl (L0:=W.heap.size) (H:=λk=>k=p\/k=b1\/z.heap.size<=k) L z hp aD h2 (.inr (.inl rfl)) (.inl rfl) (λk d=>iC) (λk d=>.inr (.inr d)) (O.aL hW) (λk d=>by have:=O.1.1;omega) aI aF).mono ?_;rintro e X⟨rfl,k4,hI⟩;have aK:A4 (Up W.heap.size) W X:=(hW.aS (S:=Up W.heap.size)).AF k4 λk d _=>hI.cz k d;refine⟨rfl,k4.ah λk _ d=>by unfold Up;omega,λE k5=>?_⟩;have aJ:A4 (Up W.heap.size) W E:=aK.AF k5 λ_ h _=>h.elim;have I:=k4.AF k5 λ_ h _=>h.elim;have hz:=I.Ak;have aG:=hq.Am I (λh=>iC);have aH:AU E b2 ⟨[],[],[],GO (DM Y)⟩ (λ_=>([],0)) (One b2):=aA.aK (I.av (λk d=>by cases d;omega) λk d h=>by cases d;omega);refine(Tl (L0:=W.heap.size) (H:=λk=>k=q\/k=b2\/E.heap.size<=k) L E aG aH h4 (.inr (.inl rfl)) (.inl rfl) (λk d=>iC) (λk d=>.inr (.inr d)) (O.aj aJ λ_ d=>AO O.1.1 d) (λk d=>by have:=O.1.1;omega) aE aB).mono ?_;rintro e w6⟨rfl,k6,hJ⟩;refine⟨rfl,Ez.b6 (Ez.al aJ (hI.ak k5) (λk d a b=>?_) k6 hJ (An 0))⟩;rcases a with a|a|a<;>rcases b with b|b|b<;>omega
end
end
section
open Go.ChangeAt Go.ChangeShapes Go.RowKit Go.WideShapes
def Tryz.fV:Tryz.prog.cellsOf 26=1:=by kernel_rfl
section
variable{H:Type}{enc:TypeId×gD->H}{W:gC}{sp:Nat->Bool}{aA:Nat}
def Xw{c:gD}{x:DataW H×gF MemPlace}(h:DataW.trod enc Tryz.prog W 0 sp true aA 26 [c]=some x):Hh W.heap.size W c:=by
 rcases Deep.open_slice Hw h with⟨I,-⟩|⟨a,len,cap,m,n,E,Pl,I,-,hlc,Y,hm,-,X⟩
 ·obtain rfl:c=.slice none 0 0:=(HZ I).1;exact Hh.bS _ _ ⟨none,0,rfl,iE,λj O=>by simp at O⟩
 ·obtain rfl:c=.slice (some a) len cap:=(HZ I).1;rw[Tryz.dS]at X;by_cases h0:len=0
  ·subst h0;exact⟨[],⟨some a,cap,rfl,iE,λj O=>by simp at O⟩,iE,λad n c x hn e _=>absurd (by cases e;rfl) hn⟩
  ·have key:∀i,i<len->∃k,W.cell? (a.add (i*1))=some (.int .i64 k)/\Ay k:=λi L=>by
    have⟨cs',hc,ht⟩:=X i (by rw[hm];split<;>omega);obtain⟨k,e1,-,w1⟩:=Jo Ia ht;obtain⟨hl,-,z⟩:=World.cells?_some hc;obtain rfl:cs'=[.int .i64 k]:=e1;have:=z 0 iF;exact⟨k,by simpa[Addr.add] using this,Kb w1⟩
   obtain⟨g,o,spot⟩:=a;obtain⟨k0,d,-⟩:=key 0 iC;have aB:spot=none:=by
    cases spot with
    | none=>rfl
    | some s=>
     simp[Addr.add,World.cell?]at d;split at d<;>cases d
   subst aB;have hg:g<W.heap.size:=by
    have:=GV W _ d;simpa[Addr.add] using this
   have ha:∀i,(⟨g,o,none⟩:Addr).add (i*1)=⟨g,o+i,none⟩:=λi=>by
    unfold Addr.add;by_cases h1:i=0<;>simp[h1]
   obtain⟨f,hf⟩:∃f:Nat->Int,∀i,i<len->W.cell? ⟨g,o+i,none⟩=some (.int .i64 (f i))/\Ay (f i):=by
    refine⟨λi=>if L:i<len then (key i L).choose else 0,λi L=>?_⟩;have h2:=(key i L).choose_spec;simp only[L,Q3];exact⟨by rw[<-ha];exact h2.1,h2.2⟩
   (have hl:((List.range len).map f).length=len:=iE);refine⟨(List.range len).map f,⟨some ⟨g,o,none⟩,cap,by rw[hl],by rw[hl];unfold maxLen at Y;omega,λj O=>⟨g,o,rfl,hg,?_⟩⟩,λt ht=>?_,λad n c x _ e1 e2=>by cases e1;cases e2;exact hg⟩
   ·rw[hl]at O;simpa using(hf j O).1
   ·obtain⟨i,L,rfl⟩:=Cn.1 ht;exact(hf i (KT.1 L)).2
def To{cs:gF gD}{x:DataW H×gF MemPlace}(h:DataW.trod enc Tryz.prog W 0 sp true aA 34 cs=some x):
 ∃z a b c tv,cs=[.int .i64 z,.int .i64 a,.int .i64 b,.int .i64 c,tv]/\Ay a/\Ay b/\Ay c/\6<=Rows.uptoBulk x.1/\Hh W.heap.size W tv:=by
 obtain⟨xs,n,rfl,I,L,hx,E⟩:=DataW.trod_struct underlying34 h;rw[Tryz.ev]at L;have hx5:xs.length=5:=hx;have d:6<=Rows.uptoBulk x.1:=by
  have h5:=A3t (xs.map (·.1));rw[Fx]at h5;rw[I];simp only[Rows.uptoBulk];omega
 match cs,L with
 | [c0,c1,c2,c3,c4],_=>
 have f0:DataW.trod enc Tryz.prog W 0 sp true n 3 (([c0,c1,c2,c3,c4].drop 0).take (Tryz.prog.cellsOf 3))=xs[0]?:=E 0 _ rfl;have f1:DataW.trod enc Tryz.prog W 0 sp true n 3 (([c0,c1,c2,c3,c4].drop 1).take (Tryz.prog.cellsOf 3))=xs[1]?:=E 1 _ rfl;have f2:DataW.trod enc Tryz.prog W 0 sp true n 3 (([c0,c1,c2,c3,c4].drop 2).take (Tryz.prog.cellsOf 3))=xs[2]?:=E 2 _ rfl;have f3:DataW.trod enc Tryz.prog W 0 sp true n 3 (([c0,c1,c2,c3,c4].drop 3).take (Tryz.prog.cellsOf 3))=xs[3]?:=E 3 _ rfl;have f4:DataW.trod enc Tryz.prog W 0 sp true n 26 (([c0,c1,c2,c3,c4].drop 4).take (Tryz.prog.cellsOf 26))=xs[4]?:=E 4 _ rfl;rw[Tryz.fV]at f4;rw[Tryz.dS]at f0 f1 f2 f3;rw[Dx iC]at f0 f1 f2 f3 f4;obtain⟨z,O,-,-⟩:=Jo Ia f0;obtain⟨a,e1,-,X⟩:=Jo Ia f1;obtain⟨b,e2,-,w2⟩:=Jo Ia f2;obtain⟨c,e3,-,Y⟩:=Jo Ia f3;obtain rfl:c0=.int .i64 z:=(HZ (show [c0]=[.int .i64 z] from O)).1;obtain rfl:c1=.int .i64 a:=(HZ (show [c1]=[.int .i64 a] from e1)).1;obtain rfl:c2=.int .i64 b:=(HZ (show [c2]=[.int .i64 b] from e2)).1;obtain rfl:c3=.int .i64 c:=(HZ (show [c3]=[.int .i64 c] from e3)).1;exact⟨z,a,b,c,c4,rfl,Kb X,Kb w2,Kb Y,d,Xw f4⟩
def RQ{cs:gF gD}{x:DataW H×gF MemPlace}(h:DataW.trod enc Tryz.prog W 0 sp true aA 23 cs=some x):
 ∃ld wa room A8,cs=[.int .i64 ld,.int .i64 wa,.int .i64 room,.int .i64 A8]/\Ay A8/\Ay room:=by
 obtain⟨xs,n,rfl,-,E,X,z⟩:=DataW.trod_struct underlying23 h;rw[Tryz.fk]at E;have hx4:xs.length=4:=X
 match cs,E with
 | [c0,c1,c2,c3],_=>
 have f0:DataW.trod enc Tryz.prog W 0 sp true n 3 (([c0,c1,c2,c3].drop 0).take (Tryz.prog.cellsOf 3))=xs[0]?:=z 0 _ rfl;have f1:DataW.trod enc Tryz.prog W 0 sp true n 3 (([c0,c1,c2,c3].drop 1).take (Tryz.prog.cellsOf 3))=xs[1]?:=z 1 _ rfl;have f2:DataW.trod enc Tryz.prog W 0 sp true n 3 (([c0,c1,c2,c3].drop 2).take (Tryz.prog.cellsOf 3))=xs[2]?:=z 2 _ rfl;have f3:DataW.trod enc Tryz.prog W 0 sp true n 3 (([c0,c1,c2,c3].drop 3).take (Tryz.prog.cellsOf 3))=xs[3]?:=z 3 _ rfl;rw[Tryz.dS]at f0 f1 f2 f3;rw[Dx iC]at f0 f1 f2 f3;obtain⟨a,I,-,-⟩:=Jo Ia f0;obtain⟨b,Y,-,w1⟩:=Jo Ia f1;obtain⟨c,O,-,w2⟩:=Jo Ia f2;obtain⟨d,e3,-,L⟩:=Jo Ia f3;obtain rfl:c0=.int .i64 a:=(HZ (show [c0]=[.int .i64 a] from I)).1;obtain rfl:c1=.int .i64 b:=(HZ (show [c1]=[.int .i64 b] from Y)).1;obtain rfl:c2=.int .i64 c:=(HZ (show [c2]=[.int .i64 c] from O)).1;obtain rfl:c3=.int .i64 d:=(HZ (show [c3]=[.int .i64 d] from e3)).1;exact⟨a,b,c,d,rfl,Kb L,Kb w2⟩
def YH{v:gD}{d:DataW H}{ps:gF MemPlace}(hv:∃a len cap,v=.slice a len cap)(h:DataW.Trod enc Tryz.prog W 0 (λ_=>true) true 24 v d ps)(hd:Rows.uptoBulk d<=1048576):
 ∃g o n cap,VS W g o n/\n<=180000/\(n≠0->g<W.heap.size)/\(v=.slice (some ⟨g,o,none⟩) n cap\/(n=0/\∃x,v=.slice x 0 cap)):=by
 obtain⟨ad,X,cp,rfl⟩:=hv;obtain⟨aA,h⟩:=h;rcases Deep.open_slice underlying24 h with⟨L,-⟩|⟨a,len,cap,m,n,E,Pl,L,-,hlc,-,hm,hx,aB⟩
 ·simp[Value.cells]at L;obtain⟨rfl,rfl,rfl⟩:=L;exact⟨0,0,0,0,λi O=>absurd O (JX _),iF,λh=>absurd rfl h,.inr ⟨rfl,none,rfl⟩⟩
 ·simp[Value.cells]at L;obtain⟨rfl,rfl,rfl⟩:=L;rw[Tryz.ev]at aB;have aD:X<=180000:=by
   have e:d=.slice ((List.range X).map E) ((List.range (m-X)).map λj=>E (X+j)):=Ex Prod.fst hx;rw[e]at hd;simp only[Rows.uptoBulk]at hd;have:=A3s ((List.range X).map E) λx hx=>by
    obtain⟨i,O,rfl⟩:=Cn.1 hx;have hi':=KT.1 O;have⟨cs',hc,ht⟩:=aB i (by rw[hm];split<;>omega);obtain⟨_,_,_,_,_,-,-,-,-,h6,-⟩:=To ht;exact h6
   simp only[Fx,A4N]at this;omega
  by_cases h0:X=0
  ·subst h0;exact⟨0,0,0,cp,λi O=>absurd O (JX _),iF,λh=>absurd rfl h,.inr ⟨rfl,some a,rfl⟩⟩
  ·have key:∀i,i<X->∃kd x y z tv,Ay x/\Ay y/\Ay z/\W.cell? ((a.add (i*5)).add 0)=some (.int .i64 kd)/\W.cell? ((a.add (i*5)).add 1)=some (.int .i64 x)/\W.cell? ((a.add (i*5)).add 2)=some (.int .i64 y)/\W.cell? ((a.add (i*5)).add 3)=some (.int .i64 z)/\W.cell? ((a.add (i*5)).add 4)=some tv/\Hh W.heap.size W tv:=λi O=>by
    have⟨cs',hc,ht⟩:=aB i (by rw[hm];split<;>omega);obtain⟨-,-,I⟩:=World.cells?_some hc;obtain⟨kd,x,y,z,tv,rfl,ix,iy,iz,-,Y⟩:=To ht;exact⟨kd,x,y,z,tv,ix,iy,iz,I 0 iF,I 1 iF,I 2 iF,I 3 iF,I 4 iF,Y⟩
   obtain⟨g,o,spot⟩:=a;obtain⟨kd,_,_,_,_,-,-,-,k0,-⟩:=key 0 iC;have aE:spot=none:=by
    cases spot with
    | none=>rfl
    | some s=>
     simp[Addr.add,World.cell?]at k0;split at k0<;>cases k0
   subst aE;have hg:g<W.heap.size:=by
    have:=GV W _ k0;simpa[Addr.add] using this
   refine⟨g,o,X,cp,λi O=>?_,aD,λ_=>hg,.inl rfl⟩;have⟨kd,x,y,z,tv,ix,iy,iz,s0,s1,s2,s3,s4,Y⟩:=key i O;have ha:∀j,((⟨g,o,none⟩:Addr).add (i*5)).add j=⟨g,o+i*5+j,none⟩:=λj=>by
    unfold Addr.add;by_cases h1:i*5=0<;>by_cases h2:j=0<;>simp[h1,h2]
   rw[ha]at s0 s1 s2 s3 s4;exact⟨kd,x,y,z,tv,ix,iy,iz,s0,s1,s2,s3,s4,Y⟩
end
end
end Go.Proofs.YtodcnkbblippnaaGreatDoor
