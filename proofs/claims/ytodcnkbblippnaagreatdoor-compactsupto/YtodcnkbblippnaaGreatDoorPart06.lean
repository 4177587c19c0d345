/- Part 6 of a proof: walks of the program. -/
import Derived.Shelf.Strings.BuilderK
import Derived.Shelf.Spec.SearchS
import Derived.Shelf.SlicesE.Clone
import Derived.Test.YtodcnkbblippnaaGreatDoorPart05
namespace Go.Proofs.YtodcnkbblippnaaGreatDoor
set_option maxRecDepth 100000
set_option maxHeartbeats 32000000
set_option linter.defProp false
open Go.Proofs.Tryz
section
open Go.RowKit
attribute [local go_sem ↓] CL
def Bm(p:Pu):Prop:=(0<=p.1/\p.1<8)/\Ay p.2.1/\Ay p.2.2
def Zf(a b:gD Pu):Cp (a++b)=Cp a++Cp b:=by simp[Cp]
def OD(s t v:Int):(Bg s t v).length=17:=by simp[Bg,CP]
def OB(l:gD Pu):(Cp l).length=17*l.length:=by
 induction l with
 | nil=>rfl
 | cons p r ih=>
  have:Cp (p::r)=Bg p.1 p.2.1 p.2.2++Cp r:=rfl;rw[this,B3,ih,OD,CA];omega
def A4.cg{B:Nat}{w w':gx}(h:Below B w w'):A4 (λk=>B<=k) w w':=⟨h.os,h.tape,h.output,h.size,λk _ hn=>h.block k (by omega)⟩
section
variable{w:gx}{b B:Nat}{P:PD}{Ft:Nat->Prop}{a c m:Nat}{n:Int}
def A0i(w:gx)(pv:gy)(l:gD Pu)(h:Bu w b P Ft)(Y:∀k,Ft k->k<w.heap.size)(hF:Fit P a c m)(hl:CT (a+1) (c+1) m)(hn:CK n)(hL:Lets B w)(hp:I2 w pv l)(bB:∀p∈l,Bm p)(hpl:l.length<=134217728):
 Ag 151 #[A5 b,A0 n,pv] w λe w'=>
  ((P.aK n l).1≠0/\e=.returned (.tuple #[.pointer none,A0 (P.aK n l).1])\/(P.aK n l).1=0/\∃d,e=.returned (.tuple #[A5 d,A0 0]))/\Ap w Ft w' (λw' W=>Bu w' b (P.aK n l).2 W):=by
 have aV:=A1 (RG w b hn hL);have aM:Hid (∀w1,A4 Aa w w1->_):=λw1 hc=>QL (AG n) (Cp l) (K3 (AG n)) (AW.aw h Y hc) (λk hk=>Bn (Y k hk) hc.Ak) (by rw[OB];omega) hF hl;obtain⟨X,hX⟩:∃X,P.aK n l=X:=⟨_,rfl⟩;have aX:P.aI (AG n) (AI (AG n)) (Cp l)=X:=hX;rw[hX];rw[aX]at aM;have a2:AG n=BT 2 n:=rfl;rw[<-a2]at aV;generalize hnme:AG n=nm at aV aM;generalize hs0:AI nm=s0 at aV aM;obtain⟨pa,I,rfl,hcap1,aL⟩:=hp.BW;unfold maxLen at aL;have bQ:=A1 hp;have a4:=A1 Y
 go_enter func151,ntmps151
 go_wp2_with (fail);refine aV.o.mono ?_;rintro e w1⟨d,rfl,aG,aO,bH⟩;have a3:=A1 aG;have HC1:=A1 aO;have a0:=A1 bH;have f4:=aG.fz 4;have g4:=aG.c4;have bD:=A1 (aG.s4 (.slice pa l.length I));have a6:Hid (A4 Aa w (w1.setCell (A9 d 4) (.slice pa l.length I))):=aO.bh (p:=(A9 d 4)) (λh=>by have h':d<w.heap.size:=h;omega) _;have HG1:=A1 a3.o.lt;obtain⟨O,aN⟩:∃O,w1.setCell (A9 d 4) (.slice pa l.length I)=O:=⟨_,rfl⟩;have hw2s:w1.heap.size=O.heap.size:=by rw[<-aN];simp
 rw[aN]at bD a6;have aF:Hid (d<O.heap.size):=bD.o.lt;have bI:=A1 (Va O);have bO:=A1 (bD.o.al ((A4.C Aa O).aj (.cells #[.pointer none,.slice none 0 0] 260)) (λh=>h));have bM:Hid (A4 Aa w (O.alloc (.cells #[.pointer none,.slice none 0 0] 260))):=a6.o.aj _;have aJ:Hid (w.heap.size<=O.heap.size):=a6.o.Ak;go_wp2;generalize bC:O.alloc (.cells #[.pointer none,.slice none 0 0] 260)=w3 at bI bO bM ⊢;have aP:Hid (O.heap.size<=w3.heap.size):=by rw[<-bC];show O.heap.size<=_;simp
 generalize O.heap.size=bb at bI aF aJ aP ⊢;go_loopw [22] (λiv wr=>∃k:Nat,iv=A0 k/\k<=l.length/\Hid (Hc bb bb (Cp (l.take k)) wr/\Ca wr d 182 b nm s0 n (.slice pa l.length I)/\A4 Aa w wr/\bb<=wr.heap.size)) (λiv _=>l.length-(intOf iv).toNat)
 ·exact⟨0,rfl,by omega,by simpa[Cp] using bI.o,bO.o,bM.o,aP.o⟩
 ·obtain⟨k,rfl,hk,hI⟩:=hrel;by_cases aE:k<l.length
  ·have⟨i1,i2,i3,i4⟩:=hI.o;obtain⟨g,o,rfl,-,c1,c2,c3⟩:=I2.at bQ.o k aE;have L:=bB _ (BV aE);have aS:l.take (k+1)=l.take k++[l[k]'aE]:=Dq aE;generalize hxe:(l[k]'aE)=x at c1 c2 c3 L aS;obtain⟨x1,x2,x3⟩:=x;dsimp only at c1 c2 c3;have d1:=i3.ah c1;have d2:=i3.ah c2;have d3:=i3.ah c3;obtain⟨⟨aR,aY⟩,ht,hv⟩:=L;dsimp only at aR aY ht hv;have PB:=A1 (λz=>SG z x1 x2 x3 ⟨aR,by omega⟩ ht hv);(have aH:Hid (Cp (l.take (k+1))=Cp (l.take k)++Bg x1 x2 x3):=by unfold Hid;rw[aS,Zf];simp[Cp]);(have aZ:(Cp (l.take k)).length<=17*l.length:=by rw[OB,BK];omega);generalize hpk:Cp (l.take k)=pk at i1 aH aZ;have aW:=OD x1 x2 x3;generalize hpbe:Bg x1 x2 x3=pb at PB aH aW;have a7:=A1 i1;have aK:=A1 i2;have bE:=A1 i3;have aU:=A1 i4;have bP:Hid (∀w6,A4 Aa wr w6->_):=λw6 h6=>NU (t:=pb) w6 (a7.o.al h6 (λ_ h=>h.elim)) (by omega) (AP aU.o h6.Ak);(have a5:(k:Int)<(l.length:Int):=by omega);have hk0:(0:Int)<=(k:Int):=Gu _;go_wp2_with (fail);refine(PB.o _).k ?_;rintro w6 a9;have aT:Hid (A4 Aa wr w6):=((A4.C Aa wr).aj _).tr a9;have a8:=A1 (bP.o w6 aT.o);go_wp2_with (go_at_call 194;refine a8.k ?_;rintro w7⟨bF,bG⟩;have a1:=A1 bF;have aQ:=A1 bG);go_roundw
   ·have c7:A4 (λk=>bb<=k) w6 w7:=A4.cg aQ.o;refine⟨k+1,by go_num,by omega,by rw[aH.o];exact a1.o,(aK.o.al aT.o (λh=>h)).al c7 (λh=>by have:=aF.o;omega),?_,?_⟩
    ·exact(bE.o.tr aT.o).AH c7 λx L Y=>by have:=aJ.o;omega
    ·exact AP aU.o (AP aT.o.Ak aQ.o.size)
   ·simp[intOf];omega
  ·have⟨i1,i2,i3,i4⟩:=hI.o;(obtain rfl:k=l.length:=by omega);rw[C5]at i1;have a7:=A1 i1;have aK:=A1 i2;have bE:=A1 i3;have aU:=A1 i4;have bL:=A1 (A3r wr.drew (a7.o.al ((A4.C Aa _).aa) (λ_ h=>h.elim)) aU.o);(have a5:¬((l.length:Int)<(l.length:Int)):=by omega);have aB:Hid (∀z,Below bb wr.drew z->(A8 z d 0 (A5 b)/\A8 z d 1 (.string ⟨nm.toArray⟩)/\A8 z d 2 (.int .u32 s0))/\A4 Aa w z):=λz L=>by
    have cx:A4 (λk=>bb<=k) wr.drew z:=A4.cg L;have fx:=aK.o.aa.al cx (λh=>by have:=aF.o;omega);exact⟨⟨fx.c0,fx.c1,fx.c2⟩,bE.o.aa.AH cx λx L Y=>by have:=aJ.o;omega⟩
   have e0:=aK.o.aa.c0;have e1:=aK.o.aa.c1;have e2:=aK.o.aa.c2;obtain⟨bJ,bK⟩:=X;dsimp only at aM;have bN:Hid (∀z,Below bb wr.drew z->∀wy,Ap z Ft wy (λw' W=>Bu w' b bK W)->(A8 wy d 0 (A5 b)/\A8 wy d 1 (.string ⟨nm.toArray⟩)/\A8 wy d 2 (.int .u32 s0))/\Ap w Ft wy (λw' W=>Bu w' b bK W)):=λz L wy hy=>by
    have cx:A4 (λk=>bb<=k) wr.drew z:=A4.cg L;have fx:=(aK.o.aa.al cx (λh=>by have:=aF.o;omega)).al hy.1 (λh=>by have:=a4.o _ h;have:=a0.o;omega);exact⟨⟨fx.c0,fx.c1,fx.c2⟩,hy.a1 (aB.o z L).2⟩
   by_cases L:bJ=0
   case neg=>
    (have hxb:(bJ !=0)=true:=by simpa using L);go_wp2;refine Br (λw'=>A8 w' d 0 (A5 b)/\A8 w' d 1 (.string ⟨nm.toArray⟩)/\A8 w' d 2 (.int .u32 s0)) 6
     (Ba [0,1,2,3,4,5] [4,5]) ⟨e0,e1,e2⟩ ?_
    iterate 4 refine B4 ?_
    refine Bf λK hK=>?_;go_simp;refine bL.k ?_;rintro w9 E;refine hK _ _ (aB.o w9 E).1 (λhS=>?_);have aI:=A1 (aM.o w9 (aB.o w9 E).2);have aA:=A1 (bN.o w9 E);refine Bf λK hK=>?_;go_simp;refine aI.k ?_;rintro aD hI;refine hK _ _ (aA.o aD hI).1 (λhS=>?_);have bA:=A1 (aA.o aD hI).2;refine Bo ?_;go_wp2;go_ret2;exact⟨rfl,bA.o⟩
   case pos=>
    subst L;go_wp2;refine Br (λw'=>A8 w' d 0 (A5 b)/\A8 w' d 1 (.string ⟨nm.toArray⟩)/\A8 w' d 2 (.int .u32 s0)) 6
     (Ba [0,1,2,3,4,5] [4,5]) ⟨e0,e1,e2⟩ ?_
    iterate 4 refine B4 ?_
    refine Bf λK hK=>?_;go_simp;refine bL.k ?_;rintro w9 E;refine hK _ _ (aB.o w9 E).1 (λhS=>?_);have aI:=A1 (aM.o w9 (aB.o w9 E).2);have aA:=A1 (bN.o w9 E);refine Bf λK hK=>?_;go_simp;refine aI.k ?_;rintro aD hI;refine hK _ _ (aA.o aD hI).1 (λhS=>?_);have bA:=A1 (aA.o aD hI).2;refine Bo ?_;go_wp2;go_ret2;exact⟨⟨_,rfl⟩,bA.o⟩
end
def Sm{P:PD}{a c m:Nat}(h:Fit P a c m)(nm:Bs):(P.aZ nm).1.length<=m:=by
 have h1:=LL h nm;unfold PD.aZ;split
 ·simp
 ·split
  ·rename_i d z;unfold Ic at z;split at z
   ·cases z
   ·split at z
    ·cases z;simp only[BK];omega
    ·cases z
  ·simp
def U6:∀(k:Nat) (l:Bs),(GF k l).length*8<=l.length
 | 0,l=>by simp[GF]
 | k+1,l=>by
  unfold GF;split
  ·simp
  ·have:=U6 k (l.drop 8);simp only[CA,Cz]at this ⊢;omega
def A4.bJ{S:Nat->Prop}{w w':gx}(h:A4 S w w'){p:Addr}{v:gy}(d:w.cell? p=some v)(E:¬S p.block):w'.cell? p=some v:=by
 have z:=GO w _ d;have:=h.Al p.block z E;unfold World.cell? at d ⊢;rw[this];exact d
def Dg.fv{w:gx}{g o n cap:Nat}{l:gD Int}(h:Dg w (.slice (some (A9 g o)) n cap) l)(X:0<l.length)(a':Option Addr)(Y:1<l.length->a'=some (A9 g (o+1)))(L:∀x,a'=some x->x.block=g):Dg w (.slice a' (n-1) (cap-1)) l.tail:=by
 obtain⟨h1,a,c,e,h2,h3,O,W⟩:=h;cases e;have E:l.tail.length=l.length-1:=List.length_tail;refine⟨by rw[U8];omega,a',cap-1,by rw[E],by omega,by omega,λx z=>?_,λj u hj=>?_⟩
 ·unfold Value.ownBlock at z;cases a' with
  | none=>simp at z
  | some y=>
   simp only at z;have:=L y rfl;cases z;rw[this];exact O g rfl
 ·have d:(E8 l)[j+1]?=some u:=by
   cases l with
   | nil=>simp at X
   | cons x r=>simpa[E8] using hj
  have⟨g',o',e,hc⟩:=W _ _ d;cases e;have I:j+1<(E8 l).length:=(I6.1 d).1;rw[U8]at I;exact⟨g,o+1,Y (by omega),by rw[show o+1+j=o+(j+1) by omega];exact hc⟩
section
variable{w:gx}{b B:Nat}{P:PD}{Ft:Nat->Prop}{a c m:Nat}{n:Int}
def Zc(w:gx)(h:Bu w b P Ft)(aJ:∀k,Ft k->k<w.heap.size)(hF:Fit P a c m)(hl:CT a c m)(hL:Lets B w):
 Ag 96 #[A5 b] w λe w'=>
  (P.bb=none/\e=.returned (.tuple #[.pointer none,A0 7])/\A4 Aa w w')\/
  ∃ix xb v,P.bb=some ix/\e=.returned (.tuple #[A5 xb,A0 0])/\Ca w' xb 162 b AJ (AI AJ) ix.Bd v/\Dg w' v ix.sd/\(∀g,v.ownBlock=some g->xb<g)/\w.heap.size<=xb/\A4 Aa w w':=by
 have a8:=A1 (Px w b 3 (by omega) (HR (n:=0) (by omega) (by omega)) hL);have aZ:Hid (∀w1,A4 Aa w w1->_):=λw1 hc=>Sv AJ (AW.aw h aJ hc) (λk hk=>Bn (aJ k hk) hc.Ak) hF hl;have aF:(P.aZ AJ).1.length<=4294967296:=AP (Sm hF AJ) hl.m;obtain⟨X,hX⟩:∃X,P.bb=X:=⟨_,rfl⟩;have bA:Hid (indexOf (P.aZ AJ)=X):=hX;rw[hX];have bF:BT 3 0=AJ:=rfl;rw[show ((3:Nat):Int)=3 from rfl,bF]at a8;generalize hnme:AJ=nm at a8 aZ bA aF ⊢;generalize hs0:AI nm=s0 at a8 aZ ⊢;obtain⟨⟨O,de⟩,bO⟩:∃x,P.aZ nm=x:=⟨_,rfl⟩;rw[bO]at aZ bA aF;dsimp only at aZ aF
 go_enter func96,ntmps96
 go_wp2_with (fail);refine a8.k ?_;rintro w1 a5;have aG:Ca (w1.aC #[A5 b,.string ⟨nm.toArray⟩,.int .u32 s0,A0 1,.slice none 0 0] 162) w1.heap.size 162 b nm s0 1 (.slice none 0 0):=Bl w1 _;have bU:Hid (A4 Aa w (w1.aC #[A5 b,.string ⟨nm.toArray⟩,.int .u32 s0,A0 1,.slice none 0 0] 162)):=a5.aj _;have aP:Hid (w.heap.size<=w1.heap.size):=a5.Ak;have bK:=A1 (aZ.o _ bU.o);have bG:=A1 aG;have g0:=aG.c0;have g1:=aG.c1;have g2:=aG.c2;go_wp2_with (fail);refine bK.k ?_;rintro w2 aT;have aO:=A1 (bG.o.al aT (λh=>h));have aU:Hid (A4 Aa w w2):=bU.o.tr aT;have aI:Hid (w1.heap.size<w2.heap.size):=aO.o.lt;generalize w1.heap.size=xb at *;by_cases h8:de=8
 case pos=>
  subst h8;have z:Hid (X=some ⟨1,[]⟩):=by unfold Hid;rw[<-bA.o];unfold indexOf;rw[Ai rfl]
  go_wp2;go_ret2;exact .inr ⟨⟨1,[]⟩,xb,_,z.o,rfl,aO.o,DF.bU,λg hg=>by simp[Value.ownBlock]at hg,aP.o,aU.o⟩
 case neg=>
 have h8b:(de==8)=false:=by simpa using h8
 have aS:=A1 (A1d w2 O aF);have aY:Hid ((EM O).length*8<=O.length):=U6 _ _
 have aM:Hid ((if de≠0\/EM O=[]\/O.length≠(EM O).length*8 then none else
  if (EM O).all isNum=false then none else
  if CG Cr (EM O).tail then some ⟨(EM O).headD 0,(EM O).tail⟩ else none)=X):=by
  rw[<-bA.o];unfold indexOf;rw[Af h8];rfl
 generalize hns:EM O=ns at aS aY aM;go_wp2_with (fail);refine aS.m ?_;rintro e w3⟨v,rfl,hv,bQ,aK⟩;have aE:=A1 (aO.o.al aK (λh=>h));have aB:Hid (A4 Aa w w3):=aU.o.tr aK;obtain⟨ap,cp,rfl,hcap1,aQ,bC,-⟩:=B8 hv;unfold maxLen at aQ;have bT:=A1 hv;have bH:Hid (∀g,(Value.slice ap ns.length cp).ownBlock=some g->w2.heap.size<=g):=bQ;have HW3:=A1 aK.Ak;by_cases E:de≠0\/ns=[]\/O.length≠ns.length*8
 case pos=>
  have z:Hid (X=none):=by unfold Hid;rw[<-aM.o,Ai E]
  by_cases Y:de=0
  ·subst Y;by_cases aD:ns=[]
   ·subst aD;go_wp2;go_ret2;exact .inl ⟨z.o,rfl,aB.o⟩
   ·have bB:((ns.length:Int)==0)=false:=by
     have:ns.length≠0:=λe=>aD (Hp.1 e);simp;omega
    have hd:((O.length:Int)!=wrap64 ((ns.length:Int)*8))=true:=by
     (have:O.length≠ns.length*8:=by rcases E with h|h|h;exact absurd rfl h;exact absurd h aD;exact h);have:=aY.o;(have ew:wrap64 ((ns.length:Int)*8)=(ns.length:Int)*8:=by unfold wrap64;omega);rw[ew];simp;omega
    go_wp2;go_ret2;exact .inl ⟨z.o,rfl,aB.o⟩
  ·(have hb:(de !=0)=true:=by simpa using Y);go_wp2;go_ret2;exact .inl ⟨z.o,rfl,aB.o⟩
 case neg=>
  have hz:de=0/\ns≠[]/\O.length=ns.length*8:=⟨A4R λh=>E (.inl h),λh=>E (.inr (.inl h)),A4R λh=>E (.inr (.inr h))⟩;obtain⟨rfl,aD,hd0⟩:=hz;have aX:Hid ((if ns.all isNum=false then none else if CG Cr ns.tail then some ⟨ns.headD 0,ns.tail⟩ else none)=X):=by rw[<-aM.o,Af E];rfl
  have I:0<ns.length:=J9.2 aD;have bB:((ns.length:Int)==0)=false:=by simp;omega
  have hd:((O.length:Int)!=wrap64 ((ns.length:Int)*8))=false:=by
   (have ew:wrap64 ((ns.length:Int)*8)=(ns.length:Int)*8:=by unfold wrap64;omega);rw[ew];simp;omega
  obtain⟨g,rfl⟩:=bC I;have bM:Hid (ns.length<=1099511627776):=by unfold Hid;omega
  go_wp2;go_loopw [44] (λiv wr=>∃k:Nat,iv=A0 k/\k<=ns.length/\wr=w3/\Hid ((ns.take k).all isNum=true)) (λiv _=>ns.length-(intOf iv).toNat)
  ·exact⟨0,rfl,by omega,rfl,by unfold Hid;rfl⟩
  ·obtain⟨k,rfl,hk,rfl,hI⟩:=hrel;by_cases W:k<ns.length
   ·have d:A8 wr g k (A0 (ns[k]'W)):=Bv bT.o rfl (Pe ns k W);have a2:ns.take (k+1)=ns.take k++[ns[k]'W]:=Dq W;have aH:(ns[k]'W)∈ns:=BV W;generalize L:(ns[k]'W)=x at d a2 aH;have a9:=A1 (U4 wr x);(have bI:(k:Int)<(ns.length:Int):=by omega);have hk0:=BJ k;have bE:=A1 a2;have aW:=A1 aH;by_cases hn:isNum x=true
    ·(have bN:Hid ((ns.take (k+1)).all isNum=true):=by unfold Hid;rw[bE.o,List.all_append,hI.o];simp[hn]);rw[hn]at a9;go_wp2_with (go_at_call 128;refine a9.k ?_;rintro w4 rfl);go_roundw
     ·exact⟨k+1,by go_num,by omega,trivial,bN.o⟩
     ·simp[intOf];omega
    ·(have bJ:isNum x=false:=by simpa using hn);have z:Hid (X=none):=by
      unfold Hid;rw[<-aX.o,Ai];have:¬ns.all isNum=true:=λh=>hn (NK.1 h x aW.o);simpa using this
     rw[bJ]at a9;go_wp2_with (go_at_call 128;refine a9.k ?_;rintro w4 rfl);go_ret2;exact .inl ⟨z.o,rfl,aB.o⟩
   ·(obtain rfl:k=ns.length:=by omega);(have hall:ns.all isNum=true:=by have:=hI.o;rwa [C5]at this);(have aL:Hid ((if CG Cr ns.tail then some (Ix.mk (ns.headD 0) ns.tail) else none)=X):=by have:=aX.o;rwa [Af (by simp[hall])]at this);have d:A8 wr.drew g 0 (A0 (ns.headD 0)):=by
     have Y:=Pe ns 0 I;have:(ns[0]'I)=ns.headD 0:=by cases ns with
      | nil=>simp at I
      | cons x r=>rfl
     rw[this]at Y;exact Bv bT.o rfl Y
    (have bI:¬((ns.length:Int)<(ns.length:Int)):=by omega);have f3:=aE.o.aa.fz 3;have f4:=aE.o.aa.fz 4;have g3:=aE.o.aa.c3;have g4:=aE.o.aa.c4;generalize hh0:ns.headD 0=Y at d aL;(have hn1:(1:Int)<=(ns.length:Int):=by omega);obtain⟨a',aR⟩:∃a':Option Addr,(if cp=1 then some ((A9 g 0):Addr) else some (A9 g 1))=a':=⟨_,rfl⟩;have bW:=A1 (Dg.fv (DT.rd bT.o) I a' (λh=>by rw[<-aR,Af (by omega)]) (λx L=>by rw[<-aR]at L;split at L<;>cases L<;>rfl));(have bS:∀x,a'=some x->x.block=g:=λx L=>by rw[<-aR]at L;split at L<;>cases L<;>rfl);have bD:∀g',(Value.slice a' (ns.length-1) (cp-1)).ownBlock=some g'->g'=g:=λg' hg=>by
     unfold Value.ownBlock at hg;cases L:a' with
     | none=>rw[L]at hg;simp at hg
     | some y=>rw[L]at hg;have:=bS y L;simp at hg;omega
    have aV:=A1 bD;have aN:Hid (w2.heap.size<=g):=bH.o g rfl;have bR:Ca (wr.setCell (A9 xb 3) (A0 Y)).drew xb 162 b nm s0 Y (.slice none 0 0):=(aE.o.s3 Y).aa;have k9:A4 (One xb) wr (wr.setCell (A9 xb 3) (A0 Y)).drew:=((A4.C (One xb) wr).ao (b:=xb) rfl 3 _).aa;have aA:(wr.setCell (A9 xb 3) (A0 Y)).drew.cell? (A9 g 0)=some (A0 Y):=k9.bJ d (λh=>by have h':g=xb:=h;have:=aN.o;have:=aI.o;omega);have a7:=A1 bR;have bV:=A1 k9;go_wp2;refine Br (λw'=>A8 w' g 0 (A0 Y)) 10
     (Ba [0,1,2,3,4,5,6,7,8,9] [9]) d ?_
    iterate 9 refine B4 ?_
    refine Bf λK hK=>?_;go_simp;refine hK _ _ aA (λhS=>?_);refine Bo ?_;generalize (wr.setCell (A9 xb 3) (A0 Y)).drew=w9 at a7 bV aA ⊢;have f94:=a7.o.fz 4;have g94:=a7.o.c4;have a3:=A1 (a7.o.s4 (.slice a' (ns.length-1) (cp-1)));have c104:=a3.o.c4;have a1:A4 (One xb) wr (w9.setCell (A9 xb 4) (.slice a' (ns.length-1) (cp-1))):=bV.o.ao rfl 4 _;(have a0:Hid (A4 Aa w (w9.setCell (A9 xb 4) (.slice a' (ns.length-1) (cp-1)))):=aB.o.AH a1 λx L aJ=>by have bL:x=xb:=L;have:=aP.o;omega);have a4:Hid (Dg (w9.setCell (A9 xb 4) (.slice a' (ns.length-1) (cp-1))) (.slice a' (ns.length-1) (cp-1)) ns.tail):=DF.Am bW.o a1 λg' hg L=>by
     have bL:g'=xb:=L;have:=aV.o g' hg;have:=aN.o;have:=aI.o;omega
    have a6:=A1 (YH _ _ _ a4.o (by rw[List.length_tail];have:=bM.o;omega));by_cases hr:CG Cr ns.tail=true
    ·rw[hr]at a6;(have z:Hid (X=some ⟨Y,ns.tail⟩):=by unfold Hid;rw[<-aL.o,Ai hr]);go_wp2_with (go_at_call 129;refine a6.k ?_;rintro w5⟨nn,rfl⟩);go_ret2;have kk:=(A4.C Aa (w9.setCell (A9 xb 4) (.slice a' (ns.length-1) (cp-1)))).a7 nn;exact .inr ⟨_,xb,_,z.o,rfl,a3.o.al kk (λh=>h),DF.Am a4.o kk (λ_ _ h=>h),λg' hg=>by have:=aV.o g' hg;have:=aN.o;have:=aI.o;omega,aP.o,a0.o.tr kk⟩
    ·(have bP:CG Cr ns.tail=false:=by simpa using hr);rw[bP]at a6;(have z:Hid (X=none):=by unfold Hid;rw[<-aL.o,Af hr]);go_wp2_with (go_at_call 129;refine a6.k ?_;rintro w5⟨nn,rfl⟩);go_ret2;exact .inl ⟨z.o,rfl,a0.o.a7 nn⟩
end
def A3q{B b:Nat}{l:gD UInt8}(w:gx)(h:Hc B b l w)(d:B<=w.heap.size):
 Calls Tryz.prog 197 #[.pointer (some ⟨b,0,none⟩)] w λe w'=>e=.returned (.string ⟨l.toArray⟩)/\Below B w w'/\∀k o,w.heap[k]?=some o->k≠b->(∀c fz,o≠.cells c 5 fz)->w'.heap[k]?=some o:=by
 refine(Any.Builder_String_any_k Tryz.lays169 Tryz.Builder_Extra_169 B b l w (h.imp Lib.BuilderAtF.of Lib.BuilderAtF.of) d).mono ?_;rintro e w'⟨L,_,z,W⟩;exact⟨L,z,λk o I E O=>W k o I (λe=>E (by simpa using e)) O⟩
def Bi.s1{w:gx}{d:Nat}{T:TypeId}{p:gy}{z:gC}{s:Nat}(h:Bi w d T p z s)(nm:gC):Bi (w.setCell (A9 d 1) (.string nm)) d T p nm s:=BQ h
def A4.fy{Ft:Nat->Prop}{x:Nat}{w d z:gx}(h:A4 Ft w d)(k:A4 (One x) d z):A4 (λk=>Ft k\/k=x) w z:=
 (h.ai λ_ _ h=>.inl h).AH k λ_ h _=>.inr h
def Bi.aa{w:gx}{z:Nat}{T:TypeId}{p:gy}{d:gC}{s:Nat}(h:Bi w z T p d s):Bi w.drew z T p d s:=by unfold Bi at h ⊢;exact h
section
variable{w:gx}{b B xb:Nat}{P:PD}{Ft:Nat->Prop}{a c m:Nat}{n:Int}
def YM(h:Bu w b P Ft)(oe nm:gC)(E:Fit P a c m)(z:CT a c m):
 Ag 242 #[A5 b,.string oe,.string nm] w (Aj (A0 (P.aR oe nm).1) λw'=>Ap w Ft w' (λw' d=>Bu w' b (P.aR oe nm).2 d)):=
 YL h oe nm (by have:=E.A6;have:=E.Am;have:=z.a;have:=z.c;omega)
def Po(d:Int)(sd:gD Int):(Cn d sd).length=8+8*sd.length:=by
 unfold Cn;rw[B3,CP]
 congr 1
 induction sd with
 | nil=>rfl
 | cons x r ih=>simp only[M6,B3,ih,CP,CA];omega
def Fit.aI{P:PD}{a c m:Nat}(h:Fit P a c m)(nm:Bs)(s:Nat)(l:Bs):Fit (P.aI nm s l).2 (a+1) (c+1) (m+l.length+4):=by
 have z:=h.au (Ab nm);have E:(AT s l).length=l.length+4:=by simp[AT,HQ]
 have d:=z.av (Ab nm) (AT s l);rw[E]at d;unfold PD.aI;split
 ·exact z.ai (Ao _) (Ao _) (by omega)
 ·split
  ·exact d.ai (Ao _) (Ao _) (by omega)
  ·exact(d.ad (Ab nm)).ai (Ao _) (Ao _) (by omega)
def Fit.ez{P:PD}{a c m:Nat}(h:Fit P a c m)(d:Int)(sd:gD Int):Fit (P.an d sd).2 (a+2) (c+2) (m+12+8*sd.length):=by
 have z:=h.aI Bw (AI AJ) (Cn d sd);rw[Po]at z;unfold PD.an;split
 ·exact z.ai (by omega) (by omega) (by omega)
 ·exact(z.aR (Ab Bw) (Ab AJ)).ai (by omega) (by omega) (by omega)
def X4(w:gx)(d f0:Int)(sv v0:gy)(sd:gD Int)(hX:Ca w xb 162 b AJ (AI AJ) f0 v0)(h:Bu w b P Ft)(I:∀k,Ft k->k<w.heap.size)(hn:¬Ft xb)(hF:Fit P a c m)(hl:CT (a+2) (c+2) (m+12+8*sd.length))(hL:Lets B w)(hs:Dg w sv sd)(hf:Ay d)(bL:∀x∈sd,Ay x)(hsl:sd.length<=134217728):
 Ag 200 #[A5 xb,A0 d,sv] w λe w'=>
  e=.returned (A0 (P.an d sd).1)/\Ca w' xb 162 b AJ (AI AJ) (if (P.an d sd).1=0 then d else f0) (if (P.an d sd).1=0 then sv else v0)/\JU w Ft xb w' b (P.an d sd).2:=by
 have aE:=hX.lt;have bE:BT 4 0=Bw:=rfl;have b6:Hid (∀X,A4 Aa w X->Ag 134 #[A0 4,A0 0] X (Aj (.string ⟨Bw.toArray⟩) λw'=>A4 Aa X w')):=λX hc=>by
  have:=MO (n:=0) X 4 (by omega) (by omega) (by decide +kernel) (hL.aL hc);rw[show ((4:Nat):Int)=4 from rfl,bE]at this;exact this
 have hi:=Po d sd;have bG:CT (a+1) (c+1) m:=⟨by have:=hl.a;omega,by have:=hl.c;omega,by have:=hl.m;omega⟩;have aO:Hid (∀X,A4 Aa w X->_):=λX hc=>QL Bw (Cn d sd) (K3 AJ) (AW.aw h I hc) (λk hk=>Bn (I k hk) hc.Ak) (by rw[hi];omega) hF bG;have aV:Hid (∀X L,Bu X b (P.aI Bw (AI AJ) (Cn d sd)).2 L->_):=λX L h1=>YM h1 (Ab Bw) (Ab AJ) (hF.aI _ _ _) ⟨by have:=hl.a;omega,by have:=hl.c;omega,by rw[hi];have:=hl.m;omega⟩;have aN:Hid (P.an d sd=if (P.aI Bw (AI AJ) (Cn d sd)).1≠0 then P.aI Bw (AI AJ) (Cn d sd) else (P.aI Bw (AI AJ) (Cn d sd)).2.aR (Ab Bw) (Ab AJ)):=rfl;obtain⟨R,hR⟩:∃R,P.an d sd=R:=⟨_,rfl⟩;rw[hR]at aN ⊢;have cS:Hid (∀wx x,Ay x->_):=λwx x E=>Lw wx x E;have aB:Cn d sd=AQ d++sd.flatMap AQ:=rfl;obtain⟨dn,bB⟩:∃dn,Bw=dn:=⟨_,rfl⟩;obtain⟨nm,aY⟩:∃nm,AJ=nm:=⟨_,rfl⟩;rw[aY]at hX aO aV aN ⊢;rw[bB]at b6 aO aV aN;obtain⟨s0,bM⟩:∃s0,AI nm=s0:=⟨_,rfl⟩;rw[bM]at hX aO aV aN ⊢;obtain⟨W,hW⟩:∃W,P.aI dn s0 (Cn d sd)=W:=⟨_,rfl⟩;rw[hW]at aO aV aN;obtain⟨Q,hQ⟩:∃Q,W.2.aR (Ab dn) (Ab nm)=Q:=⟨_,rfl⟩;rw[hQ]at aV aN;obtain⟨il,b1⟩:∃il,Cn d sd=il:=⟨_,rfl⟩;rw[b1]at aO aB hi;have bK:=A1 aB;have dG:=A1 hi;obtain⟨pa,aA,rfl,hcap1,a6⟩:=hs.BW;unfold maxLen at a6;have dF:=A1 hs;have bI:=A1 I;have cE:=A1 hn;have cX:=A1 hX;have HFI:=A1 hf;have cG:=A1 bL;have bA:=A1 aE;have cZ:=A1 (Va w);have cV:Hid (A4 Aa w (w.aC #[.pointer none,.slice none 0 0] 260)):=(A4.C _ w).aj _;have bU:=A1 (cS.o (w.aC #[.pointer none,.slice none 0 0] 260) d hf);clear hR bE aB aY bB bM hW hQ b1 hi bG h I hn hF hl hL hs hX hf bL aE
 go_enter func200,ntmps200
 go_wp2_with (fail);refine bU.k ?_;rintro X aU;have bD:Hid (Hc w.heap.size w.heap.size [] X):=cZ.o.al aU (λ_ h=>h.elim);have cD:Hid (A4 Aa w X):=cV.o.tr aU;have cP:Hid (w.heap.size<X.heap.size):=Bn (by simp) aU.Ak;have bF:=A1 (NU (t:=AQ d) X bD.o (by rw[CP];simp) cD.o.Ak);clear aU bU cZ cV;go_wp2_with (fail);refine bF.k ?_;rintro w2⟨aJ,a0⟩;have bR:Hid (Hc w.heap.size w.heap.size (AQ d) w2):=aJ;have dH:Hid (A4 Aa w w2):=cD.o.AH (A4.cg a0) λx E I=>by omega
 have cY:Hid (w.heap.size<w2.heap.size):=Bn cP.o a0.size;clear aJ a0 bF bD cD cP;go_wp2;obtain⟨bb,aZ⟩:∃bb,w.heap.size=bb:=⟨_,rfl⟩;rw[aZ]at bR cY ⊢;have bX:=A1 aZ;clear aZ;go_loopw [18] (λiv wr=>∃k:Nat,iv=A0 k/\k<=sd.length/\Hid (Hc bb bb (AQ d++(sd.take k).flatMap AQ) wr/\A4 Aa w wr/\bb<wr.heap.size)) (λiv _=>sd.length-(intOf iv).toNat)
 ·exact⟨0,rfl,by omega,by simpa using bR.o,dH.o,cY.o⟩
 ·obtain⟨k,rfl,hk,Y⟩:=hrel;by_cases aK:k<sd.length
  ·have⟨i1,i2,i3⟩:=Y.o;obtain⟨g,o,rfl,c1⟩:=Dg.at dF.o k aK;have E:=cG.o _ (BV aK);have a2:sd.take (k+1)=sd.take k++[sd[k]'aK]:=Dq aK;obtain⟨x,bJ⟩:∃x,(sd[k]'aK)=x:=⟨_,rfl⟩;rw[bJ]at c1 E a2;have d1:=i2.ah c1;have a4:=A1 (cS.o wr x E);(have a9:Hid ((sd.take (k+1)).flatMap AQ=(sd.take k).flatMap AQ++AQ x):=by unfold Hid;rw[a2];simp);have bC:(AQ d++(sd.take k).flatMap AQ).length<=8+8*sd.length:=by
    have:=Po d (sd.take k);unfold Cn at this;rw[this,BK];omega
   obtain⟨pk,a5⟩:∃pk,AQ d++(sd.take k).flatMap AQ=pk:=⟨_,rfl⟩;(have aX:Hid (AQ d++(sd.take (k+1)).flatMap AQ=pk++AQ x):=by unfold Hid;rw[a9.o,<-Ci,a5]);rw[a5]at i1 bC;have aE:=CP x;obtain⟨ib,aB⟩:∃ib,AQ x=ib:=⟨_,rfl⟩;rw[aB]at a4 aX aE;have cA:=A1 i1;have bY:=A1 i2;have bQ:=A1 i3;have cM:Hid (∀w6,A4 Aa wr w6->_):=λw6 h6=>NU (t:=ib) w6 (cA.o.al h6 (λ_ h=>h.elim)) (by omega) (AP (Fm bQ.o) h6.Ak);(have b9:(k:Int)<(sd.length:Int):=by omega);have hk0:=BJ k;clear i1 i2 i3 Y c1 bJ a2 a5 aB E bC aE a9;go_wp2_with (fail);refine a4.k ?_;rintro w6 a1;have cQ:=A1 a1;have cB:=A1 (cM.o w6 a1);clear a1 a4 cM;go_wp2_with (go_at_call 194;refine cB.k ?_;rintro w7⟨aJ,b2⟩;have b8:=A1 aJ;have bS:=A1 b2;clear aJ b2);go_roundw
   ·have c7:A4 (λk=>bb<=k) w6 w7:=A4.cg bS.o;refine⟨k+1,by go_num,by omega,by rw[aX.o];exact b8.o,?_,?_⟩
    ·exact(bY.o.tr cQ.o).AH c7 λx E I=>by have:=bX.o;omega
    ·exact Bn bQ.o (AP cQ.o.Ak bS.o.size)
   ·simp[intOf];omega
  ·have⟨i1,i2,i3⟩:=Y.o;(obtain rfl:k=sd.length:=by omega);rw[C5,<-bK.o]at i1;(have b9:¬((sd.length:Int)<(sd.length:Int)):=by omega);have fx:=cX.o.al i2 (λh=>h);have g0:=fx.c0;have g1:=fx.c1;have g2:=fx.c2;have bV:Bi (wr.aC #[A5 b,.string (Ab nm),.int .u32 s0] 160) wr.heap.size 160 (A5 b) (Ab nm) s0:=Bl wr _;have ka:A4 Aa wr (wr.aC #[A5 b,.string (Ab nm),.int .u32 s0] 160):=(A4.C _ wr).aj _;have bN:=A1 (b6.o _ (i2.tr ka));have cU:=A1 ka;have cO:=A1 bV;have cA:=A1 i1;have bY:=A1 i2;have bQ:=A1 i3;have FX:=A1 fx;clear i1 i2 i3 ka bV b6 Y fx;go_wp2_with (fail);refine bN.k ?_;rintro w5 a3;have aT:=cO.o.al a3 (λh=>h);have cT:A4 Aa wr w5:=cU.o.tr a3;have b7:=aT.c1;have bZ:=aT.fz 1;have aH:=A1 (aT.s1 ⟨dn.toArray⟩);have b5:Hid (A4 Aa wr (w5.setCell (A9 wr.heap.size 1) (.string ⟨dn.toArray⟩))):=cT.bh (p:=(A9 wr.heap.size 1)) (λh=>by have h':wr.heap.size<wr.heap.size:=h;omega) _;clear a3 aT cT bN cO cU;generalize bH:wr.heap.size=db at *;have aQ:=A1 bH;clear bH;go_wp2;generalize w5.setCell (A9 db 1) (.string ⟨dn.toArray⟩)=w6 at aH b5 ⊢;have cJ:Hid (Hc bb bb il w6.drew):=cA.o.al b5.o.aa (λ_ h=>h.elim);have b4:=A1 (A3q w6.drew cJ.o (by have:=bQ.o;have:=aQ.o;have:=b5.o.Ak;show bb<=w6.heap.size;omega));have aS:Hid (∀wx,Below bb w6.drew wx->(∀k o,w6.drew.heap[k]?=some o->k≠bb->(∀c fz,o≠.cells c 5 fz)->wx.heap[k]?=some o)->Bi wx db 160 (A5 b) ⟨dn.toArray⟩ s0/\A4 Aa w wx):=λwx E ho=>
    ⟨ho db _ aH.o.aa (by have:=bQ.o;have:=aQ.o;omega) (λc fz e=>by cases e),(bY.o.tr b5.o.aa).AH (A4.cg E) λx E I=>by have:=bX.o;omega⟩
   have bT:Hid (∀wx,Bi wx db 160 (A5 b) ⟨dn.toArray⟩ s0->A4 Aa w wx->∀wy,Ap wx Ft wy (λw' z=>Bu w' b W.2 z)->Bi wy db 160 (A5 b) ⟨dn.toArray⟩ s0/\Ca wy xb 162 b nm s0 f0 v0/\Ap w Ft wy (λw' z=>Bu w' b W.2 z)):=λwx hf E wy hy=>
    ⟨hf.al hy.1 (λh=>by have:=bI.o _ h;have:=bY.o.Ak;have:=aQ.o;omega),(cX.o.al E (λh=>h)).al hy.1 cE.o,hy.a1 E⟩
   have e0:=aH.o.aa.c0;have e1:=aH.o.aa.c1;have e2:=aH.o.aa.c2;obtain⟨cH,dC⟩:=W;dsimp only at aO aV bT aN;clear b7 bZ g0 g1 g2 dG bK;by_cases hw:cH=0
   case neg=>
    (have a8:R=(cH,dC):=by rw[aN.o,Ai hw]);subst a8;(have hwb:(cH !=0)=true:=by simpa using hw);refine Br (λw'=>A8 w' db 0 (A5 b)/\A8 w' db 1 (.string ⟨dn.toArray⟩)/\A8 w' db 2 (.int .u32 s0)) 3
     [(0,true),(1,false),(2,false)] ⟨e0,e1,e2⟩ ?_
    refine B4 ?_;refine Bf λK O=>?_;go_simp;refine b4.k ?_;rintro w9⟨aF,aI⟩;have⟨q1,q2⟩:=aS.o w9 aF aI;refine O _ _ ⟨q1.c0,q1.c1,q1.c2⟩ (λhS=>?_);have aG:=A1 (aO.o w9 q2);have aM:=A1 (bT.o w9 q1 q2);clear O K hS aF aI q1 q2 b4 aS aO bT;refine Bf λK O=>?_;go_simp;refine aG.k ?_;rintro aD Y;have⟨q1,q2,q3⟩:=aM.o aD Y;refine O _ _ ⟨q1.c0,q1.c1,q1.c2⟩ (λhS=>?_);have dJ:=A1 q2;have dA:=A1 q3;clear O K hS Y aG aM q1 q2 q3;refine Bo ?_;go_wp2;go_ret;dsimp only
    have⟨r1,z,r2,r3,r4⟩:=dA.o;exact⟨rfl,dJ.o,r1.ai λ_ _ h=>.inl h,z,r2,r3,r4⟩
   case pos=>
    subst hw;(have a8:R=Q:=by rw[aN.o,Af (by simp)]);subst a8;clear aN;refine Br (λw'=>A8 w' db 0 (A5 b)/\A8 w' db 1 (.string ⟨dn.toArray⟩)/\A8 w' db 2 (.int .u32 s0)) 3
     [(0,true),(1,false),(2,false)] ⟨e0,e1,e2⟩ ?_
    refine B4 ?_;refine Bf λK O=>?_;go_simp;refine b4.k ?_;rintro w9⟨aF,aI⟩;have⟨q1,q2⟩:=aS.o w9 aF aI;refine O _ _ ⟨q1.c0,q1.c1,q1.c2⟩ (λhS=>?_);have aG:=A1 (aO.o w9 q2);have aM:=A1 (bT.o w9 q1 q2);have b0:=A1 q1;have b3:=A1 q2;clear O K hS aF aI q1 q2 b4 aS aO bT;refine Bf λK O=>?_;go_simp;refine aG.k ?_;rintro aD Y;have⟨q1,q2,q3⟩:=aM.o aD Y;refine O _ _ ⟨q1.c0,q1.c1,q1.c2⟩ (λhS=>?_);obtain⟨r1,-⟩:=q3;obtain⟨-,L,r2,r3,r5⟩:=Y;have dD:=A1 b0.o.lt;have dI:=A1 b3.o.Ak;have cL:Hid (∀k,L k->Ft k\/w.heap.size<=k):=λk hk=>(r5 k hk).imp id λh=>AP dI.o h
    have cN:=A1 r1;have aL:=A1 (aV.o aD.drew L (AW.aw r2 r3 (A4.C _ aD).aa));have x0:=q2.aa.c0;have x1:=q2.aa.c1;have x2:=q1.aa.c1;(have cF:Hid (¬L xb):=λh=>by rcases cL.o _ h with h|h;exact cE.o h;have:=bA.o;omega);have cC:Hid (¬L db):=λh=>by
     rcases r5 _ h with h|h
     ·have:=bI.o _ h;have:=bY.o.Ak;have:=aQ.o;omega
     ·have:=dD.o;omega
    have bW:Hid (∀wz,Ap aD.drew L wz (λw' z=>Bu w' b R.2 z)->(Ca wz xb 162 b nm s0 f0 v0/\Bi wz db 160 (A5 b) ⟨dn.toArray⟩ s0)/\Ap w Ft wz (λw' z=>Bu w' b R.2 z)):=λwz hz=>
     ⟨⟨q2.aa.al hz.1 cF.o,q1.aa.al hz.1 cC.o⟩,by
      obtain⟨z1,aP,z2,z3,z4⟩:=hz
      exact⟨(cN.o.aa).AH z1 λx E I=>(cL.o x E).resolve_right (by omega),aP,z2,z3,λk hk=>(z4 k hk).elim (λh=>cL.o k h) λh=>.inr (AP cN.o.Ak h)⟩⟩
    clear O K hS aG aM q1 q2 r1 r2 r3 r5 aV b0 b3;refine Bo ?_;obtain⟨bO,a7⟩:=R;dsimp only at aL bW;have aW:Hid (∀wz,Ca wz xb 162 b nm s0 f0 v0->Ap w Ft wz (λw' z=>Bu w' b a7 z)->Ca ((wz.setCell (A9 xb 3) (A0 d)).setCell (A9 xb 4) (.slice pa sd.length aA)) xb 162 b nm s0 d (.slice pa sd.length aA)/\JU w Ft xb ((wz.setCell (A9 xb 3) (A0 d)).setCell (A9 xb 4) (.slice pa sd.length aA)) b ⟨a7.D,a7.F⟩):=λwz E hz=>by
     obtain⟨z1,aP,z2,z3,z4⟩:=hz;have kz:A4 (One xb) wz ((wz.setCell (A9 xb 3) (A0 d)).setCell (A9 xb 4) (.slice pa sd.length aA)):=((A4.C (One xb) wz).ao (b:=xb) rfl 3 _).ao rfl 4 _;(have cI:¬aP xb:=λh=>by rcases z4 _ h with h|h;exact cE.o h;have:=bA.o;omega);exact⟨(E.s3 d).s4 _,z1.fy kz,aP,AW.aM z2 (kz.aw z3 λk hk e=>by have e':k=xb:=e;subst e';exact cI hk),λk hk=>Bn (z3 k hk) kz.Ak,z4⟩
    by_cases hr:bO=0
    case neg=>
     (have hrb:(bO !=0)=true:=by simpa using hr);go_wp2;refine Br (λw'=>A8 w' xb 0 (A5 b)/\A8 w' xb 1 (.string ⟨nm.toArray⟩)/\A8 w' db 1 (.string ⟨dn.toArray⟩)) 13
      (Ba [0,1,2,3,4,5,6,7,8,9,10,11,12] [12]) ⟨x0,x1,x2⟩ ?_
     iterate 12 refine B4 ?_
     refine Bf λK O=>?_;go_simp;refine aL.k ?_;rintro aR Y;have⟨⟨y1,y2⟩,y3⟩:=bW.o aR Y;refine O _ _ ⟨y1.c0,y1.c1,y2.c1⟩ (λhS=>?_);have dB:=A1 y1;have dE:=A1 y3;clear O K hS Y aL bW y1 y2 y3;refine Bo ?_;go_wp2;go_ret;dsimp only
     have⟨r1,z,r2,r3,r4⟩:=dE.o;exact⟨rfl,dB.o,r1.ai λ_ _ h=>.inl h,z,r2,r3,r4⟩
    case pos=>
     subst hr;go_wp2;refine Br (λw'=>A8 w' xb 0 (A5 b)/\A8 w' xb 1 (.string ⟨nm.toArray⟩)/\A8 w' db 1 (.string ⟨dn.toArray⟩)) 13
      (Ba [0,1,2,3,4,5,6,7,8,9,10,11,12] [12]) ⟨x0,x1,x2⟩ ?_
     iterate 12 refine B4 ?_
     refine Bf λK O=>?_;go_simp;refine aL.k ?_;rintro aR Y;have⟨⟨y1,y2⟩,y3⟩:=bW.o aR Y;refine O _ _ ⟨y1.c0,y1.c1,y2.c1⟩ (λhS=>?_);have bP:=A1 (aW.o aR y1 y3);have g3:=y1.c3;have z3:=y1.fz 3;have g4:=(y1.s3 d).c4;have z4:=(y1.s3 d).fz 4;clear O K hS Y aL bW y1 y2 y3 aW;refine Bo ?_;go_wp2;go_ret;exact⟨rfl,bP.o.1,bP.o.2⟩
end
end
section
open Go.RowKit
def CM(w:gx)(jb b:Nat)(lv:gy)(lh pd:Int)(ov:gy):Prop:=w.heap[jb]?=some (.cells #[.pointer (some ⟨b,0,none⟩),lv,.int .i64 lh,.int .i64 pd,ov] 208 (0,0))
section
variable{w w':gx}{jb b:Nat}{lv ov:gy}{lh pd:Int}
def CM.c0(h:CM w jb b lv lh pd ov):A8 w jb 0 (A5 b):=by unfold CM at h;simp[A8,World.cell?,h]
def CM.c1(h:CM w jb b lv lh pd ov):A8 w jb 1 lv:=by unfold CM at h;simp[A8,World.cell?,h]
def CM.c2(h:CM w jb b lv lh pd ov):A8 w jb 2 (A0 lh):=by unfold CM at h;simp[A8,World.cell?,h]
def CM.c3(h:CM w jb b lv lh pd ov):A8 w jb 3 (A0 pd):=by unfold CM at h;simp[A8,World.cell?,h]
def CM.c4(h:CM w jb b lv lh pd ov):A8 w jb 4 ov:=by unfold CM at h;simp[A8,World.cell?,h]
def CM.fz(h:CM w jb b lv lh pd ov)(o:Nat):w.frozen? (A9 jb o)=false:=by unfold CM at h;simp[World.frozen?,h]
def CM.lt(h:CM w jb b lv lh pd ov):jb<w.heap.size:=By h
def CM.s1(h:CM w jb b lv lh pd ov)(x:gy):CM (w.setCell (A9 jb 1) x) jb b x lh pd ov:=BQ h
def CM.s2(h:CM w jb b lv lh pd ov)(x:Int):CM (w.setCell (A9 jb 2) (A0 x)) jb b lv x pd ov:=BQ h
def CM.s3(h:CM w jb b lv lh pd ov)(x:Int):CM (w.setCell (A9 jb 3) (A0 x)) jb b lv lh x ov:=BQ h
def CM.s4(h:CM w jb b lv lh pd ov)(x:gy):CM (w.setCell (A9 jb 4) x) jb b lv lh pd x:=BQ h
def CM.aa(h:CM w jb b lv lh pd ov):CM w.drew jb b lv lh pd ov:=by unfold CM at h ⊢;exact h
def CM.al{S:Nat->Prop}(h:CM w jb b lv lh pd ov)(d:A4 S w w')(z:¬S jb):CM w' jb b lv lh pd ov:=d.al h z
end
structure DR (w:gx) (jb b:Nat) (lv ov:gy) (J:Jn):Prop where
 Ae:CM w jb b lv J.Ac J.pd ov
 An:DT w lv J.An
 AB:(J.AB=none/\ov=.pointer none)\/∃n s lb,J.AB=some (n,s)/\ov=.pointer (some ⟨lb,0,none⟩)/\Bi w lb 237 (.pointer (some ⟨b,0,none⟩)) ⟨(Ah n).toArray⟩ s/\s<4294967296
def Dr(jb:Nat)(lv ov:gy)(k:Nat):Prop:=k=jb\/lv.ownBlock=some k\/ov=.pointer (some ⟨k,0,none⟩)
section
variable{w w':gx}{jb b:Nat}{lv ov:gy}{J:Jn}
def DR.aM(h:DR w jb b lv ov J)(z:Gr (Dr jb lv ov) w w'):DR w' jb b lv ov J:=by
 refine⟨(z jb (.inl rfl)).trans h.Ae,Au h.An λg O=>z g (.inr (.inl O)),?_⟩;rcases h.AB with d|⟨n,s,E,d,rfl,L,I⟩
 ·exact .inl d
 ·exact .inr ⟨n,s,E,d,rfl,(z E (.inr (.inr rfl))).trans L,I⟩
def DR.lt(h:DR w jb b lv ov J){k:Nat}(d:Dr jb lv ov k):k<w.heap.size:=by
 rcases d with rfl|d|rfl
 ·exact h.Ae.lt
 ·exact Aw h.An d
 ·rcases h.AB with⟨_,z⟩|⟨n,s,lb,_,z,E,_⟩
  ·cases z
  ·cases z;exact E.lt
def DR.Am{S:Nat->Prop}(h:DR w jb b lv ov J)(z:A4 S w w')(E:∀k,Dr jb lv ov k->¬S k):DR w' jb b lv ov J:=
 h.aM (z.aw (λ_ d=>h.lt d) E)
def DR.ak(h:DR w jb b lv ov J)(d:A4 Aa w w'):DR w' jb b lv ov J:=h.Am d λ_ _ h=>h
end
def Pv(l:gD Int)(j:Nat)(d:j<l.length):l.getD j 0=l[j]'d:=by simp[List.getD,d]
def A13(w:gx)(W Y:gy)(d h:gD Int)(O:Dg w W d)(L:Dg w Y h):
 Ag 241 #[W,Y] w (Aj (.bool (decide (d=h))) λw'=>∃q,w'=w.drewN q):=by
 obtain⟨a1,c1,rfl,p1,p2⟩:=O.BW;obtain⟨a2,c2,rfl,q1,q2⟩:=L.BW;unfold maxLen at p2 q2;by_cases X:d.length=h.length
 case neg=>
  have I:¬d=h:=λe=>X (by rw[e]);refine(Tryz.slices_Equal_int_lens a1 a2 _ c1 _ c2 w X).k ?_;rintro w' rfl;exact⟨by rw[Cv I],0,rfl⟩
 case pos=>
 by_cases h0:d.length=0
 ·have e1:d=[]:=Hp.1 h0;have e2:h=[]:=Hp.1 (by omega);subst e1;subst e2;refine(Tryz.slices_Equal_int_empty a1 a2 c1 0 c2 w (by omega)).k ?_;rintro w' rfl;exact⟨by simp,0,rfl⟩
 ·obtain⟨g1,o1,rfl,-⟩:=Dg.at O 0 (by omega);obtain⟨g2,o2,rfl,-⟩:=Dg.at L 0 (by omega);refine(Tryz.slices_Equal_int g1 o1 _ c1 g2 o2 _ c2 d h w (Ao _) (Ao _) (by omega) (by omega) (λj z=>?_) (λj z=>?_)).mono ?_
  ·have⟨g,o,e,hc⟩:=Dg.at O j z;cases e;rw[Pv d j z];exact hc
  ·have⟨g,o,e,hc⟩:=Dg.at L j z;cases e;rw[Pv h j z];exact hc
  rintro e w'⟨rfl,q,rfl⟩;refine⟨?_,q,rfl⟩;rw[C5,C5];by_cases E:d=h
  ·rw[Cu E,E];simp
  ·rw[Cv E,HX.2 E]
def Sp:∀(k s:Nat) (l:Bs),(DV k s l).1.length*21<=l.length
 | 0,_,l=>by simp[DV]
 | k+1,s,l=>by
  unfold DV;split
  ·simp
  ·rename_i h;split
   ·have:=Sp k (AY s (l.take 17)) (l.drop 21);rw[Cz]at this;simp only[CA];omega
   ·simp
def Za(s:Nat)(d:Int)(l:Bs):(Gy s d l).1.length*21<=l.length:=by
 unfold Gy;split
 ·simp
 ·split
  ·split
   ·have:=Sp l.length (AY s (l.take 8)) (l.drop 12);rw[Cz]at this;simp only;omega
   ·simp
  ·simp
def A0D{P:PD}{a c m:Nat}(z:Fit P a c m)(n h:Int):(P.aX n h).1.length*21<=m:=by
 have d:=LL z (Ah n);unfold PD.aX H0;split
 ·simp
 ·exact AP (Za _ _ _) d
end
section
open Go.RowKit
attribute [local go_sem ↓] CL
section
variable{w:gx}{b B jb:Nat}{P:PD}{Ft:Nat->Prop}{a c m:Nat}{lv ov:gy}{J:Jn}
def Oz(w:gx)(h:Bu w b P Ft)(aD:∀k,Ft k->k<w.heap.size)(hJ:DR w jb b lv ov J)(hF:Fit P a c m)(hl:CT a c m)(hm:J.An.length*m<=70368744177664)(hn:∀n∈J.An,CK n)(hL:Lets B w):
 Ag 106 #[A5 jb] w λe w'=>∃v,e=.returned (.tuple #[v,A0 (P.pd J.An).2])/\B1 w' v (P.pd J.An).1/\(∀g,v.ownBlock=some g->w.heap.size<=g)/\A4 Aa w w':=by
 have⟨i0,hi,hz0,hz1,hz2⟩:=DL IT;have c0:=hJ.Ae.c0;have c1:=hJ.Ae.c1;have aK:=A1 (DT.rd hJ.An);obtain⟨la,lcap,rfl,lc1,aQ⟩:=aK.o.BW;unfold maxLen at aQ;have aW:Hid (P.pd J.An=P.bq J.An []):=rfl;generalize hR:P.pd J.An=R at aW ⊢;have a0:Hid (∀w1,A4 Aa w w1->∀n∈J.An,∀W,Ag 149 #[A5 b,A0 n,A0 W] w1 λe w'=>∃v,e=.returned (.tuple #[v,A0 (P.aX n W).2])/\B1 w' v (P.aX n W).1/\(∀g,v.ownBlock=some g->w1.heap.size<=g)/\A4 Aa w1 w'):=λw1 hc n aU W=>
  Zb w1 W (AW.aw h aD hc) (λk hk=>Bn (aD k hk) hc.Ak) (hn n aU) (hL.aL hc) (by have h1:(Eb P.D P.F ⟨(BT 1 n).toArray⟩).1.length<=m:=LL hF (Ah n);have:=hl.m;omega)
 have a1:Hid (∀n W,(P.aX n W).1.length*21<=m):=λn W=>A0D hF n W;have aX:=A1 hm;generalize J.An=An at *;have a2:∀k,k<=An.length->k*m<=70368744177664:=λk hk=>AP (I4 m hk) aX.o;have aT:=A1 a2
 go_enter func106,ntmps106
 go_wp2;go_loopw [4,14] (λv iv wr=>∃(k:Nat) (d:gD Pu),iv=A0 k/\k<=An.length/\Hid (B1 wr v d/\(∀g,v.ownBlock=some g->w.heap.size<=g)/\A4 Aa w wr/\d.length*21<=k*m/\R=P.bq (An.drop k) d)) (λ_ iv _=>An.length-(intOf iv).toNat)
 ·exact⟨0,[],rfl,by omega,Co _ _ _ _,λg E=>by simp[Value.ownBlock]at E,A4.C _ _,by simp,aW.o⟩
 ·obtain⟨k,d,rfl,hk,hI⟩:=hrel;have⟨i1,i2,i3,i4,i5⟩:=hI.o;obtain⟨ap,cp,rfl,hcap1,aE,-⟩:=B8 i1;unfold maxLen at aE;by_cases z:k<An.length
  ·obtain⟨g,o,rfl,d1⟩:=Dg.at aK.o k z;have aA:=BV z;have aL:=FK z;generalize hne:(An[k]'z)=n at d1 aA aL;have e1:=i3.ah d1;have e0:=i3.ah c0;have L:=A1 (a0.o wr i3 n aA d.length);have Y:=A1 (a1.o n d.length);rw[aL]at i5;have aN:Hid (R=if (P.aX n d.length).2≠0 then ([],(P.aX n d.length).2) else P.bq (An.drop (k+1)) (d++(P.aX n d.length).1)):=i5;generalize hX:P.aX n d.length=X at L Y aN;obtain⟨aG,aR⟩:=X;dsimp only at L Y aN;have aM:=A1 i1;have aO:=A1 i2;have aH:=A1 i3;have aV:=A1 i4;(have aS:(k:Int)<(An.length:Int):=by omega);have hk0:=BJ k;by_cases hx:aR=0
   case neg=>
    (have hxb:(aR !=0)=true:=by simpa using hx);(have aF:R=([],aR):=by rw[aN.o,Ai hx]);subst aF;go_wp2_with (go_at_call 149;refine L.m ?_;rintro e w6⟨v,rfl,-,-,O⟩;have I:=A1 O);go_ret2;exact⟨_,rfl,Co _ _ _ _,λg E=>by simp[Value.ownBlock]at E,aH.o.tr I.o⟩
   case pos=>
    subst hx;(have aZ:Hid (R=P.bq (An.drop (k+1)) (d++aG)):=by unfold Hid;rw[aN.o,Af (by simp)]);have a3:=A1 (aT.o (k+1) z);go_wp2_with (fail);refine L.m ?_;rintro e w6⟨v,rfl,hv,hvo,O⟩;obtain⟨ap2,cp2,rfl,-,aB,-⟩:=B8 hv;unfold maxLen at aB;have I:=A1 O;have aI:Hid (w6.ownsRow 0 113 3 (.slice ap d.length cp) d.length (B5 d)):=Au aM.o λg E=>O.Al g (Aw aM.o E) (λh=>h);have aJ:=A1 (Src.bP GP hv (Hu aG));go_wp2_with (at_builtin;refine CU rfl (.tmp 32) (.tmp 33) 97 97 rfl 113 i0 _ 3 24 GP hi hz0 hz1 hz2 rfl (by decide) (.slice ap d.length cp) d.length (B5 d) (by rfl) aI.o _ aG.length _ (by rfl) aJ.o (by have:=Y.o;have:=aV.o;have:=a3.o;rw[Nw]at this;omega) ?_;intro a8 cap8 w8 hA;have aY:=A1 hA);go_roundw
    ·have hA:=aY.o;have aP:=hA.Am (S:=λk=>(Value.slice ap d.length cp).ownBlock=some k) λ_ h=>h;refine⟨k+1,d++aG,by go_num,by omega,?_,?_,?_,?_,aZ.o⟩
     ·(have e:(d++aG).length=d.length+aG.length:=by simp);unfold B1;rw[Ig,e];exact hA.AB
     ·intro g E;rcases hA.BY with h|h
      ·rw[h]at E;exact aO.o g E
      ·rw[h]at E;cases E;have:=aH.o.Ak;have:=I.o.Ak;omega
     ·exact(aH.o.tr I.o).AH aP λy hy aD=>by have:=aO.o y hy;omega
     ·have:=Y.o;have:=aV.o;rw[Nw];simp only[B3];omega
    ·simp[intOf];omega
  ·(obtain rfl:k=An.length:=by omega);have aM:=A1 i1;have aO:=A1 i2;have aH:=A1 i3;(have aF:R=(d,0):=by rw[i5,GX];rfl);subst aF;(have aS:¬((An.length:Int)<(An.length:Int)):=by omega);go_wp2;go_ret2;exact⟨_,rfl,aM.o,aO.o,aH.o⟩
end
def Ll{lt nm:Bs}{v:Int}(h:En lt nm=some v):(1<=v/\v<=4611686018427387904)/\Ey lt v=nm:=by
 unfold En at h;cases hx:Lib.atoiAll (Lib.trimPrefix nm lt) with
 | ok x=>
  rw[hx]at h;dsimp only at h;split at h
  ·rename_i d;cases h;exact⟨⟨by omega,d.2.1⟩,d.2.2⟩
  ·cases h
 | «syntax»=>rw[hx]at h;cases h
 | range=>rw[hx]at h;cases h
def TB{nm:Bs}:(Hx nm).1≠1/\(Hx nm).1≠2:=by
 unfold Hx IL;split
 ·simp
 ·split<;>simp
def OW{nm:Bs}(h:(Bq nm).1=1):(1<=(Bq nm).2/\(Bq nm).2<=4611686018427387904)/\Ah (Bq nm).2=nm:=by
 unfold Bq at h ⊢;cases hx:En [108] nm with
 | some v=>exact Ll hx
 | none=>
  rw[hx]at h;dsimp only at h;unfold Hy at h;cases hy:En [115] nm with
  | some v=>rw[hy]at h;cases h
  | none=>rw[hy]at h;exact absurd h TB.1
def OU{nm:Bs}(h:(Bq nm).1=2):(1<=(Bq nm).2/\(Bq nm).2<=4611686018427387904)/\AG (Bq nm).2=nm:=by
 unfold Bq at h ⊢;cases hx:En [108] nm with
 | some v=>rw[hx]at h;cases h
 | none=>
  rw[hx]at h;dsimp only at h ⊢;unfold Hy at h ⊢;cases hy:En [115] nm with
  | some v=>exact Ll hy
  | none=>rw[hy]at h;exact absurd h TB.2
def Tt(nm:Bs):Ay (Bq nm).2:=by
 unfold Bq;cases hx:En [108] nm with
 | some v=>have:=(Ll hx).1;unfold Ay;dsimp only;omega
 | none=>
  dsimp only
  unfold Hy;cases hy:En [115] nm with
  | some v=>have:=(Ll hy).1;unfold Ay;dsimp only;omega
  | none=>dsimp only;unfold Hx IL Ay;split<;>(try split)<;>simp
def A0z(aA:Int)(l l':gD Bs):BU aA (l++l')=BU aA l++BU aA l':=by simp[BU]
def MP(aA:Int)(l:gD Bs):(BU aA l).length<=l.length:=List.length_filterMap_le _ _
def OZ{aA n:Int}{l:gD Bs}(h:n∈BU aA l):aA<=n/\(1<=n/\n<=4611686018427387904)/\Ah n∈l:=by
 have⟨nm,h1,h2⟩:=M0.1 h;split at h2
 ·rename_i d;cases h2;have⟨k1,k2⟩:=OW d.1;exact⟨d.2,k1,by rw[k2];exact h1⟩
 ·cases h2
def Lj(P:PD):P.Az.length=P.D.A6.length:=by
 unfold PD.Az dList;rw[Fq,N7 _ _ (Ao _)]
def Ut(l:gD Int)(x d:Int):(l++[x]).getLastD d=x:=by
 rw[KL];simp
def P6{w:gx}{b:Nat}{P:PD}{Ft:Nat->Prop}{a c m:Nat}(h:Bu w b P Ft)(I:Fit P a c m)(L:CT a c m):
 Calls Tryz.prog 76 #[.pointer (some ⟨b,0,none⟩)] w λe w'=>∃v,e=.returned v/\Dy w' v P.Az/\A4 (λ_=>False) w w'/\(∀g,v.ownBlock=some g->w.heap.size<=g):=by
 refine(A0J h (by have:=I.A6;have:=L.a;omega)).mono ?_;rintro e w'⟨v,E,d,O,z⟩;refine⟨v,E,?_,O,z⟩;have W:=Lj P;unfold Dy;rw[W];rw[XH]at d;exact d
section
variable{w:gx}{b B:Nat}{P:PD}{Ft:Nat->Prop}{a c m:Nat}{aA:Int}
def A07(w:gx)(h:Bu w b P Ft)(aE:∀k,Ft k->k<w.heap.size)(hF:Fit P a c m)(hl:CT a c m)(bJ:a*m<=70368744177664)(hf:1<=aA/\aA<=4611686018427387904)(hL:Lets B w)(hE:Iy w)(bQ:∀nm∈P.Az,nm.length<=281474976710656):
 Ag 99 #[A5 b,A0 aA] w λe w'=>
  ((P.pd (BU aA P.Az)).2≠0/\e=.returned (.tuple #[.pointer none,.slice none 0 0,A0 (P.pd (BU aA P.Az)).2])/\A4 Aa w w')\/
  ((P.pd (BU aA P.Az)).2=0/\∃d lv v,e=.returned (.tuple #[A5 d,v,A0 0])/\DR w' d b lv (.pointer none) (P.bX aA)/\B1 w' v (P.pd (BU aA P.Az)).1/\(∀k,Dr d lv (.pointer none) k->w.heap.size<=k)/\(∀g,v.ownBlock=some g->w.heap.size<=g)/\A4 Aa w w'):=by
 obtain⟨i0,hi,bH,bP,bM⟩:∃i0,Tryz.prog.info? 3=some i0/\i0.zero=some (A0 0)/\i0.size=1/\i0.bytes=8:=by
  have h:=Tryz.dj;cases W:Tryz.prog.info? 3 with
  | none=>rw[W]at h;cases h
  | some i=>rw[W]at h;simp at h;exact⟨i,rfl,h.1,h.2.1,h.2.2⟩
 have LI:Hid (∀L,A4 Aa w L->Ag 76 #[A5 b] L λe w'=>∃v,e=.returned v/\Dy w' v P.Az/\A4 Aa L w'/\(∀g,v.ownBlock=some g->L.heap.size<=g)):=λL Y=>P6 (AW.aw h aE Y) hF hl;have bZ:Hid (∀L,A4 Aa w L->∀nm∈P.Az,Ag 97 #[.string ⟨nm.toArray⟩] L λe w'=>e=.returned (.tuple #[A0 (Bq nm).1,A0 (Bq nm).2])/\A4 Aa L w'):=λL Y nm hm=>Ts L nm (bQ nm hm) (hE.aL Y) (hL.aL Y);have aH:P.Az.length<=a:=by rw[Lj];exact hF.A6
 have bW:Hid (∀L d lv lh,A4 Aa w L->DR L d b lv (.pointer none) ⟨BU aA P.Az,lh,0,none⟩->Ag 106 #[A5 d] L λe w'=>∃v,e=.returned (.tuple #[v,A0 (P.pd (BU aA P.Az)).2])/\B1 w' v (P.pd (BU aA P.Az)).1/\(∀g,v.ownBlock=some g->L.heap.size<=g)/\A4 Aa L w'):=λL d lv lh Y hJ=>
  Oz L (AW.aw h aE Y) (λk hk=>Bn (aE k hk) Y.Ak) hJ hF hl (AP (I4 m (AP (MP aA P.Az) aH)) bJ) (λn hn=>by have⟨_,h2,_⟩:=OZ hn;exact HR (by omega) h2.2) (hL.aL Y)
 have hnl2:P.Az.length<=1073741824:=AP aH hl.a;have a9:Hid (P.bX aA=⟨BU aA P.Az,(BU aA P.Az).getLastD (aA-1),(P.pd (BU aA P.Az)).1.length,none⟩):=rfl;generalize hZ:P.bX aA=Z at a9 ⊢;generalize hR:P.pd (BU aA P.Az)=R at bW a9 ⊢;generalize P.Az=ns at *;obtain⟨f1,f2⟩:=hf;have ew:IntKind.i64.wrap (aA-1)=aA-1:=Eo (by omega);have aQ:CM (w.alloc (.cells #[A5 b,.slice none 0 0,A0 (aA-1),A0 0,.pointer none] 208)) w.heap.size b (.slice none 0 0) (aA-1) 0 (.pointer none):=Bl w _;have bY:Hid (A4 Aa w (w.alloc (.cells #[A5 b,.slice none 0 0,A0 (aA-1),A0 0,.pointer none] 208))):=(A4.C _ w).aj _;have bO:=A1 (LI.o _ bY.o);have bA:=A1 aQ;have bX:Hid (w.heap.size<(w.alloc (.cells #[A5 b,.slice none 0 0,A0 (aA-1),A0 0,.pointer none] 208)).heap.size):=by unfold Hid;simp
 go_enter func99,ntmps99
 go_wp2_with (fail);refine bO.o.mono ?_;rintro e L⟨v,rfl,hv,aW,aS⟩;obtain⟨na,a6,rfl,nc1,bC⟩:=(Dy.rd hv).BW;unfold maxLen at bC;have b1:=A1 (Dy.rd hv);have bU:=A1 (bA.o.al aW (λh=>h));have b0:Hid (A4 Aa w L):=bY.o.tr aW;have aB:Hid (w.heap.size<L.heap.size):=Bn bX.o aW.Ak;have bE:Hid (∀g,(Value.slice na ns.length a6).ownBlock=some g->w.heap.size<g):=λg E=>Bn bX.o (aS g E);generalize aQ:w.heap.size=d at bU aB ⊢;have aU:=A1 aQ;go_wp2;go_loopw [22] (λiv wr=>∃k:Nat,iv=A0 k/\k<=ns.length/\Hid (∃lv,CM wr d b lv ((BU aA (ns.take k)).getLastD (aA-1)) 0 (.pointer none)/\DT wr lv (BU aA (ns.take k))/\(∀g,lv.ownBlock=some g->L.heap.size<=g)/\A4 Aa w wr/\A4 (One d) L wr)) (λiv _=>ns.length-(intOf iv).toNat)
 ·exact⟨0,rfl,by omega,_,bU.o,Co _ _ _ _,λg E=>by simp[Value.ownBlock]at E,b0.o,A4.C _ _⟩
 ·obtain⟨k,rfl,hk,hI⟩:=hrel;have⟨lv,i1,i2,i3,i4,i5⟩:=hI.o;by_cases aG:k<ns.length
  ·obtain⟨g,o,rfl,d1⟩:=H9.at b1.o k aG;have aM:=BV aG;have a5:ns.take (k+1)=ns.take k++[ns[k]'aG]:=Dq aG;generalize hne:(ns[k]'aG)=nm at d1 aM a5;(have hgj:d<g:=by have:=bE.o g rfl;have:=aU.o;omega);have e1:=i5.bJ d1 (λh=>by have h':g=d:=h;omega);have aJ:=A1 (bZ.o wr i4 nm aM);have aT:=Tt nm;have aF:Hid (BU aA (ns.take (k+1))=BU aA (ns.take k)++(if (Bq nm).1=1/\aA<=(Bq nm).2 then [(Bq nm).2] else [])):=by
    unfold Hid;rw[a5,A0z]
    congr 1
    unfold BU;by_cases Y:(Bq nm).1=1/\aA<=(Bq nm).2<;>simp[Y]
   generalize hX:Bq nm=X at aJ aF aT;obtain⟨s,n⟩:=X;dsimp only at aJ aF aT;obtain⟨r1,r2⟩:=aT;have aO:Hid ((BU aA (ns.take k)).length<=ns.length):=AP (MP _ _) (by rw[BK];omega);have aX:=A1 i1;have aI:=A1 i2;have aK:=A1 i3;have aN:=A1 i4;have aY:=A1 i5;(have bF:(k:Int)<(ns.length:Int):=by omega);have hk0:(0:Int)<=(k:Int):=Gu _;generalize hlg:BU aA (ns.take k)=lg at aF aO aX aI;by_cases Y:s=1/\aA<=n
   case neg=>
    (have O:Hid (BU aA (ns.take (k+1))=lg):=by rw[aF.o,Af Y,Gt];rfl);by_cases hs:s=1
    ·subst hs;have bN:¬aA<=n:=λh=>Y ⟨rfl,h⟩;go_wp2_with (go_at_call 97;refine aJ.k ?_;rintro w6 I;have z:=A1 I);go_roundw
     ·exact⟨k+1,by go_num,by omega,lv,by rw[O.o];exact aX.o.al z.o (λh=>h),by rw[O.o];exact Au aI.o λg E=>z.o.Al g (Aw aI.o E) (λh=>h),aK.o,aN.o.tr z.o,aY.o.bl z.o⟩
     ·simp[intOf];omega
    ·(have hsb:(s==1)=false:=by simpa using hs);go_wp2_with (go_at_call 97;refine aJ.k ?_;rintro w6 I;have z:=A1 I);go_roundw
     ·exact⟨k+1,by go_num,by omega,lv,by rw[O.o];exact aX.o.al z.o (λh=>h),by rw[O.o];exact Au aI.o λg E=>z.o.Al g (Aw aI.o E) (λh=>h),aK.o,aN.o.tr z.o,aY.o.bl z.o⟩
     ·simp[intOf];omega
   case pos=>
    (have O:Hid (BU aA (ns.take (k+1))=lg++[n]):=by rw[aF.o,Ai Y];rfl);obtain⟨rfl,bN⟩:=Y;obtain⟨ap,cp,rfl,hcap1,aV,-⟩:=B8 aI.o;unfold maxLen at aV;go_wp2_with (fail);refine aJ.k ?_;rintro w6 I;have aZ:=aX.o.al I (λh=>h);have g1:=aZ.c1;have a1:Hid ((w6.alloc (.cells #[A0 n] 3)).ownsRow 0 3 1 (.slice ap lg.length cp) lg.length (E8 lg)):=Au aI.o λg E=>(I.aj _).Al g (Aw aI.o E) (λh=>h)
    have bB:=A1 (Src.bc (size:=1) (B:=w6.heap.size) Hk w6 #[A0 n] 3 (by simp) 1 1 rfl (Ko [n]));have a7:=A1 (aZ.al ((A4.C Aa w6).aj (.cells #[A0 n] 3)) (λh=>h));have bV:Hid (A4 Aa wr (w6.alloc (.cells #[A0 n] 3))):=I.aj _;have c71:=a7.o.c1;go_wp2_with (at_builtin;refine CU rfl (.tmp 42) (.tmp 44) 26 26 rfl 3 i0 _ 1 8 Hk hi bH bP bM rfl (by decide) (.slice ap lg.length cp) lg.length (E8 lg) (by rfl) a1.o _ 1 _ (by rfl) bB.o (by have:=aO.o;omega) ?_;intro a8 aD w8 hA;have a0:=A1 (hA.Am (S:=λk=>(Value.slice ap lg.length cp).ownBlock=some k) λ_ h=>h);have bL:=a7.o.al a0.o (λh=>by have:=aK.o _ h;have:=aB.o;omega);have g81:=bL.c1;have f81:=bL.fz 1;have bK:=bL.s1 (.slice a8 (lg.length+1) aD);have g82:=bK.c2;have f82:=bK.fz 2;have a4:=A1 (bK.s2 n);have a2:=A1 hA.AB;have bI:=A1 hA.BY);go_roundw
    ·(have e:(lg++[n]).length=lg.length+1:=by simp);have aP:∀g,(Value.slice a8 (lg.length+1) aD).ownBlock=some g->L.heap.size<=g:=λg E=>by
      rcases bI.o with h|h
      ·rw[h]at E;exact aK.o g E
      ·rw[h]at E;cases E;have:=aY.o.Ak;have:=bV.o.Ak;omega
     have k8:A4 (λk=>(Value.slice ap lg.length cp).ownBlock=some k) wr w8:=(bV.o.aT).tr a0.o;have a3:A4 (λk=>k=d\/(Value.slice ap lg.length cp).ownBlock=some k) wr ((w8.setCell (A9 d 1) (.slice a8 (lg.length+1) aD)).setCell (A9 d 2) (A0 n)):=
      ((k8.ai λ_ _ h=>.inr h).ao (b:=d) (.inl rfl) 1 _).ao (b:=d) (.inl rfl) 2 _
     refine⟨k+1,by go_num,by omega,.slice a8 (lg.length+1) aD,by rw[O.o,Ut];exact a4.o,?_,aP,?_,?_⟩
     ·rw[O.o];unfold DT;rw[Lv,e];exact Au a2.o λg E=>by
       have h1:=aP g E;have h2:=aB.o;rw[Fw _ _ _ _ (λe=>by have e':g=d:=e;omega),Fw _ _ _ _ (λe=>by have e':g=d:=e;omega)]
     ·exact aN.o.AH a3 λx W aE=>by
       have h2:=aU.o;rcases W with rfl|W
       ·omega
       ·have:=aK.o x W;have:=aB.o;omega
     ·exact aY.o.AH a3 λx W aE=>by
       rcases W with rfl|W
       ·rfl
       ·have:=aK.o x W;omega
    ·simp[intOf];omega
  ·(obtain rfl:k=ns.length:=by omega);rw[C5]at i1 i2;(have bF:¬((ns.length:Int)<(ns.length:Int)):=by omega);have aR:=A1 (bW.o wr d lv _ i4 ⟨i1,i2,.inl ⟨rfl,rfl⟩⟩);obtain⟨bT,bS⟩:=R;dsimp only at aR a9;have aX:=A1 i1;have aI:=A1 i2;have aK:=A1 i3;have aN:=A1 i4;have aY:=A1 i5;by_cases hr:bS=0
   case neg=>
    (have hrb:(bS !=0)=true:=by simpa using hr);go_wp2_with (go_at_call 106;refine aR.o.mono ?_;rintro e w6⟨v,rfl,-,-,I⟩;have z:=A1 I);go_ret3;exact⟨rfl,aN.o.tr z.o⟩
   case pos=>
    subst hr;go_wp2_with (fail);refine aR.o.mono ?_;rintro e w6⟨v,rfl,hv,aS,I⟩;obtain⟨va,vcap,rfl,vc1,bG,-⟩:=B8 hv;unfold maxLen at bG;have aZ:=aX.o.al I (λh=>h);have g63:=aZ.c3;have f63:=aZ.fz 3;have a7:=A1 (aZ.s3 bT.length);have bD:=A1 hv;have aL:=A1 aS;have z:=A1 I;go_wp2;go_ret3;(have bR:∀g,lv.ownBlock=some g->g≠d:=λg E e=>by have:=aK.o g E;have:=aB.o;omega);have h2:=aU.o;have k7:A4 (One d) wr (w6.setCell (A9 d 3) (A0 bT.length)):=(z.o.aT (S:=One d)).ao (b:=d) rfl 3 _;refine⟨d,lv,_,rfl,?_,?_,λx W=>?_,λg E=>?_,?_⟩
    ·rw[a9.o];exact⟨a7.o,Au aI.o λg E=>k7.Al g (Aw aI.o E) (bR g E),.inl ⟨rfl,rfl⟩⟩
    ·exact Au bD.o λg E=>Fw _ _ _ _ (λe=>by
      have e':g=d:=e;have:=aL.o g E;have:=aN.o.Ak;have:=aY.o.Ak;have:=aB.o
      omega)
    ·rcases W with rfl|W|W
     ·omega
     ·have:=aK.o x W;have:=aB.o;omega
     ·cases W
    ·have:=aL.o g E;have:=aN.o.Ak;omega
    ·exact aN.o.AH k7 λx W aE=>by have e':x=d:=W;omega
end
def JD(w:gx)(jb b:Nat)(J:Jn)(P:PD)(FT:Nat->Prop):Prop:=
 ∃lv ov Ft,DR w jb b lv ov J/\Bu w b P Ft/\(∀k,Ft k->k<w.heap.size)/\(∀k,Dr jb lv ov k->¬Ft k)/\∀k,Ft k\/Dr jb lv ov k->FT k
def JD.aM{w w':gx}{jb b:Nat}{J:Jn}{P:PD}{FT:Nat->Prop}(h:JD w jb b J P FT)(E:Gr FT w w')(W:w.heap.size<=w'.heap.size):JD w' jb b J P FT:=by
 obtain⟨lv,ov,Ft,O,I,X,L,z⟩:=h;exact⟨lv,ov,Ft,O.aM λk d=>E k (z k (.inr d)),I.aM λk d=>E k (z k (.inl d)),λk d=>Bn (X k d) W,L,z⟩
def Ap.jd{w w':gx}{jb b:Nat}{J:Jn}{P:PD}{FT S:Nat->Prop}{lv ov:gy}{Ft:Nat->Prop}(hc:A4 S w w')(Y:∀k,k<w.heap.size->S k->FT k)(E:DR w' jb b lv ov J)(L:Bu w' b P Ft)(I:∀k,Ft k->k<w'.heap.size)(O:∀k,Dr jb lv ov k->¬Ft k)(W:∀k,Ft k->FT k\/w.heap.size<=k)(X:∀k,Dr jb lv ov k->FT k\/w.heap.size<=k):
 Ap w FT w' (λw' d=>JD w' jb b J P d):=
 ⟨hc.ai Y,λk=>Ft k\/Dr jb lv ov k,⟨lv,ov,Ft,E,L,I,O,λ_ h=>h⟩,λk z=>z.elim (I k) λh=>E.lt h,λk z=>z.elim (W k) (X k)⟩
def DR.ne{w:gx}{jb b:Nat}{lv ov:gy}{J:Jn}(h:DR w jb b lv ov J){g:Nat}(d:lv.ownBlock=some g):g≠jb:=by
 have⟨c,hc⟩:=Bb h.An d;exact BR hc h.Ae (by decide)
def Bi.dh{w:gx}{lb:Nat}{p:gy}{d:gC}{s n:Nat}{v:gy}{xs:gD gy}(h:Bi w lb 237 p d s)(z:w.ownsRow 0 3 1 v n xs){g:Nat}(E:v.ownBlock=some g):g≠lb:=by
 have⟨c,hc⟩:=Bb z E;exact BR hc h (by decide)
def Bi.dP{w:gx}{lb jb b:Nat}{p:gy}{d:gC}{s:Nat}{lv ov:gy}{z pd:Int}(h:Bi w lb 237 p d s)(E:CM w jb b lv z pd ov):lb≠jb:=BR h E (by decide)
section
variable{w:gx}{b B jb lb:Nat}{P:PD}{Ft FT:Nat->Prop}{a c m:Nat}{lv ov:gy}{J:Jn}{n:Int}
def Tl(w:gx)(h:DR w jb b lv ov J)(d:Ay (J.Ac+1)):
 Ag 199 #[A5 jb] w (Aj (A0 (J.Ac+1)) λw'=>w=w'):=by
 have c2:=h.Ae.c2;obtain⟨r1,r2⟩:=d;have ew:wrap64 (J.Ac+1)=J.Ac+1:=by unfold wrap64;omega
 go_enter func199,ntmps199
 go_wp2;go_ret;exact⟨rfl,rfl⟩
def A0x(w:gx)(hJ:DR w jb b lv ov J)(hl:J.An.length<=1073741824):
 Ag 136 #[A5 jb] w λe w'=>∃v,e=.returned v/\DT w' v J.An/\(∀g,v.ownBlock=some g->w.heap.size<=g)/\A4 Aa w w':=by
 obtain⟨d,hi,O,W,X⟩:∃d,Tryz.prog.info? 3=some d/\d.zero=some (A0 0)/\d.size=1/\d.bytes=8:=by
  have h:=Tryz.dj;cases hx:Tryz.prog.info? 3 with
  | none=>rw[hx]at h;cases h
  | some i=>rw[hx]at h;simp at h;exact⟨i,rfl,h.1,h.2.1,h.2.2⟩
 have c1:=hJ.Ae.c1;have z:=A1 (Src.bP Hk hJ.An (Ko J.An));have E:Hid (w.ownsRow 0 3 1 (.slice none 0 0) 0 []):=Co _ _ _ _;generalize J.An=l at *
 go_enter func136,ntmps136
 go_wp2_with (at_builtin;refine CU rfl (.const (.slice none 0 0)) (.tmp 6) 26 26 rfl 3 d _ 1 8 Hk hi O W X rfl (by decide) (.slice none 0 0) 0 [] (by rfl) E.o _ l.length _ (by rfl) z.o (by omega) ?_;intro a8 cap8 w8 L;have aA:=A1 L);go_ret;have L:=aA.o;have Y:=L.Am (S:=λ_=>False) λ_ h=>by simp[Value.ownBlock]at h
 refine⟨_,rfl,?_,?_,Y⟩
 ·have:=L.AB;simp only[Fa,Ha]at this ⊢;exact this
 ·intro g hg;have I:=L.BY;simp only[Ha]at I;cases a8 with
  | none=>simp[Value.ownBlock]at hg
  | some x=>
   simp[Value.ownBlock]at I hg;omega
def A0L(w:gx)(z:DR w jb b lv ov J):
 Ag 201 #[A5 jb] w (Aj (.tuple #[]) λw'=>DR w' jb b (.slice none 0 0) (.pointer none) ⟨[],J.Ac,0,none⟩/\A4 (One jb) w w'):=by
 have h:=z.Ae.s1 (.slice none 0 0);have d:=h.s3 0;have E:=d.s4 (.pointer none);have c1:=z.Ae.c1;have f1:=z.Ae.fz 1;have c3:=h.c3;have f3:=h.fz 3;have c4:=d.c4;have f4:=d.fz 4;have H:=A1 E
 go_enter func201,ntmps201
 go_wp2;go_end0;exact⟨rfl,⟨H.o,Co _ _ _ _,.inl ⟨rfl,rfl⟩⟩,((((A4.C (One jb) w).ao (b:=jb) rfl 1 _).ao (b:=jb) rfl 3 _).ao (b:=jb) rfl 4 _)⟩
def A06(w:gx)(h:JD w jb b J P FT):
 Ag 119 #[A5 jb] w (Aj (A0 (J.ad P).1) λw'=>Ap w FT w' (λw' I=>JD w' jb b J (J.ad P).2 I)):=by
 obtain⟨lv,ov,Ft,L,hD,O,E,z⟩:=h;have c4:=L.Ae.c4;rcases L.AB with⟨X,rfl⟩|⟨n,s,lb,X,rfl,hf,hs⟩
 ·have e:J.ad P=(0,P):=by unfold Jn.ad;rw[X]
  rw[e];have aD:=A1 (show Ap w FT w (λw' I=>JD w' jb b J P I) from Ap.jd (A4.C Aa w) (λ_ _ h=>h.elim) L hD O E (λk d=>.inl (z k (.inl d))) (λk d=>.inl (z k (.inr d))))
  go_enter func119,ntmps119
  go_wp2;go_ret;exact⟨rfl,aD.o⟩
 ·have e:J.ad P=P.ad (Ab (Ah n)):=by unfold Jn.ad;rw[X]
  rw[e];have W:=A1 (Rj hf hD);have e1:(⟨(Ah n).toArray⟩:gC)=Ab (Ah n):=rfl;rw[e1]at W;generalize hR:P.ad (Ab (Ah n))=R at W ⊢;have aA:=A1 L;have aB:=A1 E;have Y:=A1 z
  go_enter func119,ntmps119
  go_wp2_with (go_at_call 164;refine W.k ?_;rintro w2 hI;have aE:=A1 hI);go_ret;have⟨r1,Ft',r2,r3,r4⟩:=aE.o;exact⟨rfl,Ap.jd r1 (λk _ d=>Y.o k (.inl d)) (aA.o.Am r1 aB.o) r2 r3 (λk d hx=>by rcases r4 k hx with h|h;exact aB.o k d h;have:=aA.o.lt d;omega) (λk d=>(r4 k d).imp (λh=>Y.o k (.inl h)) id) (λk d=>.inl (Y.o k (.inr d)))⟩
def A0k(w:gx)(E:Int)(h:Bu w b P Ft)(L:∀k,Ft k->k<w.heap.size)(hn:CK n)(Y:Lets B w)(ha:Ay E)(O:Fit P a c m)(I:CT (a+1) (c+1) (m+12)):
 Ag 236 #[A5 b,A0 n,A0 E] w λe w'=>
  ((P.au (Ab (Ah n))).1≠0/\e=.returned (.tuple #[.pointer none,A0 (P.au (Ab (Ah n))).1])/\Ap w Ft w' (λw' d=>Bu w' b (P.au (Ab (Ah n))).2 d))\/
  ((P.au (Ab (Ah n))).1=0/\((P.au (Ab (Ah n))).2.af (Ab (Ah n)) (AI (Ah n)) (AQ E)).2.1≠0/\e=.returned (.tuple #[.pointer none,A0 ((P.au (Ab (Ah n))).2.af (Ab (Ah n)) (AI (Ah n)) (AQ E)).2.1])/\Ap w Ft w' (λw' d=>Bu w' b ((P.au (Ab (Ah n))).2.af (Ab (Ah n)) (AI (Ah n)) (AQ E)).2.2 d))\/
  ((P.au (Ab (Ah n))).1=0/\((P.au (Ab (Ah n))).2.af (Ab (Ah n)) (AI (Ah n)) (AQ E)).2.1=0/\∃lb,e=.returned (.tuple #[A5 lb,A0 0])/\w.heap.size<=lb/\Bi w' lb 237 (A5 b) ⟨(Ah n).toArray⟩ (AY (AI (Ah n)) (AQ E))/\
    A4 Ft w w'/\∃d,Bu w' b ((P.au (Ab (Ah n))).2.af (Ab (Ah n)) (AI (Ah n)) (AQ E)).2.2 d/\(∀k,d k->k<w'.heap.size)/\(∀k,d k->Ft k\/w.heap.size<=k)/\¬d lb):=by
 have z:=O.au (Ab (Ah n));have hp:(AT (AI (Ah n)) (AQ E)).length=12:=by simp[AT,HQ,CP]
 have X:=z.av (Ab (Ah n)) (AT (AI (Ah n)) (AQ E));have hz:=Ku X (Ab (Ah n));have W:=Ku z (Ab (Ah n));have hm:=I.m;exact A0j w E P.D.AV (P.au (Ab (Ah n))).2.D ((P.au (Ab (Ah n))).2.av (Ab (Ah n)) (AT (AI (Ah n)) (AQ E))).2.D (P.au (Ab (Ah n))).2.F ((P.au (Ab (Ah n))).2.av (Ab (Ah n)) (AT (AI (Ah n)) (AQ E))).2.F _ _ h L hn Y ha P.D.cC
  (by have:=O.A6;have:=O.Am;have:=I.a;have:=I.c;omega) rfl rfl rfl z.Av (AP z.bB (AP (VN I.a (AP (VQ m 12) I.m)) (by decide))) z.BG
  (λf hf=>by have:=z.Be f (Gl hf);omega) ⟨Md hz (by rw[hp];omega),Md W (by omega)⟩
def A4e(p:Pu)(d:gC)(s:Nat)(W:Bi w lb 237 (A5 b) d s)(hs:s<4294967296)(h:Bu w b P Ft)(E:∀k,Ft k->k<w.heap.size)(hn:¬Ft lb)(hp:Bm p)(z:Fit P a c m)(X:CT a c (m+21)):
 Ag 191 #[A5 lb,DK p] w (Aj (.tuple #[.bool (P.af d s (Bg p.1 p.2.1 p.2.2)).1,A0 (P.af d s (Bg p.1 p.2.1 p.2.2)).2.1]) λw'=>
  Bi w' lb 237 (A5 b) d (AY s (Bg p.1 p.2.1 p.2.2))/\JU w Ft lb w' b (P.af d s (Bg p.1 p.2.1 p.2.2)).2.2):=by
 obtain⟨⟨h1,h2⟩,h3,Y⟩:=hp;have L:(AT s (Bg p.1 p.2.1 p.2.2)).length=21:=by simp[AT,HQ,OD]
 have hA:=z.av d (AT s (Bg p.1 p.2.1 p.2.2));have hz:=Ku hA d;have O:=Ku z d;have hm:=X.m;have I:CT a c m:=⟨X.a,X.c,by omega⟩;exact A4d w lb d s p.1 p.2.1 p.2.2 ⟨h1,by omega⟩ h3 Y W hs h E hn z.Av (z.eF I) z.BG (λf W=>by have:=z.Be f (Gl W);omega) ⟨Md hz (by rw[L];omega),Md O (by omega)⟩
end
def Pf:∃d,Tryz.prog.info? 3=some d/\d.zero=some (A0 0)/\d.size=1/\d.bytes=8:=by
 have h:=Tryz.dj;cases hx:Tryz.prog.info? 3 with
 | none=>rw[hx]at h;cases h
 | some i=>rw[hx]at h;simp at h;exact⟨i,rfl,h.1,h.2.1,h.2.2⟩
section
variable{w:gx}{b B jb lb:Nat}{P:PD}{Ft FT:Nat->Prop}{a c m:Nat}{lv ov:gy}{J:Jn}{n:Int}
def A3A(w:gx)(h:JD w jb b J P FT)(ho:J.AB=none)(hn:CK (J.Ac+1))(hr:Ay (J.Ac+1))(hp:Ay J.pd)(bD:J.An.length<=1073741824)(hL:Lets B w)(hF:Fit P a c m)(hl:CT (a+1) (c+1) (m+12)):
 Ag 190 #[A5 jb] w (Aj (A0 (J.ax P).1) λw'=>Ap w FT w' (λw' aT=>JD w' jb b (J.ax P).2.1 (J.ax P).2.2 aT)):=by
 obtain⟨i0,hi,bL,bW,bT⟩:=Pf;obtain⟨lv,ov,Ft,hJ,hD,aS,aM,aN⟩:=h;have bN:ov=.pointer none:=by
  rcases hJ.AB with⟨_,h⟩|⟨n,s,lb,h,_⟩
  ·exact h
  ·rw[ho]at h;cases h
 subst bN
 have aD:Hid (J.ax P=if (P.au (Ab (Ah (J.Ac+1)))).1≠0 then ((P.au (Ab (Ah (J.Ac+1)))).1,J,(P.au (Ab (Ah (J.Ac+1)))).2) else
  if ((P.au (Ab (Ah (J.Ac+1)))).2.af (Ab (Ah (J.Ac+1))) (AI (Ah (J.Ac+1))) (AQ J.pd)).2.1≠0 then (((P.au (Ab (Ah (J.Ac+1)))).2.af (Ab (Ah (J.Ac+1))) (AI (Ah (J.Ac+1))) (AQ J.pd)).2.1,J,((P.au (Ab (Ah (J.Ac+1)))).2.af (Ab (Ah (J.Ac+1))) (AI (Ah (J.Ac+1))) (AQ J.pd)).2.2) else
  (0,⟨J.An++[J.Ac+1],J.Ac+1,J.pd,some (J.Ac+1,AY (AI (Ah (J.Ac+1))) (AQ J.pd))⟩,((P.au (Ab (Ah (J.Ac+1)))).2.af (Ab (Ah (J.Ac+1))) (AI (Ah (J.Ac+1))) (AQ J.pd)).2.2)):=rfl
 have aJ:Hid (∀w1,A4 Aa w w1->_):=λw1 hc=>A0k w1 J.pd (AW.aw hD aS hc) (λk d=>Bn (aS k d) hc.Ak) hn (hL.aL hc) hp hF hl;have bS:Hid (∀w1,A4 Aa w w1->_):=λw1 hc=>Tl w1 (hJ.ak hc) hr;generalize hR:J.ax P=R at aD ⊢;obtain⟨L,a0⟩:∃L,J.Ac+1=L:=⟨_,rfl⟩;rw[a0]at aD aJ bS hr hn;have aI:(Ah L).length<=100:=Tj hn.2.2;obtain⟨nm,aQ⟩:∃nm,Ah L=nm:=⟨_,rfl⟩;rw[aQ]at aD aJ;obtain⟨s0,aU⟩:∃s0,AI nm=s0:=⟨_,rfl⟩;have aL:s0<4294967296:=by rw[<-aU];exact K3 nm
 rw[aU]at aD aJ;obtain⟨C,hC⟩:∃C,P.au (Ab nm)=C:=⟨_,rfl⟩;rw[hC]at aD aJ;obtain⟨A,hA⟩:∃A,C.2.af (Ab nm) s0 (AQ J.pd)=A:=⟨_,rfl⟩;rw[hA]at aD aJ;have bB:AY s0 (AQ J.pd)<4294967296:=JZ _ _ aL;obtain⟨s1,aK⟩:∃s1,AY s0 (AQ J.pd)=s1:=⟨_,rfl⟩;rw[aK]at aD aJ bB;have c0:=hJ.Ae.aa.c0;have c3:=hJ.Ae.aa.c3;have bE:=A1 hJ;have a3:=A1 aM;have aG:=A1 aN;have HO:=A1 ho;have aO:=A1 a0;have bP:=A1 aQ;have a7:=A1 bD;have aZ:=A1 (bS.o w.drew (A4.C _ w).aa);have aB:=A1 (aJ.o w.drew (A4.C _ w).aa);clear hC hA hR aU aL aK aI aQ a0 hJ hD aS aM aN ho bD hL hF hl hp bS aJ;have E:Hid (∀wx,A4 Ft w.drew wx->DR wx jb b lv (.pointer none) J):=λwx X=>(bE.o.ak (A4.C Aa w).aa).Am X a3.o
 have aE:Hid (∀wx (bO:PD),Ap w.drew Ft wx (λw' z=>Bu w' b bO z)->Ap w FT wx (λw' aT=>JD w' jb b J bO aT)):=λwx bO X=>by
  obtain⟨r1,z,r2,r3,r4⟩:=X;exact Ap.jd ((A4.C Ft w).aa.tr r1) (λk _ d=>aG.o k (.inl d)) (E.o wx r1) r2 r3 (λk d X=>by rcases r4 k X with h|h;exact a3.o k d h;have:=bE.o.lt d;have h':w.heap.size<=k:=h;omega) (λk d=>(r4 k d).imp (λh=>aG.o k (.inl h)) id) (λk d=>.inl (aG.o k (.inr d)))
 by_cases hc:C.1=0
 case neg=>
  have aF:R=(C.1,J,C.2):=by rw[aD.o,Ai hc]
  subst aF;have I:Hid (Ag 236 #[A5 b,A0 L,A0 J.pd] w.drew (Aj (.tuple #[.pointer none,A0 C.1]) λw'=>Ap w.drew Ft w' (λw' z=>Bu w' b C.2 z))):=by
   refine aB.m ?_;rintro e w' (⟨_,h2,h3⟩|⟨h1,_⟩|⟨h1,_⟩)
   ·exact⟨h2,h3⟩
   ·exact absurd h1 hc
   ·exact absurd h1 hc
  have aY:(C.1 !=0)=true:=by simpa using hc
  obtain⟨C1,b6⟩:=C;dsimp only at I aY ⊢;clear aB aD
  go_enter func190,ntmps190
  go_wp2;refine Br (λw'=>A8 w' jb 0 (A5 b)/\A8 w' jb 3 (A0 J.pd)) 15
   (Ba [0,1,2,3,4,6,7,8,9,5,10,11,12,13,14] [5,10]) ⟨c0,c3⟩ ?_
  iterate 9 refine B4 ?_
  refine Bf λK O=>?_;go_simp;refine aZ.k ?_;rintro w3 rfl;refine O _ _ ⟨c0,c3⟩ (λhS=>?_);clear O K hS;refine Bf λK O=>?_;go_simp;refine I.k ?_;rintro w4 hI;have k4:=E.o w4 hI.1;refine O _ _ ⟨k4.Ae.c0,k4.Ae.c3⟩ (λhS=>?_);have bQ:=A1 (aE.o w4 b6 hI);clear O K hS hI k4 I aE E
  iterate 4 refine B4 ?_
  refine Bo ?_;go_wp2;go_ret;exact⟨rfl,bQ.o⟩
 case pos=>
 by_cases ha:A.2.1=0
 case neg=>
  have aF:R=(A.2.1,J,A.2.2):=by rw[aD.o,Af (by simpa using hc),Ai ha]
  subst aF;have I:Hid (Ag 236 #[A5 b,A0 L,A0 J.pd] w.drew (Aj (.tuple #[.pointer none,A0 A.2.1]) λw'=>Ap w.drew Ft w' (λw' z=>Bu w' b A.2.2 z))):=by
   refine aB.m ?_;rintro e w' (⟨h1,_⟩|⟨_,_,h2,h3⟩|⟨_,h1,_⟩)
   ·exact absurd hc h1
   ·exact⟨h2,h3⟩
   ·exact absurd h1 ha
  have aY:(A.2.1 !=0)=true:=by simpa using ha
  obtain⟨b3,b2,b0⟩:=A;dsimp only at I aY ⊢;clear aB aD
  go_enter func190,ntmps190
  go_wp2;refine Br (λw'=>A8 w' jb 0 (A5 b)/\A8 w' jb 3 (A0 J.pd)) 15
   (Ba [0,1,2,3,4,6,7,8,9,5,10,11,12,13,14] [5,10]) ⟨c0,c3⟩ ?_
  iterate 9 refine B4 ?_
  refine Bf λK O=>?_;go_simp;refine aZ.k ?_;rintro w3 rfl;refine O _ _ ⟨c0,c3⟩ (λhS=>?_);clear O K hS;refine Bf λK O=>?_;go_simp;refine I.k ?_;rintro w4 hI;have k4:=E.o w4 hI.1;refine O _ _ ⟨k4.Ae.c0,k4.Ae.c3⟩ (λhS=>?_);have bQ:=A1 (aE.o w4 b0 hI);clear O K hS hI k4 I aE E
  iterate 4 refine B4 ?_
  refine Bo ?_;go_wp2;go_ret;exact⟨rfl,bQ.o⟩
 case pos=>
  have aF:R=(0,⟨J.An++[L],L,J.pd,some (L,s1)⟩,A.2.2):=by rw[aD.o,Af (by simpa using hc),Af (by simpa using ha)]
  subst aF;have I:Hid (Ag 236 #[A5 b,A0 L,A0 J.pd] w.drew λe w'=>∃lb,e=.returned (.tuple #[A5 lb,A0 0])/\w.drew.heap.size<=lb/\Bi w' lb 237 (A5 b) ⟨nm.toArray⟩ s1/\A4 Ft w.drew w'/\∃z,Bu w' b A.2.2 z/\(∀k,z k->k<w'.heap.size)/\(∀k,z k->Ft k\/w.drew.heap.size<=k)/\¬z lb):=by
   refine aB.m ?_;rintro e w' (⟨h1,_⟩|⟨_,h1,_⟩|⟨_,_,h2⟩)
   ·exact absurd hc h1
   ·exact absurd ha h1
   ·exact h2
  obtain⟨b3,b2,b0⟩:=A;dsimp only at I ⊢;clear aB aD aE
  go_enter func190,ntmps190
  go_wp2;refine Br (λw'=>A8 w' jb 0 (A5 b)/\A8 w' jb 3 (A0 J.pd)) 15
   (Ba [0,1,2,3,4,6,7,8,9,5,10,11,12,13,14] [5,10]) ⟨c0,c3⟩ ?_
  iterate 9 refine B4 ?_
  refine Bf λK O=>?_;go_simp;refine aZ.k ?_;rintro w3 rfl;refine O _ _ ⟨c0,c3⟩ (λhS=>?_);clear O K hS;refine Bf λK O=>?_;go_simp;refine I.m ?_;rintro e w4⟨lb,rfl,aI,a5,aW,bG,q1,q2,q3,q4⟩;have k4:=E.o w4 aW;refine O _ _ ⟨k4.Ae.c0,k4.Ae.c3⟩ (λhS=>?_);have a2:=A1 k4;have bK:Hid (w.heap.size<=lb):=aI;have aV:=A1 a5;have bY:Hid (A4 Ft w w4):=(A4.C Ft w).aa.tr aW;have cA:=A1 q1;have bX:=A1 q2;have bH:Hid (∀k,bG k->Ft k\/w.heap.size<=k):=q3;have b1:=A1 q4;clear O K hS aW aI a5 q1 q2 q3 q4 I E
  iterate 4 refine B4 ?_
  refine Bo ?_;have b5:=a2.o.Ae.s4 (A5 lb);have g44:=k4.Ae.c4;have f44:=k4.Ae.fz 4;have g52:=b5.c2;have f52:=b5.fz 2;have bI:=A1 (b5.s2 L);have ew:wrap64 (J.Ac+1)=L:=by have:=aO.o;have:=hr.1;have:=hr.2;unfold wrap64;omega
  have ew2:IntKind.i64.wrap (J.Ac+1)=L:=by have:=aO.o;have:=hr.1;have:=hr.2;simp[IntKind.wrap,IntKind.bits,IntKind.signed];omega
  have c5:A4 (One jb) w4 ((w4.setCell (A9 jb 4) (A5 lb)).setCell (A9 jb 2) (A0 L)):=((A4.C (One jb) w4).ao (b:=jb) rfl 4 _).ao (b:=jb) rfl 2 _;have a4:=A1 c5;clear b5 k4 c5;have bA:Hid (lb≠jb):=aV.o.dP a2.o.Ae;have aH:Hid (∀g,lv.ownBlock=some g->g≠jb/\g≠lb):=λg Y=>⟨a2.o.ne Y,aV.o.dh a2.o.An Y⟩
  go_wp2;generalize (w4.setCell (A9 jb 4) (A5 lb)).setCell (A9 jb 2) (A0 L)=w6 at bI a4 ⊢;have aX:Hid (w6.ownsRow 0 3 1 lv J.An.length (E8 J.An)):=Au a2.o.An λg Y=>a4.o.Al g (Aw a2.o.An Y) (aH.o g Y).1;have bR:=A1 (aV.o.al a4.o bA.o);have b4:=bI.o.aa.c1;have b8:=bI.o.aa.c2;obtain⟨ap,cp,rfl,hcap1,a1,-⟩:=B8 aX.o;unfold maxLen at a1;refine Br (λw'=>A8 w' jb 1 (.slice ap J.An.length cp)/\A8 w' jb 2 (A0 L)) 11
   (Ba [0,1,2,3,4,5,6,7,8,9,10] [9,10]) ⟨b4,b8⟩ ?_
  iterate 9 refine B4 ?_
  refine Bf λK O=>?_;go_simp;have ka:A4 Aa w6 (w6.aC #[A0 L] 3).drew:=((A4.C _ _).aj _).aa;have bJ:=bI.o.al ka (λh=>h);have bV:Hid ((w6.aC #[A0 L] 3).drew.ownsRow 0 3 1 (.slice ap J.An.length cp) J.An.length (E8 J.An)):=Au aX.o λg Y=>ka.Al g (Aw aX.o Y) (λh=>h);have bF:Hid (Src Tryz.prog 1 26 (AA w6.heap.size 1 1) 1 #[A0 L].toList (w6.aC #[A0 L] 3).drew):=by
   have hb:(w6.aC #[A0 L] 3).drew.heap[w6.heap.size]?=some (.cells #[A0 L] 3 (0,0)):=Bl w6 _;exact Src.cc Hk hb 1 1 rfl (Ko [L])
  refine O _ _ ⟨bJ.c1,bJ.c2⟩ (λhS=>?_);refine Dv rfl (by rfl) (λK O=>?_);refine HP (.tmp 37) (.tmp 42) 26 26 rfl 3 i0 _ 1 8 Hk hi bL bW bT rfl (by decide) (.slice ap J.An.length cp) J.An.length (E8 J.An) (by rfl) bV.o _ 1 _ (by rfl) bF.o (by have:=a7.o;omega) ?_;intro a8 W w8 hA;have aP:=hA.Am (S:=λk=>(Value.slice ap J.An.length cp).ownBlock=some k) λ_ h=>h;have a6:=bJ.al aP (λh=>(aH.o _ h).1 rfl);refine O _ _ ⟨a6.c1,a6.c2⟩ (λhS=>?_);have g81:=a6.c1;have f81:=a6.fz 1;have b7:=A1 (a6.s1 (.slice a8 (J.An.length+1) W));have bU:=A1 ((bR.o.al ka (λh=>h)).al aP (λh=>(aH.o _ h).2 rfl));have a9:=A1 hA.AB;have bM:=A1 hA.BY;have bZ:Hid (A4 (λk=>(Value.slice ap J.An.length cp).ownBlock=some k) w6 w8):=(ka.aT).tr aP;have b9:Hid (w6.heap.size<=w8.heap.size/\w6.heap.size<=(w6.aC #[A0 L] 3).drew.heap.size):=⟨bZ.o.Ak,ka.Ak⟩;refine Bo ?_;go_wp2;go_ret;have aA:∀g,(Value.slice a8 (J.An.length+1) W).ownBlock=some g->(Value.slice ap J.An.length cp).ownBlock=some g\/w6.heap.size<=g:=λg Y=>by
   rcases bM.o with h|h
   ·rw[h]at Y;exact .inl Y
   ·rw[h]at Y;cases Y;exact .inr b9.o.2
  have s46:=a4.o.Ak;have s04:=bY.o.Ak;have jbl:=bE.o.Ae.lt;have bC:∀g,(Value.slice a8 (J.An.length+1) W).ownBlock=some g->g≠jb:=λg Y=>by
   rcases aA g Y with h|h
   ·exact(aH.o g h).1
   ·omega
  have kf:A4 (One jb) w8 (w8.setCell (A9 jb 1) (.slice a8 (J.An.length+1) W)):=(A4.C (One jb) w8).ao (b:=jb) rfl 1 _;have aR:A4 (λk=>k=jb\/(Value.slice ap J.An.length cp).ownBlock=some k) w4 (w8.setCell (A9 jb 1) (.slice a8 (J.An.length+1) W)):=
   ((a4.o.ai λ_ _ h=>.inl h).AH bZ.o λ_ h _=>.inr h).AH kf λ_ h _=>.inl h
  refine⟨rfl,Ap.jd (lv:=.slice a8 (J.An.length+1) W) (ov:=(A5 lb)) (Ft:=bG) ((bY.o.ai (S':=λk=>Ft k\/k=jb\/(Value.slice ap J.An.length cp).ownBlock=some k) λ_ _ h=>.inl h).AH aR λ_ h _=>.inr h) ?_ ⟨b7.o,?_,.inr ⟨L,s1,lb,rfl,rfl,?_,bB⟩⟩ ?_ ?_ ?_ ?_ ?_⟩
  ·rintro k _ (h|rfl|h)
   ·exact aG.o k (.inl h)
   ·exact aG.o _ (.inr (.inl rfl))
   ·exact aG.o k (.inr (.inr (.inl h)))
  ·(have e:(J.An++[L]).length=J.An.length+1:=by simp);unfold DT;rw[Lv,e];exact Au a9.o λg Y=>Fw _ _ _ _ (λe=>bC g Y e)
  ·rw[bP.o];exact bU.o.al kf bA.o
  ·refine AW.aM cA.o (aR.aw bX.o λk d X=>?_);rcases bH.o k d with h|h
   ·rcases X with rfl|X
    ·exact a3.o _ (.inl rfl) h
    ·exact a3.o k (.inr (.inl X)) h
   ·rcases X with rfl|X
    ·omega
    ·have:=Aw bE.o.An X;omega
  ·exact λk d=>Bn (bX.o k d) aR.Ak
  ·rintro k (rfl|d|d) X
   ·rcases bH.o _ X with h|h
    ·exact a3.o _ (.inl rfl) h
    ·omega
   ·rcases aA k d with h|h
    ·rcases bH.o k X with h' | h'
     ·exact a3.o k (.inr (.inl h)) h'
     ·have:=Aw bE.o.An h;omega
    ·have:=bX.o k X;omega
   ·cases d;exact b1.o X
  ·exact λk d=>(bH.o k d).imp (λh=>aG.o k (.inl h)) id
  ·rintro k (rfl|d|d)
   ·exact .inl (aG.o _ (.inr (.inl rfl)))
   ·rcases aA k d with h|h
    ·exact .inl (aG.o k (.inr (.inr (.inl h))))
    ·exact .inr (by omega)
   ·cases d;exact .inr bK.o
end
def Pb{w:gx}{jb b:Nat}{lv ov:gy}{J:Jn}(h:DR w jb b lv ov J){n:Int}{s:Nat}(z:J.AB=some (n,s)):∃lb,ov=(A5 lb)/\Bi w lb 237 (A5 b) ⟨(Ah n).toArray⟩ s/\s<4294967296:=by
 rcases h.AB with⟨d,_⟩|⟨n',s',lb,d,E,L,I⟩
 ·rw[z]at d;cases d
 ·rw[z]at d;cases d;exact⟨lb,E,L,I⟩
section
variable{w w' w1 w2:gx}{b B jb lb pb:Nat}{P:PD}{Ft FT:Nat->Prop}{a c m:Nat}{lv ov:gy}{J:Jn}{n:Int}{s:Nat}
def DR.fw{P':PD}(E:DR w jb b lv (.pointer (some ⟨lb,0,none⟩)) J)(ho:J.AB=some (n,s))(_hlt:∀k,Ft k->k<w.heap.size)(z:∀k,Dr jb lv (.pointer (some ⟨lb,0,none⟩)) k->¬Ft k)(d:∀k,Ft k\/Dr jb lv (.pointer (some ⟨lb,0,none⟩)) k->FT k){s':Nat}(O:s'<4294967296)(hf:Bi w' lb 237 (.pointer (some ⟨b,0,none⟩)) ⟨(Ah n).toArray⟩ s')(hI:JU w Ft lb w' b P'):
 Ap w FT w' (λw' X=>JD w' jb b {J with AB:=some (n,s')} P' X):=by
 have⟨lb',e,h3,_⟩:=Pb E ho;cases e;obtain⟨W,Ft',r2,r3,Y⟩:=hI;have n1:lb≠jb:=h3.dP E.Ae;have n2:∀g,lv.ownBlock=some g->g≠lb:=λg L=>h3.dh E.An L;refine Ap.jd W ?_ ⟨E.Ae.al W ?_,?_,.inr ⟨n,s',lb,rfl,rfl,hf,O⟩⟩ r2 r3 ?_ ?_ ?_
 ·rintro k _ (h|rfl)
  ·exact d k (.inl h)
  ·exact d _ (.inr (.inr (.inr rfl)))
 ·rintro (h|h)
  ·exact z _ (.inl rfl) h
  ·exact n1 h.symm
 ·exact Au E.An λg L=>W.Al g (Aw E.An L) λh=>by
   rcases h with h|h
   ·exact z g (.inr (.inl L)) h
   ·exact n2 g L h
 ·exact λk I hx=>by
   rcases Y k hx with h|h
   ·exact z k I h
   ·have:=E.lt I;omega
 ·exact λk I=>(Y k I).imp (λh=>d k (.inl h)) id
 ·exact λk I=>.inl (d k (.inr I))
def A08(w:gx)(p:Pu)(h:JD w jb b J P FT)(hp:Bm p)(hn:J.AB=none->CK (J.Ac+1)/\Ay (J.Ac+1)/\Ay J.pd)(bH:J.An.length<=1073741824)(hL:Lets B w)(hF:Fit P a c m)(hl:CT (a+1) (c+1) (m+33)):
 Ag 148 #[A5 jb,DK p] w (Aj (.tuple #[.bool (J.af P p).1,A0 (J.af P p).2.1]) λw'=>Ap w FT w' (λw' I=>JD w' jb b (J.af P p).2.2.1 (J.af P p).2.2.2 I)):=by
 obtain⟨E,z,d⟩:=p;unfold DK;dsimp only
 obtain⟨O,L,W,aD,bF,aL,aM,aG⟩:=h;have a5:CT (a+1) (c+1) (m+12):=⟨hl.a,hl.c,by have:=hl.m;omega⟩;have bG:Ce (w.aC #[A0 E,A0 z,A0 d] 113) w.heap.size E z d:=Bl w _;have k0:A4 Aa w (w.aC #[A0 E,A0 z,A0 d] 113):=(A4.C _ w).aj _;have sz:w.heap.size<(w.aC #[A0 E,A0 z,A0 d] 113).heap.size:=by simp
 have hex:JD w jb b J P (λk=>W k\/Dr jb O L k):=⟨O,L,W,aD,bF,aL,aM,λ_ h=>h⟩;have aN:∀k,(W k\/Dr jb O L k)->k<w.heap.size:=λk hk=>hk.elim (aL k) λh=>aD.lt h;have h1:JD (w.aC #[A0 E,A0 z,A0 d] 113) jb b J P (λk=>W k\/Dr jb O L k):=hex.aM (k0.aw aN λ_ _ h=>h) k0.Ak;have a8:=hL.aL k0
 have AD:Hid (∀(w1:gx) (aA:Jn) (aB:PD) (X:Nat->Prop) (n:Int) (s:Nat),A4 (λk=>W k\/Dr jb O L k) (w.aC #[A0 E,A0 z,A0 d] 113) w1->(∀k,X k->(W k\/Dr jb O L k)\/(w.aC #[A0 E,A0 z,A0 d] 113).heap.size<=k)->JD w1 jb b aA aB X->aA.AB=some (n,s)->Fit aB (a+1) (c+1) (m+12)->
  ∃lb,A8 w1 jb 4 (A5 lb)/\Ce w1 w.heap.size E z d/\Ag 191 #[A5 lb,.agg #[A0 E,A0 z,A0 d]] w1.drew (Aj (.tuple #[.bool (aA.aF aB (E,z,d)).1,A0 (aA.aF aB (E,z,d)).2.1]) λw'=>
   w'.cell? (A9 jb 4)=some (A5 lb)/\Ce w' w.heap.size E z d/\Ap w FT w' (λw' I=>JD w' jb b (aA.aF aB (E,z,d)).2.2.1 (aA.aF aB (E,z,d)).2.2.2 I))):=λw1 aA aB X n s aU aQ bE aR bC=>by
  obtain⟨lv,ov,Ft,hJ,hD,aO,aE,aF⟩:=bE;obtain⟨lb,rfl,h3,h4⟩:=Pb hJ aR;have aJ:=bG.al aU (λhx=>by have:=aN _ hx;omega);have aY:¬X w.heap.size:=λhx=>by
   rcases aQ _ hx with h|h
   ·have:=aN _ h;omega
   ·omega
  have kd:A4 Aa w1 w1.drew:=(A4.C _ w1).aa;have a1:=hJ.ak kd;have aK:∀k,Ft k->k<w1.drew.heap.size:=aO;refine⟨lb,hJ.Ae.c4,aJ,(A4e (E,z,d) _ s (h3.al kd (λh=>h)) h4 (AW.aw hD aO kd) aK (λhx=>aE _ (.inr (.inr rfl)) hx) hp bC ⟨hl.a,hl.c,by have:=hl.m;omega⟩).mono ?_⟩;rintro e w'⟨rfl,hf,Y⟩;have he:aA.aF aB (E,z,d)=((aB.af (Ab (Ah n)) s (Bg E z d)).1,(aB.af (Ab (Ah n)) s (Bg E z d)).2.1,{aA with AB:=some (n,AY s (Bg E z d))},(aB.af (Ab (Ah n)) s (Bg E z d)).2.2):=by unfold Jn.aF;rw[aR]
  rw[he];have a9:=DR.fw a1 aR aK aE aF (JZ s (Bg E z d) h4) hf Y
  have a7:CM w' jb b lv aA.Ac aA.pd (A5 lb):=a1.Ae.al Y.1 (by
   rintro (h|h)
   ·exact aE _ (.inl rfl) h
   ·exact h3.dP hJ.Ae h.symm)
  refine⟨rfl,a7.c4,aJ.aa.al Y.1 (by
   rintro (h|h)
   ·exact aY (aF _ (.inl h))
   ·exact aY (aF _ (.inr (.inr (.inr (by rw[h])))))),?_⟩
  have hall:Ap (w.aC #[A0 E,A0 z,A0 d] 113) (λk=>W k\/Dr jb O L k) w' (λw' I=>JD w' jb b {aA with AB:=some (n,AY s (Bg E z d))} (aB.af (Ab (Ah n)) s (Bg E z d)).2.2 I):=by
   have⟨q1,Ft',q2,q3,q4⟩:=a9.a1 kd;exact⟨aU.AH q1 λx hx aO=>(aQ x hx).resolve_right (by omega),Ft',q2,q3,λk hk=>(q4 k hk).elim (λh=>aQ k h) λh=>.inr (AP aU.Ak h)⟩
  exact(hall.a1 k0).aW aG
 by_cases ho:J.AB=none
 case pos=>
  have aV:L=.pointer none:=by
   rcases aD.AB with⟨_,h⟩|⟨n,s,lb,h,_⟩
   ·exact h
   ·rw[ho]at h;cases h
  have⟨n1,n2,n3⟩:=hn ho;have a2:=A1 (A3A _ h1 ho n1 n2 n3 bH a8 hF a5);have c4:=(aD.ak k0).Ae.c4;rw[aV]at c4;have aW:Hid (J.af P (E,z,d)=if (J.ax P).1≠0 then (false,(J.ax P).1,(J.ax P).2.1,(J.ax P).2.2) else (J.ax P).2.1.aF (J.ax P).2.2 (E,z,d)):=by unfold Hid Jn.af;rw[Ai ho]
  have aT:Hid (Fit (J.ax P).2.2 (a+1) (c+1) (m+12)):=by
   (have hp:(AT (AI (Ah (J.Ac+1))) (AQ J.pd)).length=12:=by simp[AT,HQ,CP]);have a0:=hF.au (Ab (Ah (J.Ac+1)));have aP:=a0.av (Ab (Ah (J.Ac+1))) (AT (AI (Ah (J.Ac+1))) (AQ J.pd));rw[hp]at aP;unfold Hid Jn.ax;split
   ·exact a0.ai (Ao _) (Ao _) (by omega)
   ·dsimp only
    split
    ·exact aP
    ·exact aP
  have bA:Hid ((J.ax P).1=0->∃n s,(J.ax P).2.1.AB=some (n,s)):=λh0=>by
   unfold Jn.ax at h0 ⊢;split
   ·rename_i hc;rw[Ai hc]at h0;exact absurd h0 hc
   ·rename_i hc;rw[Af hc]at h0;dsimp only at h0 ⊢;split
    ·rename_i hd;rw[Ai hd]at h0;exact absurd h0 hd
    ·exact⟨_,_,rfl⟩
  have bD:Hid (∀wx bB bI,Ap (w.aC #[A0 E,A0 z,A0 d] 113) (λk=>W k\/Dr jb O L k) wx (λw' I=>JD w' jb b bB bI I)->Ap w FT wx (λw' I=>JD w' jb b bB bI I)):=λwx bB bI hx=>(hx.a1 k0).aW aG
  generalize hR:J.af P (E,z,d)=R at aW ⊢;generalize hG:J.ax P=G at a2 aW aT bA;obtain⟨a6,a4,a3⟩:=G;dsimp only at a2 aW aT bA;by_cases hg:a6=0
  case neg=>
   (have aH:R=(false,a6,a4,a3):=by rw[aW.o,Ai hg]);subst aH;(have hgb:(a6 !=0)=true:=by simpa using hg)
   go_enter func148,ntmps148
   go_wp2_with (go_at_call 190;refine a2.k ?_;rintro w2 Y;have aX:=A1 (bD.o _ _ _ Y));go_ret2;exact⟨rfl,aX.o⟩
  case pos=>
   subst hg;(have aH:R=a4.aF a3 (E,z,d):=by rw[aW.o,Af (by simp)]);have⟨n,s,aI⟩:=bA.o rfl
   have aZ:Hid (∀w2,Ap (w.aC #[A0 E,A0 z,A0 d] 113) (λk=>W k\/Dr jb O L k) w2 (λw' I=>JD w' jb b a4 a3 I)->∃lb,A8 w2 jb 4 (A5 lb)/\Ce w2 w.heap.size E z d/\Ag 191 #[A5 lb,.agg #[A0 E,A0 z,A0 d]] w2.drew (Aj (.tuple #[.bool R.1,A0 R.2.1]) λw'=>
    w'.cell? (A9 jb 4)=some (A5 lb)/\Ce w' w.heap.size E z d/\Ap w FT w' (λw' I=>JD w' jb b R.2.2.1 R.2.2.2 I))):=λw2 Y=>by
    obtain⟨q1,X,q2,q3,q4⟩:=Y;rw[aH];exact AD.o w2 a4 a3 X n s q1 q4 q2 aI aT.o
   obtain⟨bL,bK,bJ,bM⟩:=R;dsimp only at aZ
   go_enter func148,ntmps148
   go_wp2_with (fail);refine a2.k ?_;rintro w2 Y;have⟨lb,c24,pb2,AL⟩:=aZ.o w2 Y;have aS:=A1 AL;have d4:A8 w2.drew jb 4 (A5 lb):=c24;have d0:=pb2.aa.c0;have d1:=pb2.aa.c1;have d2:=pb2.aa.c2;go_wp2;refine Br (λw'=>A8 w' jb 4 (A5 lb)/\A8 w' w.heap.size 0 (A0 E)/\A8 w' w.heap.size 1 (A0 z)/\A8 w' w.heap.size 2 (A0 d)) 8
    (Ba [0,1,2,3,4,5,6,7] [5]) ⟨d4,d0,d1,d2⟩ ?_
   iterate 5 refine B4 ?_
   refine Bf λK hK=>?_;go_simp;refine aS.k ?_;rintro w3⟨e4,eb,Y⟩;refine hK _ _ ⟨e4,eb.c0,eb.c1,eb.c2⟩ (λhS=>?_);have aX:=A1 Y
   iterate 2 refine B4 ?_
   refine Bo ?_;go_wp2;go_ret2;exact⟨rfl,aX.o⟩
 case neg=>
  obtain⟨⟨n,s⟩,aI⟩:∃x,J.AB=some x:=Qc.1 ho;obtain⟨lb0,aV,-,-⟩:=Pb aD aI;have aH:J.af P (E,z,d)=J.aF P (E,z,d):=by unfold Jn.af;rw[Af ho]
  have⟨lb,c24,pb2,AL⟩:=AD.o _ J P _ n s (A4.C _ _) (λk hk=>.inl hk) h1 aI (hF.ai (by omega) (by omega) (by omega));rw[<-aH]at AL;generalize hR:J.af P (E,z,d)=R at AL ⊢;obtain⟨bL,bK,bJ,bM⟩:=R;dsimp only at AL ⊢;have aS:=A1 AL;have d4:(w.aC #[A0 E,A0 z,A0 d] 113).drew.cell? (A9 jb 4)=some (A5 lb):=c24;have d0:=pb2.aa.c0;have d1:=pb2.aa.c1;have d2:=pb2.aa.c2
  go_enter func148,ntmps148
  go_wp2;refine Br (λw'=>A8 w' jb 4 (A5 lb)/\A8 w' w.heap.size 0 (A0 E)/\A8 w' w.heap.size 1 (A0 z)/\A8 w' w.heap.size 2 (A0 d)) 8
   (Ba [0,1,2,3,4,5,6,7] [5]) ⟨d4,d0,d1,d2⟩ ?_
  iterate 5 refine B4 ?_
  refine Bf λK hK=>?_;go_simp;refine aS.k ?_;rintro w3⟨e4,eb,Y⟩;refine hK _ _ ⟨e4,eb.c0,eb.c1,eb.c2⟩ (λhS=>?_);have aX:=A1 Y
  iterate 2 refine B4 ?_
  refine Bo ?_;go_wp2;go_ret2;exact⟨rfl,aX.o⟩
end
end
section
open Go.RowKit
def De(w:gx)(ab b xb jb:Nat)(lh:Int)(ov:gy):Prop:=w.heap[ab]?=some (.cells #[.pointer (some ⟨b,0,none⟩),.pointer (some ⟨xb,0,none⟩),.pointer (some ⟨jb,0,none⟩),.int .i64 lh,ov] 150 (0,0))
section
variable{w w':gx}{ab b xb jb:Nat}{lh:Int}{ov:gy}
def De.c0(h:De w ab b xb jb lh ov):A8 w ab 0 (A5 b):=by unfold De at h;simp[A8,World.cell?,h]
def De.c1(h:De w ab b xb jb lh ov):A8 w ab 1 (A5 xb):=by unfold De at h;simp[A8,World.cell?,h]
def De.c2(h:De w ab b xb jb lh ov):A8 w ab 2 (A5 jb):=by unfold De at h;simp[A8,World.cell?,h]
def De.c3(h:De w ab b xb jb lh ov):A8 w ab 3 (A0 lh):=by unfold De at h;simp[A8,World.cell?,h]
def De.c4(h:De w ab b xb jb lh ov):A8 w ab 4 ov:=by unfold De at h;simp[A8,World.cell?,h]
def De.fz(h:De w ab b xb jb lh ov)(o:Nat):w.frozen? (A9 ab o)=false:=by unfold De at h;simp[World.frozen?,h]
def De.lt(h:De w ab b xb jb lh ov):ab<w.heap.size:=By h
def De.s3(h:De w ab b xb jb lh ov)(x:Int):De (w.setCell (A9 ab 3) (A0 x)) ab b xb jb x ov:=BQ h
def De.s4(h:De w ab b xb jb lh ov)(x:gy):De (w.setCell (A9 ab 4) x) ab b xb jb lh x:=BQ h
def De.aa(h:De w ab b xb jb lh ov):De w.drew ab b xb jb lh ov:=by unfold De at h ⊢;exact h
def De.al{S:Nat->Prop}(h:De w ab b xb jb lh ov)(d:A4 S w w')(z:¬S ab):De w' ab b xb jb lh ov:=d.al h z
end
def FM(ab xb jb:Nat)(sv ov lv jo:gy)(k:Nat):Prop:=k=ab\/k=xb\/sv.ownBlock=some k\/ov.ownBlock=some k\/Dr jb lv jo k
structure Ct (w:gx) (ab b xb jb:Nat) (sv ov lv jo:gy) (A:Ar) (P:PD) (Ft:Nat->Prop):Prop where
 Ae:De w ab b xb jb A.Ac ov
 ix:Ca w xb 162 b AJ (AI AJ) A.ix.Bd sv
 sd:Dg w sv A.ix.sd
 AR:H9 w ov A.AR
 jn:DR w jb b lv jo A.j
 dk:Bu w b P Ft
 lt:∀k,Ft k->k<w.heap.size
 Dn:∀k,FM ab xb jb sv ov lv jo k->¬Ft k
 FP:∀g,sv.ownBlock=some g->g≠ab/\g≠xb/\¬Dr jb lv jo g
 Gx:∀g,ov.ownBlock=some g->g≠ab/\g≠xb/\¬Dr jb lv jo g
 G8:∀k,Dr jb lv jo k->k≠ab/\k≠xb
def AD(w:gx)(ab b:Nat)(A:Ar)(P:PD)(FT:Nat->Prop):Prop:=
 ∃xb jb sv ov lv jo Ft,Ct w ab b xb jb sv ov lv jo A P Ft/\∀k,Ft k\/FM ab xb jb sv ov lv jo k->FT k
section
variable{w w':gx}{ab b xb jb:Nat}{sv ov lv jo:gy}{A:Ar}{P P':PD}{Ft FT:Nat->Prop}
def Ct.bK(h:Ct w ab b xb jb sv ov lv jo A P Ft){k:Nat}(d:FM ab xb jb sv ov lv jo k):k<w.heap.size:=by
 rcases d with rfl|rfl|d|d|d
 ·exact h.Ae.lt
 ·exact h.ix.lt
 ·exact h.sd.lt d
 ·exact h.AR.lt d
 ·exact h.jn.lt d
def Ct.b0(h:Ct w ab b xb jb sv ov lv jo A P Ft){k:Nat}(d:Ft k\/FM ab xb jb sv ov lv jo k):k<w.heap.size:=d.elim (h.lt k) h.bK
def Ct.ne(h:Ct w ab b xb jb sv ov lv jo A P Ft):ab≠xb:=BR h.Ae h.ix (by decide)
def Ct.aM(h:Ct w ab b xb jb sv ov lv jo A P Ft)(d:Gr (λk=>Ft k\/FM ab xb jb sv ov lv jo k) w w')(I:w.heap.size<=w'.heap.size):Ct w' ab b xb jb sv ov lv jo A P Ft:=
 ⟨(d ab (.inr (.inl rfl))).trans h.Ae,(d xb (.inr (.inr (.inl rfl)))).trans h.ix,h.sd.aM λg E=>d g (.inr (.inr (.inr (.inl E)))),h.AR.aM λg E=>d g (.inr (.inr (.inr (.inr (.inl E))))),
   h.jn.aM λk z=>d k (.inr (.inr (.inr (.inr (.inr z))))),AW.aM h.dk λk z=>d k (.inl z),λk z=>Bn (h.lt k z) I,h.Dn,h.FP,h.Gx,h.G8⟩
def Ct.ak(h:Ct w ab b xb jb sv ov lv jo A P Ft)(d:A4 Aa w w'):Ct w' ab b xb jb sv ov lv jo A P Ft:=h.aM (d.aw (λ_ z=>h.b0 z) λ_ _ h=>h) d.Ak
def Ct.bQ(h:Ct w ab b xb jb sv ov lv jo A P Ft)(X:Ap w Ft w' (λw' d=>Bu w' b P' d)):Ap w Ft w' (λw' d=>Ct w' ab b xb jb sv ov lv jo A P' d):=by
 obtain⟨W,d,Y,O,L⟩:=X;have E:=W.aw (λ_ z=>h.bK z) h.Dn
 exact⟨W,d,⟨(E ab (.inl rfl)).trans h.Ae,(E xb (.inr (.inl rfl))).trans h.ix,h.sd.aM λg I=>E g (.inr (.inr (.inl I))),h.AR.aM λg I=>E g (.inr (.inr (.inr (.inl I)))),
  h.jn.aM λk z=>E k (.inr (.inr (.inr (.inr z)))),Y,O,λk z hx=>(L k hx).elim (h.Dn k z) λh'=>by have:=h.bK z;omega,h.FP,h.Gx,h.G8⟩,O,L⟩
def Ct.bR{S:Nat->Prop}{E O:Nat}{z I lv' L:gy}{A':Ar}{d:Nat->Prop}(Y:Ct w' ab b E O z I lv' L A' P' d)(hc:A4 S w w')(hS:∀k,k<w.heap.size->S k->FT k)(h1:∀k,d k->FT k\/w.heap.size<=k)(h2:∀k,FM ab E O z I lv' L k->FT k\/w.heap.size<=k):
 Ap w FT w' (λw' W=>AD w' ab b A' P' W):=
 ⟨hc.ai hS,λk=>d k\/FM ab E O z I lv' L k,⟨E,O,z,I,lv',L,d,Y,λ_ h=>h⟩,λ_ X=>Y.b0 X,λk X=>X.elim (h1 k) (h2 k)⟩
def Ct.cF(_h:Ct w ab b xb jb sv ov lv jo A P Ft)(d:∀k,Ft k\/FM ab xb jb sv ov lv jo k->FT k)(L:Ap w Ft w' (λw' E=>Ct w' ab b xb jb sv ov lv jo A P' E)):Ap w FT w' (λw' I=>AD w' ab b A P' I):=by
 obtain⟨X,E,O,h3,W⟩:=L;exact O.bR X (λk _ z=>d k (.inl z)) (λk z=>(W k z).imp (λh=>d k (.inl h)) id) λk z=>.inl (d k (.inr z))
def AD.aM(h:AD w ab b A P FT)(I:Gr FT w w')(L:w.heap.size<=w'.heap.size):AD w' ab b A P FT:=by
 obtain⟨xb,jb,sv,ov,lv,jo,Ft,E,d⟩:=h;exact⟨xb,jb,sv,ov,lv,jo,Ft,E.aM (I.ai λk z=>d k z) L,d⟩
def AD.ak(h:AD w ab b A P FT)(E:A4 Aa w w'):AD w' ab b A P FT:=by
 obtain⟨xb,jb,sv,ov,lv,jo,Ft,z,d⟩:=h;exact⟨xb,jb,sv,ov,lv,jo,Ft,z.ak E,d⟩
end
def JL(w:gx)(d b h:Nat)(x:Int×gD Pu):Prop:=∃pv,Ca w h 182 b (AG x.1) (AI (AG x.1)) x.1 pv/\B1 w pv x.2/\d<=h/\∀g,pv.ownBlock=some g->d<=g
def GZ(d:gD Nat):gD Value:=d.map λg=>(A5 g)
def Y7(d:gD Nat):∀u∈GZ d,u.oneCell'=true:=by
 intro u hu;simp[GZ]at hu;obtain⟨x,_,rfl⟩:=hu;rfl
def GR(w:gx)(h b:Nat)(v:gy)(l:gD (Int×gD Pu)):Prop:=
 ∃d:gD Nat,d.length=l.length/\w.ownsRow 0 179 1 v l.length (GZ d)/\(∀g,v.ownBlock=some g->h<=g)/\∀k (E:k<d.length) (z:k<l.length),JL w h b (d[k]'E) (l[k]'z)
def JL.ak{w w':gx}{d b E:Nat}{x:Int×gD Pu}(h:JL w d b E x)(I:A4 Aa w w'):JL w' d b E x:=by
 obtain⟨pv,O,z,W,L⟩:=h;exact⟨pv,O.al I (λh=>h),Au z λg X=>I.Al g (Aw z X) (λh=>h),W,L⟩
def GR.ak{w w':gx}{z b:Nat}{v:gy}{l:gD (Int×gD Pu)}(h:GR w z b v l)(I:A4 Aa w w'):GR w' z b v l:=by
 obtain⟨d,W,E,X,L⟩:=h;exact⟨d,W,Au E λg Y=>I.Al g (Aw E Y) (λh=>h),X,λk O q2=>(L k O q2).ak I⟩
def Tryz.e6:(Tryz.prog.info? 179).map (λi=>(i.zero,i.size,i.bytes))=some (some (.pointer none),1,8):=by kernel_rfl
def Yh:∃d,Tryz.prog.info? 179=some d/\d.zero=some (.pointer none)/\d.size=1/\d.bytes=8:=by
 have h:=Tryz.e6;cases hx:Tryz.prog.info? 179 with
 | none=>rw[hx]at h;cases h
 | some i=>rw[hx]at h;simp at h;exact⟨i,rfl,h.1,h.2.1,h.2.2⟩
end
section
open Go.RowKit
attribute [local go_sem ↓] CL
section
variable{w:gx}{ab b xb jb B:Nat}{sv ov lv jo:gy}{A:Ar}{P:PD}{Ft:Nat->Prop}{a c m:Nat}
def Yc(P:PD)(n:Int)(r:gD Int):P.sd (n::r)=match P.CD n with
 | none=>none
 | some l=>(P.sd r).map λx=>(n,l):: x:=rfl
def RF(w:gx)(E:gD Int)(a0:A8 w ab 0 (A5 b))(a1:A8 w ab 1 (A5 xb))(x4:A8 w xb 4 sv)(a5:Dg w sv E)(aW:Bu w b P Ft)(aD:∀k,Ft k->k<w.heap.size)(hF:Fit P a c m)(hl:CT a c m)(hn:∀n∈E,CK n)(hsl:E.length<=1073741824)(hL:Lets B w):
 Ag 98 #[A5 ab] w λe w'=>
  (P.sd E=none/\e=.returned (.tuple #[.slice none 0 0,A0 7])/\A4 Aa w w')\/
  ∃l v,P.sd E=some l/\e=.returned (.tuple #[v,A0 0])/\GR w' w.heap.size b v l/\A4 Aa w w':=by
 obtain⟨i0,hi,a3,a9,a6⟩:=Yh;have aO:=A1 a5;obtain⟨sa,scap,rfl,sc1,a4⟩:=aO.o.BW;unfold maxLen at a4
 have bN:Hid (∀w1,A4 Aa w w1->∀n∈E,Ag 135 #[A5 b,A0 n] w1 λe w'=>
  (P.CD n=none/\e=.returned (.tuple #[.pointer none,A0 7])/\A4 Aa w1 w')\/
  ∃l d v,P.CD n=some l/\e=.returned (.tuple #[A5 d,A0 0])/\Ca w' d 182 b (AG n) (AI (AG n)) n v/\B1 w' v l/\(∀g,v.ownBlock=some g->w1.heap.size<=g)/\w1.heap.size<=d/\A4 Aa w1 w'):=
  λw1 hc n hm=>Z7 w1 (AW.aw aW aD hc) (λk hk=>Bn (aD k hk) hc.Ak) hF hl (hn n hm) (hL.aL hc)
 have bI:=A1 (Yc P);obtain⟨X,hX⟩:∃X,P.sd E=X:=⟨_,rfl⟩;have bO:=A1 hX;rw[hX]
 go_enter func98,ntmps98
 go_wp2;go_loopw [4,17] (λv iv wr=>∃(l:gD (Int×gD Pu)),iv=A0 l.length/\l.length<=E.length/\Hid (GR wr w.heap.size b v l/\A4 Aa w wr/\X=(P.sd (E.drop l.length)).map λr=>l++r)) (λ_ iv _=>E.length-(intOf iv).toNat)
 ·exact⟨[],rfl,Ch _,⟨[],rfl,Co _ _ _ _,λg I=>by simp[Value.ownBlock]at I,λk L=>by simp at L⟩,A4.C _ _,by rw[Ja,Dl,bO.o];cases X<;>simp⟩
 ·obtain⟨l,rfl,hk,hI⟩:=hrel;have⟨i1,i2,i3⟩:=hI.o;obtain⟨z,j1,j2,j3,j4⟩:=i1;obtain⟨ap,cp,rfl,hcap1,aJ,-⟩:=B8 j2;unfold maxLen at aJ;by_cases aB:l.length<E.length
  ·obtain⟨g,o,rfl,d1⟩:=Dg.at aO.o l.length aB;have W:=BV aB;have aI:=FK aB;generalize aU:(E[l.length]'aB)=n at d1 W aI;have e1:=i2.ah d1;have e0:=i2.ah a0;have aH:=A1 (bN.o wr i2 n W);rw[aI,bI.o]at i3;generalize hY:P.CD n=Y at aH i3;have aK:=A1 i2;have bD:=A1 i3;have bB:=A1 j1;have aT:=A1 j2;have bC:=A1 j3;have bK:=A1 j4;(have aZ:(l.length:Int)<(E.length:Int):=by omega);have hk0:(0:Int)<=(l.length:Int):=Gu _;clear hI i2 i3 j1 j2 j3 j4 d1 W aI aU hY;cases Y with
   | none=>
    (have aF:X=none:=by rw[bD.o];rfl);subst aF;have aE:Hid (Ag 135 #[A5 b,A0 n] wr λe w'=>e=.returned (.tuple #[.pointer none,A0 7])/\A4 Aa wr w'):=by
     refine aH.o.mono ?_;rintro e w' (⟨_,h2,h3⟩|⟨l,d,v,L,_⟩)
     ·exact⟨h2,h3⟩
     ·cases L
    go_wp2_with (go_at_call 135;refine aE.k ?_;rintro O aA;have aY:=A1 aA);go_ret2;exact⟨rfl,aK.o.tr aY.o⟩
   | some pl=>
    have aE:Hid (Ag 135 #[A5 b,A0 n] wr λe w'=>∃d v,e=.returned (.tuple #[A5 d,A0 0])/\Ca w' d 182 b (AG n) (AI (AG n)) n v/\B1 w' v pl/\(∀g,v.ownBlock=some g->wr.heap.size<=g)/\wr.heap.size<=d/\A4 Aa wr w'):=by
     refine aH.o.mono ?_;rintro e w' (⟨L,_⟩|⟨l,d,v,L,h2⟩)
     ·cases L
     ·cases L;exact⟨d,v,h2⟩
    have bJ:Hid (X=(P.sd (E.drop (l.length+1))).map λr=>(l++[(n,pl)])++r):=by
     unfold Hid;rw[bD.o];simp only[Option.map_map]
     congr 1
     funext r
     simp
    go_wp2_with (fail);refine aE.o.mono ?_;rintro e O⟨d,v,rfl,q1,q2,q3,q4,aA⟩;have bL:=A1 q1;have bM:=A1 q2;have bE:=A1 q3;have bF:=A1 q4;have a2:=A1 aA;have aQ:Hid ((O.alloc (.cells #[A5 d] 179)).ownsRow 0 179 1 (.slice ap l.length cp) l.length (GZ z)):=Au aT.o λg I=>(aA.aj _).Al g (Aw aT.o I) (λh=>h)
    have aV:=A1 (Src.bc (size:=1) (B:=O.heap.size) underlying154 O #[A5 d] 179 (by simp) 1 1 rfl (Y7 [d]));go_wp2_with (at_builtin;refine CU rfl (.tmp 33) (.tmp 35) 154 154 rfl 179 i0 _ 1 8 underlying154 hi a3 a9 a6 rfl (by decide) (.slice ap l.length cp) l.length (GZ z) (by rfl) aQ.o _ 1 _ (by rfl) aV.o (by omega) ?_;intro a8 cap8 w8 hA;have bG:=A1 hA);go_roundw
    ·have hA:=bG.o;have k7:A4 Aa O (O.alloc (.cells #[A5 d] 179)):=(A4.C _ O).aj _;have aL:=hA.Am (S:=λk=>(Value.slice ap l.length cp).ownBlock=some k) λ_ h=>h;have aN:A4 Aa w O:=aK.o.tr a2.o;(have a7:A4 Aa w w8:=(aN.tr k7).AH aL λy hy aD=>by have:=bC.o y hy;omega);have aM:A4 (λk=>(Value.slice ap l.length cp).ownBlock=some k) O w8:=(k7.aT).tr aL;have aR:∀(k:Nat) (c:Array gy) (e:Nat),O.heap[k]?=some (Obj.cells c e (0,0))->e≠179->¬(Value.slice ap l.length cp).ownBlock=some k:=λk c e hk he hx=>by
      have⟨c',hc'⟩:=Bb (Au aT.o λg I=>a2.o.Al g (Aw aT.o I) (λh=>h)) hx;exact BR hc' hk (λh=>he h.symm) rfl
     have aP:∀aG x,JL O w.heap.size b aG x->JL w8 w.heap.size b aG x:=λaG x hx=>by
      obtain⟨pv,L,h2,h3,h4⟩:=hx;refine⟨pv,L.al aM (aR _ _ _ L (by decide)),Au h2 λg I=>?_,h3,h4⟩;have⟨c',hc'⟩:=Bb h2 I;exact aM.Al g (Aw h2 I) (aR _ _ _ hc' (by decide))
     refine⟨l++[(n,pl)],by simp,by simp;omega,⟨z++[d],by simp[bB.o],?_,?_,?_⟩,a7,by rw[show (l++[(n,pl)]).length=l.length+1 by simp];exact bJ.o⟩
     ·(have e:(l++[(n,pl)]).length=l.length+1:=by simp);(have e2:GZ (z++[d])=GZ z++GZ [d]:=by simp[GZ]);rw[e,e2];exact hA.AB
     ·intro g I;rcases hA.BY with h|h
      ·rw[h]at I;exact bC.o g I
      ·rw[h]at I;cases I;have:=aN.Ak;have:=k7.Ak;omega
     ·intro j L h2;have aX:=bB.o;by_cases hj:j<l.length
      ·rw[Fs (show j<z.length by omega),Fs hj];exact aP _ _ ((bK.o j (by omega) hj).ak a2.o)
      ·(have bA:j=l.length:=by simp at h2;omega);subst bA;(have e1:(z++[d])[l.length]'L=d:=by simp[<-aX]);(have e2:(l++[(n,pl)])[l.length]'h2=(n,pl):=by simp);rw[e1,e2];exact aP _ _ ⟨v,bL.o,bM.o,AP aK.o.Ak bF.o,λg I=>AP aK.o.Ak (bE.o g I)⟩
    ·simp[intOf];omega
  ·(have aS:l.length=E.length:=by omega);have bH:Hid (GR wr w.heap.size b (.slice ap l.length cp) l):=⟨z,j1,j2,j3,j4⟩;have aK:=A1 i2;(have aF:X=some l:=by rw[i3,aS,GX];simp[PD.sd]);subst aF;(have aZ:¬((l.length:Int)<(E.length:Int)):=by omega);clear i2 i3 hI j1 j2 j3 j4 aS;go_wp2;go_ret2;exact⟨_,rfl,bH.o,aK.o⟩
def Yd(w:gx)(h:Ct w ab b xb jb sv ov lv jo A P Ft)(L:Fit P a c m)(z:CT a c m)(I:∀n∈A.ix.sd,CK n)(d:A.ix.sd.length<=1073741824)(E:Lets B w):
 Ag 98 #[A5 ab] w λe w'=>
  (P.sd A.ix.sd=none/\e=.returned (.tuple #[.slice none 0 0,A0 7])/\A4 Aa w w')\/
  ∃l v,P.sd A.ix.sd=some l/\e=.returned (.tuple #[v,A0 0])/\GR w' w.heap.size b v l/\A4 Aa w w':=
 RF w A.ix.sd h.Ae.c0 h.Ae.c1 h.ix.c4 h.sd h.dk h.lt L z I d E
def SM(w:gx)(aT:Nat)(v:gy)(l:gD (Int×gD Pu))(h:GR w aT b v l)(hl:l.length<=1073741824)(hq:∀x∈l,x.2.length<=m)(hm:l.length*m<=4398046511104):
 Ag 101 #[v] w λe w'=>∃v',e=.returned v'/\B1 w' v' (l.flatMap (·.2))/\(∀g,v'.ownBlock=some g->w.heap.size<=g)/\A4 Aa w w':=by
 have⟨i0,hi,hz0,hz1,hz2⟩:=DL IT;obtain⟨I,j1,j2,j3,j4⟩:=h;obtain⟨va,vcap,rfl,vc1,aK,-⟩:=B8 j2;unfold maxLen at aK;have aU:=A1 j4;have aP:=A1 j2;have aR:=A1 hq;have aV:Hid (∀k,k<=l.length->k*m<=4398046511104):=λk hk=>AP (I4 m hk) hm;clear j2 j3 j4 hq hm
 go_enter func101,ntmps101
 go_wp2;go_loopw [3,8] (λv iv wr=>∃(k:Nat) (d:gD Pu),iv=A0 k/\k<=l.length/\d.length<=k*m/\Hid (B1 wr v d/\(∀g,v.ownBlock=some g->w.heap.size<=g)/\A4 Aa w wr/\d=(l.take k).flatMap (·.2))) (λ_ iv _=>l.length-(intOf iv).toNat)
 ·exact⟨0,[],rfl,by omega,by simp,Co _ _ _ _,λg L=>by simp[Value.ownBlock]at L,A4.C _ _,rfl⟩
 ·obtain⟨k,d,rfl,hk,aM,hI⟩:=hrel;have⟨i1,i2,i3,i4⟩:=hI.o;obtain⟨ap,cp,rfl,hcap1,aA,-⟩:=B8 i1;unfold maxLen at aA;by_cases z:k<l.length
  ·(have E:k<I.length:=by omega);have O:w.cell? ((A9 ((va.map (·.block)).getD 0) k):Addr)=some (A5 (I[k]'E))/\∃g,va=some (A9 g 0):=by
    obtain⟨a',c',e,-,-,hz,-⟩:=B8 aP.o;cases e;obtain⟨g,rfl⟩:=hz (by omega);exact⟨Bv aP.o rfl (by simp[GZ,E]),g,rfl⟩
   obtain⟨aF,g,rfl⟩:=O;have W:A8 w g k (A5 (I[k]'E)):=aF;obtain⟨pv,s1,s2,-,-⟩:=aU.o k E z;have X:=aR.o _ (BV z);have Y:l.take (k+1)=l.take k++[l[k]'z]:=Dq z;obtain⟨gb,aE⟩:∃gb,(I[k]'E)=gb:=⟨_,rfl⟩;rw[aE]at W s1;obtain⟨⟨n,pl⟩,hx⟩:∃x,(l[k]'z)=x:=⟨_,rfl⟩;rw[hx]at s1 s2 Y X;dsimp only at s1 s2 X;obtain⟨pa,pc,rfl,pc1,aO,-⟩:=B8 s2;unfold maxLen at aO;have d1:=i3.ah W;have d2:=(s1.al i3 (λh=>h)).c4;have aL:=A1 i1;have aH:=A1 i2;have aG:=A1 i3;(have aN:Hid (d++pl=(l.take (k+1)).flatMap (·.2)):=by unfold Hid;rw[Y,i4];simp);have aD:=A1 (Src.bP GP (Au s2 λg L=>i3.Al g (Aw s2 L) (λh=>h)) (Hu pl));have aQ:=A1 (aV.o (k+1) z);(have aJ:(k:Int)<(l.length:Int):=by omega);have hk0:=BJ k;clear hI i1 i2 i3 i4 aF W s1 s2 Y hx aE;have aB:Hid ((d.length+pl.length)*24<=140737488355328/\d.length+pl.length<=(k+1)*m):=by
    have:=aQ.o;rw[Nw]at this;unfold Hid;rw[Nw];omega
   clear aM X aQ;go_wp2_with (at_builtin;refine CU rfl (.tmp 12) (.tmp 16) 97 97 rfl 113 i0 _ 3 24 GP hi hz0 hz1 hz2 rfl (by decide) (.slice ap d.length cp) d.length (B5 d) (by rfl) aL.o _ pl.length _ (by rfl) aD.o aB.o.1 ?_;intro a8 cap8 w8 hA;have aS:=A1 hA;clear hA);go_roundw
   ·have hA:=aS.o;have aI:=hA.Am (S:=λk=>(Value.slice ap d.length cp).ownBlock=some k) λ_ h=>h;refine⟨k+1,d++pl,by go_num,by omega,by simp only[B3];exact aB.o.2,?_,?_,?_,aN.o⟩
    ·(have e:(d++pl).length=d.length+pl.length:=by simp);unfold B1;rw[Ig,e];exact hA.AB
    ·intro g L;rcases hA.BY with h|h
     ·rw[h]at L;exact aH.o g L
     ·rw[h]at L;cases L;exact aG.o.Ak
    ·exact aG.o.AH aI λy hy hlt=>by have:=aH.o y hy;omega
   ·simp[intOf];omega
  ·(obtain rfl:k=l.length:=by omega);rw[C5]at i4;have aL:=A1 i1;have aH:=A1 i2;have aG:=A1 i3;(have aJ:¬((l.length:Int)<(l.length:Int)):=by omega);have aN:=A1 i4;clear i1 i2 i3 i4 hI;go_wp2;go_ret;exact⟨_,rfl,by rw[<-aN.o];exact aL.o,aH.o,aG.o⟩
end
def A1F(w:gx)(g X O:Nat)(aA aB:Int->gx->Prop)(hb:w.heap[g]?=some (.cells #[.func (Fn.func 118) #[A5 X] #[],.func (Fn.func 150) #[A5 O] #[]] 50 (0,0)))(h1:Ag 118 #[A5 X] w λe w'=>∃n,e=.returned (A0 n)/\aA n w'/\w'.heap[g]?=w.heap[g]?)(h2:∀d,aA 0 d->d.heap[g]?=w.heap[g]?->Ag 150 #[A5 O] d λe w'=>∃n,e=.returned (A0 n)/\aB n w'):
 Ag 117 #[AA g 2 2] w λe w'=>∃n,e=.returned (A0 n)/\((n≠0/\aA n w')\/aB n w'):=by
 have c0:A8 w g 0 (.func (Fn.func 118) #[A5 X] #[]):=by simp[A8,World.cell?,hb]
 have aE:Hid (∀d:gx,d.heap[g]?=w.heap[g]?->A8 d g 1 (.func (Fn.func 150) #[A5 O] #[])):=λd h=>by simp[A8,World.cell?,h,hb]
 have aD:=A1 h1;have aF:=A1 h2
 go_enter func117,ntmps117
 go_wp2;refine IA 3 ?_;rw[Fz];go_wp2_with (fail);refine aD.m ?_;rintro e d⟨n1,rfl,q1,k1⟩;have I:=A1 q1;have c1:=aE.o d k1;have W:=A1 k1;by_cases z:n1=0
 case neg=>
  have hb1:(n1 !=0)=true:=by simpa using z
  go_wp2;go_ret;exact⟨n1,rfl,.inl ⟨z,I.o⟩⟩
 case pos=>
 subst z;have Y:=A1 (aF.o d I.o W.o);go_wp2;rw[Fz];go_wp2_with (fail);refine Y.m ?_;rintro e w2⟨n2,rfl,q2⟩;have E:=A1 q2;by_cases L:n2=0
 case neg=>
  have hb2:(n2 !=0)=true:=by simpa using L
  go_wp2;go_ret;exact⟨n2,rfl,.inr (E.o)⟩
 case pos=>
 subst L;go_wp2;rw[Fz];go_wp2;go_ret;exact⟨0,rfl,.inr (E.o)⟩
def A1E(w:gx)(g X O:Nat)(aA aB:Int->gx->Prop)(hb:w.heap[g]?=some (.cells #[.func (Fn.func 150) #[A5 X] #[],.func (Fn.func 86) #[A5 O] #[]] 50 (0,0)))(h1:Ag 150 #[A5 X] w λe w'=>∃n,e=.returned (A0 n)/\aA n w'/\w'.heap[g]?=w.heap[g]?)(h2:∀d,aA 0 d->d.heap[g]?=w.heap[g]?->Ag 86 #[A5 O] d λe w'=>∃n,e=.returned (A0 n)/\aB n w'):
 Ag 117 #[AA g 2 2] w λe w'=>∃n,e=.returned (A0 n)/\((n≠0/\aA n w')\/aB n w'):=by
 have c0:A8 w g 0 (.func (Fn.func 150) #[A5 X] #[]):=by simp[A8,World.cell?,hb]
 have aE:Hid (∀d:gx,d.heap[g]?=w.heap[g]?->A8 d g 1 (.func (Fn.func 86) #[A5 O] #[])):=λd h=>by simp[A8,World.cell?,h,hb]
 have aD:=A1 h1;have aF:=A1 h2
 go_enter func117,ntmps117
 go_wp2;refine IA 3 ?_;rw[Fz];go_wp2_with (fail);refine aD.m ?_;rintro e d⟨n1,rfl,q1,k1⟩;have I:=A1 q1;have c1:=aE.o d k1;have W:=A1 k1;by_cases z:n1=0
 case neg=>
  have hb1:(n1 !=0)=true:=by simpa using z
  go_wp2;go_ret;exact⟨n1,rfl,.inl ⟨z,I.o⟩⟩
 case pos=>
 subst z;have Y:=A1 (aF.o d I.o W.o);go_wp2;rw[Fz];go_wp2_with (fail);refine Y.m ?_;rintro e w2⟨n2,rfl,q2⟩;have E:=A1 q2;by_cases L:n2=0
 case neg=>
  have hb2:(n2 !=0)=true:=by simpa using L
  go_wp2;go_ret;exact⟨n2,rfl,.inr (E.o)⟩
 case pos=>
 subst L;go_wp2;rw[Fz];go_wp2;go_ret;exact⟨0,rfl,.inr (E.o)⟩
def A1G(w:gx)(g p1 p2 X:Nat)(aE aF aG:Int->gx->Prop)(hb:w.heap[g]?=some (.cells #[.func (Fn.func 118) #[A5 p1] #[],.func (Fn.func 119) #[A5 p2] #[],.func (Fn.func 86) #[A5 X] #[]] 50 (0,0)))(h1:Ag 118 #[A5 p1] w λe w'=>∃n,e=.returned (A0 n)/\aE n w'/\w'.heap[g]?=w.heap[g]?)(h2:∀d,aE 0 d->d.heap[g]?=w.heap[g]?->Ag 119 #[A5 p2] d λe w'=>∃n,e=.returned (A0 n)/\aF n w'/\w'.heap[g]?=w.heap[g]?)(h3:∀d,aF 0 d->d.heap[g]?=w.heap[g]?->Ag 86 #[A5 X] d λe w'=>∃n,e=.returned (A0 n)/\aG n w'):
 Ag 117 #[AA g 3 3] w λe w'=>∃n,e=.returned (A0 n)/\((n≠0/\aE n w')\/(n≠0/\aF n w')\/aG n w'):=by
 have c0:A8 w g 0 (.func (Fn.func 118) #[A5 p1] #[]):=by simp[A8,World.cell?,hb]
 have aK:Hid (∀d:gx,d.heap[g]?=w.heap[g]?->A8 d g 1 (.func (Fn.func 119) #[A5 p2] #[])):=λd h=>by simp[A8,World.cell?,h,hb]
 have aH:Hid (∀d:gx,d.heap[g]?=w.heap[g]?->A8 d g 2 (.func (Fn.func 86) #[A5 X] #[])):=λd h=>by simp[A8,World.cell?,h,hb]
 have aJ:=A1 h1;have aL:=A1 h2;have aI:=A1 h3
 go_enter func117,ntmps117
 go_wp2;refine IA 4 ?_;rw[Fz];go_wp2_with (fail);refine aJ.m ?_;rintro e d⟨n1,rfl,q1,k1⟩;have O:=A1 q1;have c1:=aK.o d k1;have aA:=A1 k1;by_cases z:n1=0
 case neg=>
  have hb1:(n1 !=0)=true:=by simpa using z
  go_wp2;go_ret;exact⟨n1,rfl,.inl ⟨z,O.o⟩⟩
 case pos=>
 subst z;have aD:=A1 (aL.o d O.o aA.o);go_wp2;rw[Fz];go_wp2_with (fail);refine aD.m ?_;rintro e w2⟨n2,rfl,q2,k2⟩;have I:=A1 q2;have c2:=aH.o w2 k2;have aB:=A1 k2;by_cases E:n2=0
 case neg=>
  have hb2:(n2 !=0)=true:=by simpa using E
  go_wp2;go_ret;exact⟨n2,rfl,.inr (.inl ⟨E,I.o⟩)⟩
 case pos=>
 subst E;have Y:=A1 (aI.o w2 I.o aB.o);go_wp2;rw[Fz];go_wp2_with (fail);refine Y.m ?_;rintro e w3⟨n3,rfl,q3⟩;have L:=A1 q3;by_cases W:n3=0
 case neg=>
  have hb3:(n3 !=0)=true:=by simpa using W
  go_wp2;go_ret;exact⟨n3,rfl,.inr (.inr (L.o))⟩
 case pos=>
 subst W;go_wp2;rw[Fz];go_wp2;go_ret;exact⟨0,rfl,.inr (.inr (L.o))⟩
end
section
open Go.RowKit
def Tryz.fM:Go.Shelf.Ren:=⟨fun|26=>138|33=>179|34=>180|38=>234|n=>n,fun|0=>0|3=>3|4=>4|9=>9|24=>121|40=>232|n=>n,fun|n=>n⟩
def Tryz.eW:Go.Proofs.Lays2.n26 Tryz.prog Tryz.fM:={
 mixed:=by kernel_rfl
 f26:=func138.trans (Ep some (by kernel_rfl))
 f33:=func179.trans (Ep some (by kernel_rfl))
 f34:=func180.trans (Ep some (by kernel_rfl))
 f38:=func234.trans (Ep some (by kernel_rfl))
 t0:=underlying0
 a0:=isAgg0
 z0:=sizeOf0
 v0:=zeroValue0
 t3:=HZ
 a3:=isAgg3
 z3:=sizeOf3
 v3:=zeroValue3
 t4:=underlying4
 a4:=isAgg4
 z4:=sizeOf4
 v4:=zeroValue4
 t9:=GQ
 a9:=isAgg9
 z9:=sizeOf9
 v9:=zeroValue9
 t24:=HH
 a24:=isAgg121
 z24:=sizeOf121
 v24:=zeroValue121
 t40:=underlying232
 a40:=isAgg232
 z40:=sizeOf232
 v40:=zeroValue232}
def Tryz.fT:Go.Shelf.Ren:=⟨fun|41=>153|n=>n,fun|22=>97|23=>113|4=>4|n=>n,fun|n=>n⟩
def Tryz.eU:Go.Proofs.SlLaysE0.n41 Tryz.prog Tryz.fT:={
 mixed:=by kernel_rfl
 f41:=⟨Tryz.f153.name,by decide,func153.trans (Ep some (by kernel_rfl))⟩
 t4:=underlying4
 a4:=isAgg4
 z4:=sizeOf4
 v4:=zeroValue4
 t22:=GP
 a22:=isAgg97
 z22:=sizeOf97
 v22:=zeroValue97}
def V9(a b:gD UInt8):Op.bytesLess a b=decide (a<b):=by
 induction a generalizing b with
 | nil=>cases b with
  | nil=>simp[Op.bytesLess]
  | cons y r=>simp[Op.bytesLess]
 | cons x a ih=>
  cases b with
  | nil=>simp[Op.bytesLess]
  | cons y r=>
   unfold Op.bytesLess;rw[ih r];by_cases h:x<y
   ·simp[h,List.cons_lt_cons_iff]
   ·by_cases d:x=y
    ·subst d;simp
    ·(have:¬(x::a<y::r):=by rw[JT];simp[h,d]);simp[h,d,this]
end
end Go.Proofs.YtodcnkbblippnaaGreatDoor
