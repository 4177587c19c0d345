/- Part 34 of a proof: walks of the program. -/
import Derived.Sort.OwnSorted
import Derived.Sort.OwnSortedInts
import Derived.Test.YtodcnkbblippnabGreatDoorPart28
namespace Go.Proofs.YtodcnkbblippnabGreatDoor
set_option maxRecDepth 100000
set_option maxHeartbeats 32000000
set_option linter.defProp false
open Go.Proofs.Tryz
section
open Go.RowKit
attribute [local go_sem ↓] Cz
def Ax.a8{w Y w2:World}{Ft z:Nat->Prop}{R:World->(Nat->Prop)->Prop}(hc:A5 Ft w Y)(hs:∀k,z k->Ft k\/w.heap.size<=k)(h2:Ax Y z w2 R):Ax w Ft w2 R:=by
 obtain⟨W,O,I,H,X⟩:=h2;refine⟨hc.AJ W λx hx hlt=>(hs x hx).resolve_right (by omega),O,I,H,λk hk=>?_⟩;rcases X k hk with h|h
 ·exact hs k h
 ·exact .inr (AH hc.Am h)
section
variable{w:World}{ab b xb jb B:Nat}{sv ov lv jo:Value}{A:Ar}{P:PD}{Ft FT:Nat->Prop}{a c m:Nat}
def A04(h:Bh w b P Ft)(nm:Bs):
 Aj 115 #[A7 b,.string ⟨nm.toArray⟩] w (Au (A0 (P.aq (A9 nm)).1) λw'=>Ax w Ft w' (λw' z=>Bh w' b (P.aq (A9 nm)).2 z)):=Qi h (A9 nm)
def Qm(nm:Bs)(r:List Bs)(P:PD):PD.av (nm::r) P=if (P.aq (A9 nm)).1≠0 then P.aq (A9 nm) else PD.av r (P.aq (A9 nm)).2:=rfl
def X6(w:World)(h:AD w ab b A P FT):
 Aj 69 #[A7 ab] w (Au (A0 (A.aa P).1) λw'=>Ax w FT w' (λw' aT=>AD w' ab b (A.aa P).2.1 (A.aa P).2.2 aT)/\w'.cell? (Ad ab 2)=w.cell? (Ad ab 2)):=by
 obtain⟨xb,jb,sv,ov,lv,jo,Ft,hV,aM⟩:=h;have a4:=hV.Ai.c4;obtain⟨oa,aB,rfl,oc1,aZ⟩:=hV.AM.BV;unfold maxLen at aZ;have aN:=A4 hV;have I:=A4 aM;have aR:Hid (A.aa P=if (PD.av A.AM P).1≠0 then ((PD.av A.AM P).1,A,(PD.av A.AM P).2) else (0,{A with AM:=[]},(PD.av A.AM P).2)):=rfl;have a0:=A4 Qm;generalize hR:A.aa P=R at aR ⊢;obtain⟨X,hX⟩:∃X,PD.av A.AM P=X:=⟨_,rfl⟩;have a1:=A4 hX;rw[hX]at aR
 go_enter func69,ntmps69
 go_wp2;go_loopw [11] (λiv wr=>∃(k:Nat),iv=A0 k/\k<=A.AM.length/\Hid (∃aH,Ax w Ft wr (λw' O=>Ck w' ab b xb jb sv (.slice oa A.AM.length aB) lv jo A aH O)/\X=PD.av (A.AM.drop k) aH)) (λiv _=>A.AM.length-(intOf iv).toNat)
 ·exact⟨0,rfl,by omega,P,⟨A5.C _ _,Ft,aN.o,aN.o.lt,λk H=>.inl H⟩,a1.o.symm⟩
 ·obtain⟨k,rfl,H,hI⟩:=hrel;have⟨aH,hi,hx⟩:=hI.o;obtain⟨c1,aK,z,lt1,s1⟩:=hi;by_cases aE:k<A.AM.length
  ·obtain⟨g,o,rfl,d1⟩:=GB.at z.AM k aE;have aL:=Fy aE;generalize hne:(A.AM[k]'aE)=nm at d1 aL;rw[aL,a0.o]at hx;have e0:=z.Ai.c0;have aQ:=A4 (A04 z.dk nm);generalize hY:aH.aq (A9 nm)=Y at aQ hx;have aG:Hid (∀w6,Ax wr aK w6 (λw' O=>Bh w' b Y.2 O)->Ax w Ft w6 (λw' O=>Ck w' ab b xb jb sv (.slice (some (Ad g o)) A.AM.length aB) lv jo A Y.2 O)):=λw6 h6=>Ax.a8 c1 s1 (z.b7 h6);have aF:=A4 hx;(have aS:(k:Int)<(A.AM.length:Int):=by omega);have hk0:=Cd k;obtain⟨aP,aO⟩:=Y;dsimp only at aQ aG aF;by_cases hy:aP=0
   case neg=>
    (have aD:X=(aP,aO):=by rw[aF.o,Ah hy]);subst aD;(have aJ:R=(aP,A,aO):=by rw[aR.o,Ah hy]);subst aJ;(have hyb:(aP !=0)=true:=by simpa using hy);go_wp2_with (go_at_call 115;refine aQ.k ?_;rintro w6 aI;have W:=A4 (aG.o w6 aI));go_ret;have⟨_,_,hv6,_⟩:=W.o;exact⟨rfl,aN.o.cz I.o W.o,hv6.Ai.c2.trans aN.o.Ai.c2.symm⟩
   case pos=>
    subst hy;(have aV:Hid (X=PD.av (A.AM.drop (k+1)) aO):=by unfold Hid;rw[aF.o,Ae (by simp)]);go_wp2_with (go_at_call 115;refine aQ.k ?_;rintro w6 aI;have W:=A4 (aG.o w6 aI));go_roundw
    ·exact⟨k+1,by go_num,by omega,aO,W.o,aV.o⟩
    ·simp[intOf];omega
  ·(obtain rfl:k=A.AM.length:=by omega);rw[Gm]at hx;have aD:X=(0,aH):=hx;subst aD;(have aJ:R=(0,{A with AM:=[]},aH):=by rw[aR.o,Ae (by simp)]);subst aJ;(have aS:¬((A.AM.length:Int)<(A.AM.length:Int)):=by omega);have g4:=z.Ai.c4;have f4:=z.Ai.fz 4;have aX:=A4 z;have aU:=A4 c1;have aW:=A4 s1;go_wp2;go_ret;have z:=aX.o;have kz:A5 (One ab) wr (wr.sC ab 4 (.slice none 0 0)):=(A5.C (One ab) wr).ao (b:=ab) rfl 4 _;have hs:∀k,k≠ab->k<wr.heap.size->(wr.sC ab 4 (.slice none 0 0)).heap[k]?=wr.heap[k]?:=λk H hl=>kz.Ao k hl H;have aY:∀k,Dk jb lv jo k->k≠ab:=λk H=>(z.FG k H).1
   have aA:Ck (wr.sC ab 4 (.slice none 0 0)) ab b xb jb sv (.slice none 0 0) lv jo {A with AM:=[]} aH aK:=
    ⟨z.Ai.s4 _,(hs xb z.ne.symm z.ix.lt).trans z.ix,z.segs.aM λg hg=>hs g (z.Fi g hg).1 (z.segs.lt hg),Dy.b4,z.jn.aM λk H=>hs k (aY k H) (z.jn.lt H),
     B5.aM z.dk λk H=>hs k (λe=>by subst e;exact z.Dg _ (.inl rfl) H) (z.lt k H),λk H=>Bm (z.lt k H) kz.Am,
     λk H=>z.Dg k (by
      rcases H with h|h|h|h|h
      ·exact .inl h
      ·exact .inr (.inl h)
      ·exact .inr (.inr (.inl h))
      ·simp[Value.ownBlock]at h
      ·exact .inr (.inr (.inr (.inr h)))),z.Fi,λg hg=>by simp[Value.ownBlock]at hg,z.FG⟩
   refine⟨rfl,?_,aA.Ai.c2.trans aN.o.Ai.c2.symm⟩;refine(aA.bI ((aU.o.ae (S':=λk=>Ft k\/k=ab) λ_ _ h=>.inl h).AJ kz λ_ h _=>.inr h) ?_ (λk H=>(aW.o k H).imp (λh=>I.o k (.inl h)) id) ?_)
   ·rintro k _ (h|rfl)
    ·exact I.o k (.inl h)
    ·exact I.o _ (.inr (.inl rfl))
   ·intro k H;refine .inl (I.o k (.inr ?_));rcases H with h|h|h|h|h
    ·exact .inl h
    ·exact .inr (.inl h)
    ·exact .inr (.inr (.inl h))
    ·simp[Value.ownBlock]at h
    ·exact .inr (.inr (.inr (.inr h)))
def QD(w:World)(h:AD w ab b A P FT):
 Aj 69 #[A7 ab] w (Au (A0 (A.aa P).1) λw'=>Ax w FT w' (λw' z=>AD w' ab b (A.aa P).2.1 (A.aa P).2.2 z)):=
 (X6 w h).mono λ_ _ ⟨I,H,_⟩=>⟨I,H⟩
end
end
section
open Go.RowKit
def A5.cT{w w':World}(h:Below w.heap.size w w'):A5 Ab w w':=⟨h.os,h.tape,h.output,h.size,λk z _=>h.block k z⟩
def NL{w:World}{z e size n:Nat}{v:Value}{xs:List Value}(h:w.ownsRow z e size v n xs):w.ownsRow 0 e size v n xs/\∀g,v.ownBlock=some g->z<=g:=by
 refine⟨⟨h.1,?_⟩,λg O=>(h.lt g O).1⟩;rcases h.2 with I|⟨g,cap,H,I,_,W⟩
 ·exact .inl I
 ·exact .inr ⟨g,cap,H,I,C8 _,W⟩
def A10(l:List Bs):Dl l=l.map encStr:=rfl
def WW(w:World)(v:Value)(l:List Bs)(h:Dq w v l)(hl:l.length<4611686018427387904):
 Calls Tryz.prog 88 #[v] w λe w'=>e=.returned (.tuple #[])/\Dq w' v (l.mergeSort λx y=>decide (x<=y))/\A5 (λk=>v.ownBlock=some k) w w':=by
 obtain⟨h1,Y⟩:=h;rcases Y with⟨rfl,h0⟩|⟨g,cap,O,rfl,_,I,H,hm,hs,X⟩
 ·have e:=G4.1 h0;subst e;refine(Tryz.slices_Sort_string_none none 0 w).k ?_;rintro w' rfl;exact⟨rfl,by rw[A2T];exact CL _ _ _ _,A5.C _ _⟩
 ·have W:O.toList.take l.length=l.map encStr:=by rw[Pd]at X;rw[X];rfl
  refine(Tryz.slices_Sort_string g 0 cap l w (holds_of_block I W) (Bo I) hl).k ?_;rintro w'⟨n,os,rfl⟩;have z:(l.mergeSort λx y=>decide (x<=y)).length=l.length:=by simp
  refine⟨rfl,?_,(A5.C _ w).Cp (grownBy_sorted _) λk hk _=>by cases hk;rfl⟩;unfold Dq;rw[A10,z];exact ownsRow_sorted z (C8 _) I H hm hs
def WY(w:World)(v:Value)(l:List Int)(h:DF w v l)(hl:l.length<4611686018427387904):
 Calls Tryz.prog 65 #[v] w λe w'=>e=.returned (.tuple #[])/\DF w' v (l.mergeSort λx y=>decide (x<=y))/\A5 (λk=>v.ownBlock=some k) w w':=by
 obtain⟨h1,Y⟩:=h;rcases Y with⟨rfl,h0⟩|⟨g,cap,O,rfl,_,I,H,hm,hs,X⟩
 ·have e:=G4.1 h0;subst e;refine(Tryz.slices_Sort_int_none none 0 w).k ?_;rintro w' rfl;exact⟨rfl,by rw[A2T];exact CL _ _ _ _,A5.C _ _⟩
 ·have W:O.toList.take l.length=l.map (Value.int .i64):=by rw[Pd]at X;rw[X];rfl
  refine(Tryz.slices_Sort_int g 0 cap l w (holds_of_blockI I W) (Bo I) hl).k ?_;rintro w'⟨n,os,rfl⟩;have z:(l.mergeSort λx y=>decide (x<=y)).length=l.length:=by simp
  refine⟨rfl,?_,(A5.C _ w).Cp (grownBy_sortedI _) λk hk _=>by cases hk;rfl⟩;unfold DF;rw[z];exact ownsRow_sortedI z (C8 _) I H hm hs
def Qz(x:Bs):∀(l:List Bs),(l.Pairwise λa b=>¬b<a)->∃k,k<=l.length/\(∀t (h:t<l.length),t<k->(l[t]'h)<x)/\∀t (h:t<l.length),k<=t->¬(l[t]'h)<x
 | [],_=>⟨0,Aq _,λt h=>by simp at h,λt h=>by simp at h⟩
 | y::r,hs=>by
  have⟨h1,h2⟩:=Di.1 hs;by_cases I:y<x
  ·have⟨k,k0,k1,k2⟩:=Qz x r h2;refine⟨k+1,by simp;omega,λt h H=>?_,λt h H=>?_⟩
   ·cases t with
    | zero=>exact I
    | succ t=>exact k1 t (by simp at h;omega) (by omega)
   ·cases t with
    | zero=>omega
    | succ t=>exact k2 t (by simp at h;omega) (by omega)
  ·refine⟨0,C8 _,λt _ H=>by omega,λt h _ z=>?_⟩;cases t with
   | zero=>exact I z
   | succ t=>
    have O:=h1 _ (BS (show t<r.length by simp at h;omega));exact I (List.lt_of_le_of_lt (show y<=_ from O) z)
def A1Z(w:World)(v:Value)(l:List Bs)(x:Bs)(h:GB w v l)(hl:l.length<4611686018427387904)(hs:l.Pairwise λa b=>¬b<a):
 Calls Tryz.prog 89 #[v,.string ⟨x.toArray⟩] w λe w'=>∃i,e=.returned (.tuple #[.int .i64 i,.bool (decide (x∈l))])/\∃q,w'=w.drewN q:=by
 obtain⟨a,cap,rfl,hcap,hm⟩:=h.BV;by_cases h0:l.length=0
 ·have e:l=[]:=G4.1 h0;subst e;refine(Any2.slices_BinarySearch_string_empty Tryz.ey a cap ⟨x.toArray⟩ w).k ?_;rintro w' rfl;exact⟨0,by simp,0,rfl⟩
 ·obtain⟨g,o,rfl,-⟩:=GB.at h 0 (by omega)
  let Sx:Nat->ByteArray:=λt=>if z:t<l.length then ⟨(l[t]'z).toArray⟩ else ⟨x.toArray⟩
  have O:∀t (z:t<l.length),Sx t=⟨(l[t]'z).toArray⟩:=λt z=>by simp only[Sx,dif_pos z]
  refine(Any2.slices_BinarySearch_string Tryz.ey g o l.length cap Sx ⟨x.toArray⟩ w hl (λj hj=>?_)).mono ?_
  ·have⟨g',o',e,hc⟩:=GB.at h j hj;cases e;rw[O j hj];exact hc
  rintro e w'⟨Y,q,rfl⟩;have I:∀t,Op.bytesLess (Sx t).toList (⟨x.toArray⟩:ByteArray).toList=decide (∃z:t<l.length,(l[t]'z)<x):=λt=>by
   rw[Uh,Kf,Kf];by_cases z:t<l.length
   ·rw[O t z];by_cases W:(l[t]'z)<x
    ·have X:decide (∃z:t<l.length,(l[t]'z)<x)=true:=CJ ⟨z,W⟩;rw[X];exact CJ W
    ·have X:decide (∃z:t<l.length,(l[t]'z)<x)=false:=Dw λ⟨_,h⟩=>W h
     rw[X];exact Dw W
   ·(have e:Sx t=⟨x.toArray⟩:=by simp only[Sx,OK z]);have X:decide (∃z:t<l.length,(l[t]'z)<x)=false:=Dw λ⟨h,_⟩=>z h
    rw[e,X];exact Dw (Lj _)
  have aG:∀(i j:Nat) (hi:i<l.length) (hj:j<l.length),i<j->¬(l[j]'hj)<(l[i]'hi):=λi j hi hj aE=>Lg.1 hs i j hi hj aE;have⟨k,hk,k1,k2⟩:=Qz x l hs;have aD:Lib.bsGo (λt=>Op.bytesLess (Sx t).toList (⟨x.toArray⟩:ByteArray).toList) l.length 0 l.length=k:=by
   refine Lib.bsGo_spec _ k (λt z=>?_) (λt z=>?_) _ 0 l.length (by omega) (by omega) hk
   ·rw[I t];exact CJ ⟨by omega,k1 t (by omega) z⟩
   ·rw[I t];exact Dw λ⟨X,h2⟩=>k2 t X z h2
  rw[aD]at Y;have:(k<l.length/\Sx k=⟨x.toArray⟩)↔x∈l:=by
   constructor
   ·rintro⟨H,aA⟩;rw[O k H]at aA;have:(l[k]'H)=x:=by
     have:=E5 (λ(b:ByteArray)=>b.data.toList) aA;simpa using this
    rw[<-this];exact BS H
   ·intro hm;have⟨t,z,Y⟩:=Ee hm;have htk:k<=t:=by
     rcases F6 t k with h' | h'
     ·have:=k1 t z h';rw[Y]at this;exact absurd this (Lj _)
     ·exact h'
    (have H:k<l.length:=by omega);refine⟨H,?_⟩;have aF:¬x<(l[k]'H):=by
     rcases F6 k t with h' | h'
     ·have:=aG k t H z h';rwa [Y]at this
     ·(have e:k=t:=by omega);subst e;rw[Y];exact Lj _
    have aB:=k2 k H (Aq _);have:(l[k]'H)=x:=List.le_antisymm (show (l[k]'H)<=x from aF) (show x<=(l[k]'H) from aB);rw[O k H,this]
  have hd:decide (k<l.length/\Sx k=⟨x.toArray⟩)=decide (x∈l):=by
   by_cases W:x∈l
   ·rw[CJ W];exact CJ (this.2 W)
   ·rw[Dw W];exact Dw λh=>W (this.1 h)
  rw[hd]at Y;exact⟨_,Y,q,rfl⟩
def A1O(w:World)(v:Value)(l:List Pu)(h:AZ w v l)(Y:l.length*24<=140737488355328):
 Calls Tryz.prog 101 #[v] w λe w'=>∃z,e=.returned z/\AZ w' z l/\(∀g,z.ownBlock=some g->w.heap.size<=g)/\A5 (λ_=>False) w w':=by
 have⟨i0,hi,hz0,hz1,hz2⟩:=Eb Ig;obtain⟨a,cap,rfl,h1,H,h3,O,W⟩:=Bb h;cases a with
 | none=>
  have e:=G4.1 (O rfl).1;subst e;refine(AnyE.slices_Clone_nil Tryz.eu _ cap w).k ?_;rintro w' rfl;exact⟨_,rfl,CL _ _ _ _,λg I=>by simp[Value.ownBlock]at I,A5.C _ _⟩
 | some x=>
  obtain⟨g,rfl⟩:=W x rfl;unfold maxLen at H;refine(AnyE.slices_Clone Tryz.eu i0 _ 3 24 hi hz0 hz1 hz2 rfl (by decide) (λw=>sizeOf90 w) g 0 l.length cap (Ba l) w h.1 (by unfold maxLen;omega) Y (λj u hj=>?_) (I6 l)).mono ?_
  ·have:=BB h rfl hj;simpa using this
  rintro e w'⟨z,rfl,h6,h7,X⟩;have⟨q1,q2⟩:=NL h6;exact⟨z,rfl,q1,q2,A5.cT X⟩
def A1P(w:World)(v:Value)(l:List Int)(h:Dc w v l)(hl:l.length*8<=140737488355328):
 Calls Tryz.prog 72 #[v] w λe w'=>∃z,e=.returned z/\DF w' z l/\(∀g,z.ownBlock=some g->w.heap.size<=g)/\A5 (λ_=>False) w w':=by
 obtain⟨a,cap,rfl,h1,h2⟩:=h.BV;by_cases W:l.length=0
 ·have e:=G4.1 W;subst e;cases a with
  | none=>
   refine(Tryz.slices_Clone_int_nil 0 cap w).k ?_;rintro w' rfl;exact⟨_,rfl,CL _ _ _ _,λg X=>by simp[Value.ownBlock]at X,A5.C _ _⟩
  | some x=>
   refine(Tryz.slices_Clone_int_zero x cap w).mono ?_;rintro e w'⟨z,rfl,H,Y,I⟩;have⟨q1,q2⟩:=NL H;exact⟨z,rfl,q1,q2,A5.cT I⟩
 ·obtain⟨g,o,rfl,-⟩:=Dc.at h 0 (by omega);refine(Tryz.slices_Clone_int g o l.length cap l w (Aq _) hl (λj O=>?_)).mono ?_
  ·have⟨g',o',e,hc⟩:=Dc.at h j O;cases e;rw[Ow l j O];exact hc
  rintro e w'⟨z,rfl,H,Y,I⟩;rw[Cj]at H;have⟨q1,q2⟩:=NL H;exact⟨z,rfl,q1,q2,A5.cT I⟩
end
section
open Go.RowKit
attribute [local go_sem ↓] Cz
def Tryz.fs:(Tryz.prog.info? 9).map (λi=>(i.zero,i.size,i.bytes))=some (some (.string ⟨#[]⟩),1,16):=by kernel_rfl
def WJ:∃z,Tryz.prog.info? 9=some z/\z.zero=some (.string ⟨#[]⟩)/\z.size=1/\z.bytes=16:=by
 have h:=Tryz.fs;cases hx:Tryz.prog.info? 9 with
 | none=>rw[hx]at h;cases h
 | some i=>rw[hx]at h;simp at h;exact⟨i,rfl,h.1,h.2.1,h.2.2⟩
def JL(l:List Bs):List Bs:=l.mergeSort λx y=>decide (x<=y)
def A0C(l:List Bs):(JL l).Pairwise λa b=>¬b<a:=by
 have h:=A2R (le:=λx y:Bs=>decide (x<=y)) (λa b c I H=>by simp at I H ⊢;exact List.le_trans I H) (λa b=>by simp;exact List.le_total a b) l;exact h.imp λz=>by simpa using z
def Ty(l:List Bs)(x:Bs):x∈JL l↔x∈l:=A2V
def A0B(l:List Bs):(JL l).length=l.length:=V7 _
section
variable{w:World}{ab b xb jb B:Nat}{sv ov lv jo:Value}{A:Ar}{P:PD}{Ft FT:Nat->Prop}{a c m:Nat}
def Im{w:World}{e Y size H n n2 I z:Nat}{v v2:Value}{xs X:List Value}(h:w.ownsRow I e size v n xs)(h2:w.ownsRow z Y H v2 n2 X)(O:e≠Y){g:Nat}(hg:v.ownBlock=some g):¬v2.ownBlock=some g:=λW=>by
 have⟨c,hc⟩:=Bd h hg;have⟨c2,hc2⟩:=Bd h2 W;exact BP hc hc2 O rfl
def RO(w:World)(h:Ck w ab b xb jb sv ov lv jo A P Ft)(hF:Fit P a c m)(hl:CN a c m)(hn:∀n∈A.ix.segs,Cv n)(dI:∀n∈A.j.Al,Cv n)(hsl:A.ix.segs.length<=1073741824)(dH:A.j.Al.length<=1073741824)(hL:Lets B w):
 Aj 52 #[A7 ab] w λe w'=>∃v1 v2,e=.returned (.tuple #[v1,v2])/\Dq w' v1 (A.a1 P)/\Dq w' v2 (A.aV P)/\(∀g,v1.ownBlock=some g->w.heap.size<=g)/\(∀g,v2.ownBlock=some g->w.heap.size<=g)/\A5 Ab w w':=by
 obtain⟨i0,hi,aX,a4,aZ⟩:=WJ;have cH:=A4 h;have cN:Hid (∀W k n,A5 Ab w W->1<=k/\k<=4->Cv n->Aj 85 #[A0 (k:Nat),A0 n] W λe w'=>e=.returned (.string ⟨(BJ k n).toArray⟩)/\A5 Ab W w'):=λW k n hc hk hn=>LW (n:=n) W k hk ⟨by have:=hn.1;omega,hn.2.1⟩ hn.2.2 (hL.aP hc);have dL:=A4 (cN.o w 3 0 (A5.C _ w) (by omega) (HF (by omega) (by omega)));have dN:Hid (∀W,A5 Ab w W->Aj 87 #[A7 jb] W λe w'=>∃v,e=.returned v/\DF w' v A.j.Al/\(∀g,v.ownBlock=some g->W.heap.size<=g)/\A5 Ab W w'):=λW hc=>Zf W (h.jn.aJ hc) dH;have dM:Hid (∀W,A5 Ab w W->Aj 48 #[A7 b] W λe w'=>∃v,e=.returned v/\Dq w' v P.Av/\A5 Ab W w'/\(∀g,v.ownBlock=some g->W.heap.size<=g)):=λW hc=>O9 (B5.az h.dk h.lt hc) hF hl;have dE:P.Av.length<=1073741824:=by rw[GL];exact AH hF.A6 hl.a
 have aN:Hid (A.Av=[AF]++A.j.Al.map Af++A.ix.segs.map Aw):=rfl;have bN:Hid (A.a1 P=P.Av.filter λnm=>decide (nm∈A.Av)):=rfl;have bH:Hid (A.aV P=P.Av.filter λnm=>!decide (nm∈A.Av)):=rfl;have cZ:=A4 hn;have cT:=A4 dI;obtain⟨dP,cC⟩:∃x,A.a1 P=x:=⟨_,rfl⟩;obtain⟨dO,bX⟩:∃x,A.aV P=x:=⟨_,rfl⟩;obtain⟨I,bI⟩:∃x,A.Av=x:=⟨_,rfl⟩;rw[cC,bI]at bN;rw[bX,bI]at bH;rw[bI]at aN;rw[cC,bX];have b4:I.length<=4294967296:=by rw[aN.o];simp;omega
 have b6:=h.segs;generalize hns:P.Av=ns at *;generalize hlgs:A.j.Al=lgs at *;generalize hss:A.ix.segs=ss at *;obtain⟨sa,scap,rfl,sc1,cV⟩:=b6.BV;unfold maxLen at cV;have cU:=A4 b6
 go_enter func52,ntmps52
 go_wp2_with (fail);refine dL.k ?_;rintro W b3;have e3:BJ ((3:Nat):Int) 0=AF:=rfl;rw[e3];have bJ:A5 Ab w (W.alloc (.cells #[.string ⟨AF.toArray⟩] 9)):=b3.aj _;have a2:=((cH.o.aJ bJ).Ai).c2;have a9:Hid (Dq (W.alloc (.cells #[.string ⟨AF.toArray⟩] 9)) (.slice (some (Ad W.heap.size 0)) 1 1) [AF]):=
  ⟨rfl,.inr ⟨W.heap.size,1,_,rfl,C8 _,BN W _,Aq _,by decide,rfl,rfl⟩⟩
 have cP:=A4 (dN.o _ bJ);have dB:=A4 bJ;have cL:=A4 <| b3.Am;go_wp2_with (fail);refine cP.o.mono ?_;rintro e w2⟨v,rfl,hv,dF,aY⟩;obtain⟨la,bS,rfl,lc1,cO⟩:=(DF.rd hv).BV;unfold maxLen at cO;have dJ:=A4 hv;have HLO:=A4 dF;have cY:=A4 <| dB.o.tr aY;have bC:Hid (Dq w2 (.slice (some (Ad W.heap.size 0)) 1 1) [AF]):=AA a9.o λg z=>aY.Ao g (AG a9.o z) (λh=>h);go_wp2;go_loopw [4,23] (λv iv wr=>∃k:Nat,iv=A0 k/\k<=lgs.length/\Hid (Dq wr v ([AF]++(lgs.take k).map Af)/\(∀g,v.ownBlock=some g->w.heap.size<=g)/\A5 Ab w wr/\DF wr (.slice la lgs.length bS) lgs)) (λ_ iv _=>lgs.length-(intOf iv).toNat)
 ·exact⟨0,rfl,by omega,by simpa using bC.o,λg z=>by simp[Value.ownBlock]at z;have:=cL.o;omega,cY.o,dJ.o⟩
 ·obtain⟨k,rfl,hk,hI⟩:=hrel;have⟨i1,i2,i3,i4⟩:=hI.o;obtain⟨ap,cp,rfl,aR,aK,-⟩:=Bb i1;unfold maxLen at aK;by_cases O:k<lgs.length
  ·obtain⟨g,o,rfl,d1⟩:=Dc.at (DF.rd i4) k O;have aE:=cT.o _ (BS O);have aB:=Dz O;generalize bT:(lgs[k]'O)=n at d1 aE aB;have aD:=A4 (cN.o wr 1 n i3 (by omega) aE);rw[show ((1:Nat):Int)=1 from rfl]at aD;(have aH:Hid ([AF]++(lgs.take (k+1)).map Af=([AF]++(lgs.take k).map Af)++[Af n]):=by unfold Hid;rw[aB];simp);have bF:BJ 1 n=Af n:=rfl;rw[bF]at aD;(have bQ:([AF]++(lgs.take k).map Af).length<=4294967296:=by simp;omega);generalize aA:[AF]++(lgs.take k).map Af=H at i1 i2 aH bQ aR;have bP:=A4 bQ;(have el:([AF]++(lgs.take k).map Af).length=H.length:=by rw[aA])
   try rw[el]
   generalize b9:Af n=nm at aD aH;have bZ:=A4 i1;have cG:=A4 i2;have cF:=A4 i3;have dD:=A4 i4;(have aQ:(k:Int)<(lgs.length:Int):=by omega);have b2:(0:Int)<=(k:Int):=Gn _;go_wp2_with (fail);refine aD.k ?_;rintro w6 aS;have bW:=A4 aS;have Y:Hid ((w6.alloc (.cells #[.string ⟨nm.toArray⟩] 9)).ownsRow 0 9 1 (.slice ap H.length cp) H.length (Dl H)):=AA bZ.o λg z=>(aS.aj _).Ao g (AG bZ.o z) (λh=>h)
   have aJ:=A4 (Src.ba (size:=1) (B:=w6.heap.size) underlying106 w6 #[.string ⟨nm.toArray⟩] 9 (by simp) 1 1 rfl (Mv [nm]));go_wp2_with (at_builtin;refine De rfl (.tmp 27) (.tmp 30) 106 106 rfl 9 i0 _ 1 16 underlying106 hi aX a4 aZ rfl (by decide) (.slice ap H.length cp) H.length (Dl H) (by rfl) Y.o _ 1 _ (by rfl) aJ.o (by have:=bP.o;omega) ?_;intro a8 aG w8 X;have bE:=A4 X);go_roundw
   ·have X:=bE.o;have k7:A5 Ab wr (w6.alloc (.cells #[.string ⟨nm.toArray⟩] 9)):=bW.o.aj _;have aI:=X.An (S:=λk=>(Value.slice ap H.length cp).ownBlock=some k) λ_ h=>h;have k8:A5 (λk=>(Value.slice ap H.length cp).ownBlock=some k) wr w8:=(k7.aZ).tr aI;(have e:(H++[nm]).length=H.length+1:=by simp);have e2:Dl (H++[nm])=Dl H++Dl [nm]:=Mw _ _;refine⟨k+1,by go_num,by omega,?_,?_,?_,?_⟩
    ·rw[aH.o];unfold Dq;rw[e,e2];exact X.AP
    ·intro g z;rcases X.Cu with h|h
     ·rw[h]at z;exact cG.o g z
     ·rw[h]at z;cases z;have:=cF.o.Am;have:=k7.Am;have:=bW.o.Am;omega
    ·exact cF.o.AJ k8 λy hy aW=>by have:=cG.o y hy;omega
    ·exact AA dD.o λg z=>k8.Ao g (AG dD.o z) (Im dD.o bZ.o (by decide) z)
   ·simp[intOf];omega
  ·(obtain rfl:k=lgs.length:=by omega);rw[Cj]at i1 i2;(have aQ:¬((lgs.length:Int)<(lgs.length:Int)):=by omega);obtain⟨H,aA⟩:∃H,[AF]++lgs.map Af=H:=⟨_,rfl⟩;(have el:([AF]++(lgs.take lgs.length).map Af).length=H.length:=by rw[Cj,aA]);rw[aA]at i1 i2;rw[aA]at aN
   try rw[el]
   have bZ:=A4 i1;have cG:=A4 i2;have cF:=A4 i3;have a1:=(cH.o.aJ i3).Ai.c1;have x4:=(cH.o.aJ i3).ix.c4;have HCUR:=A4 aA;go_wp2;(have bQ:H.length+ss.length<=4294967296:=by have:=b4;rw[aN.o]at this;simpa using this);go_loopw [4,41] (λv iv wr=>∃k:Nat,iv=A0 k/\k<=ss.length/\Hid (Dq wr v (H++(ss.take k).map Aw)/\(∀g,v.ownBlock=some g->w.heap.size<=g)/\A5 Ab w wr)) (λ_ iv _=>ss.length-(intOf iv).toNat)
   ·exact⟨0,rfl,by omega,by simpa using bZ.o,cG.o,cF.o⟩
   ·obtain⟨k,rfl,hk,hI⟩:=hrel;have⟨i1,i2,i3⟩:=hI.o;obtain⟨aL,aM,rfl,bD,bG,-⟩:=Bb i1;unfold maxLen at bG;by_cases O:k<ss.length
    ·obtain⟨g,o,rfl,d0⟩:=Dc.at cU.o k O;have d1:=i3.an d0;have aE:=cZ.o _ (BS O);have aB:ss.take (k+1)=ss.take k++[ss[k]'O]:=Dz O;generalize bT:(ss[k]'O)=n at d0 d1 aE aB;have aD:=A4 (cN.o wr 2 n i3 (by omega) aE);rw[show ((2:Nat):Int)=2 from rfl]at aD;(have aH:Hid (H++(ss.take (k+1)).map Aw=(H++(ss.take k).map Aw)++[Aw n]):=by unfold Hid;rw[aB];simp);have bF:BJ 2 n=Aw n:=rfl;rw[bF]at aD;(have a6:(H++(ss.take k).map Aw).length<=4294967296:=by simp;omega);generalize dG:H++(ss.take k).map Aw=cu at i1 i2 aH a6 bD;have bP:=A4 a6;(have el:(H++(ss.take k).map Aw).length=cu.length:=by rw[dG])
     try rw[el]
     generalize b9:Aw n=nm at aD aH;have aU:=A4 i1;have aO:=A4 i2;have aV:=A4 i3;(have aQ:(k:Int)<(ss.length:Int):=by omega);have b2:(0:Int)<=(k:Int):=Gn _;go_wp2_with (fail);refine aD.k ?_;rintro w6 aS;have bW:=A4 aS;have Y:Hid ((w6.alloc (.cells #[.string ⟨nm.toArray⟩] 9)).ownsRow 0 9 1 (.slice aL cu.length aM) cu.length (Dl cu)):=AA aU.o λg z=>(aS.aj _).Ao g (AG aU.o z) (λh=>h)
     have aJ:=A4 (Src.ba (size:=1) (B:=w6.heap.size) underlying106 w6 #[.string ⟨nm.toArray⟩] 9 (by simp) 1 1 rfl (Mv [nm]));go_wp2_with (at_builtin;refine De rfl (.tmp 45) (.tmp 48) 106 106 rfl 9 i0 _ 1 16 underlying106 hi aX a4 aZ rfl (by decide) (.slice aL cu.length aM) cu.length (Dl cu) (by rfl) Y.o _ 1 _ (by rfl) aJ.o (by have:=bP.o;omega) ?_;intro a8 aG w8 X;have bE:=A4 X);go_roundw
     ·have X:=bE.o;have k7:A5 Ab wr (w6.alloc (.cells #[.string ⟨nm.toArray⟩] 9)):=bW.o.aj _;have aI:=X.An (S:=λk=>(Value.slice aL cu.length aM).ownBlock=some k) λ_ h=>h;have k8:A5 (λk=>(Value.slice aL cu.length aM).ownBlock=some k) wr w8:=(k7.aZ).tr aI;(have e:(cu++[nm]).length=cu.length+1:=by simp);have e2:Dl (cu++[nm])=Dl cu++Dl [nm]:=Mw _ _;refine⟨k+1,by go_num,by omega,?_,?_,?_⟩
      ·rw[aH.o];unfold Dq;rw[e,e2];exact X.AP
      ·intro g z;rcases X.Cu with h|h
       ·rw[h]at z;exact aO.o g z
       ·rw[h]at z;cases z;have:=aV.o.Am;have:=k7.Am;have:=bW.o.Am;omega
      ·exact aV.o.AJ k8 λy hy aW=>by have:=aO.o y hy;omega
     ·simp[intOf];omega
    ·(obtain rfl:k=ss.length:=by omega);rw[Cj,<-aN.o]at i1 i2;(have aQ:¬((ss.length:Int)<(ss.length:Int)):=by omega);(have el:(H++(ss.take ss.length).map Aw).length=I.length:=by rw[Cj,aN.o])
     try rw[el]
     have dQ:=A4 (WW wr _ I i1 (by omega));have aO:=A4 i2;have aV:=A4 i3;go_wp2_with (fail);refine dQ.k ?_;rintro w3⟨cJ,aY⟩;(have dC:Hid (A5 Ab w w3):=aV.o.AJ aY λy hy aW=>by have:=aO.o y hy;omega);have dA:Hid (GB w3 (.slice aL I.length aM) (JL I)):=Dq.rd cJ;have cS:=A4 (dM.o w3 dC.o);have a0:=(cH.o.aJ dC.o).Ai.c0;go_wp2_with (fail);refine cS.o.mono ?_;rintro e w4⟨v,rfl,bY,b5,hvo4⟩;obtain⟨na,ncap,rfl,nc1,cQ⟩:=(Dq.rd bY).BV;unfold maxLen at cQ;have cX:=A4 (Dq.rd bY);have cM:Hid (A5 Ab w w4):=dC.o.tr b5;have bK:=A4 (dA.o.An b5 (λ_ _ h=>h));have bA:Hid (∀x,decide (x∈JL I)=decide (x∈I)):=λx=>by
      by_cases h:x∈I
      ·rw[CJ h,CJ ((Ty I x).2 h)]
      ·rw[Dw h,Dw λh'=>h ((Ty I x).1 h')]
     have bB:=A0C I;have a7:=A0B I;generalize hSN:JL I=SN at bK bA bB a7;have b1:=A4 bB;obtain⟨sn,b0⟩:∃sn,I.length=sn:=⟨_,rfl⟩
     try rw[b0]
     rw[b0]at bK a7;(have hsnl:sn<=4294967296:=by omega);have dK:Hid (∀wx x,A5 Ab w4 wx->Aj 89 #[.slice aL sn aM,.string ⟨x.toArray⟩] wx λe w'=>∃i,e=.returned (.tuple #[A0 i,.bool (decide (x∈I))])/\∃q,w'=wx.drewN q):=λwx x hx=>by
      have:=A1Z wx _ SN x (bK.o.An hx (λ_ _ h=>h)) (by omega) b1.o;rw[bA.o x]at this;exact this
     have bV:ns.length<=1073741824:=dE;have cD:Hid (∀p:Bs->Bool,∀k,((ns.take k).filter p).length<=1073741824):=λp k=>AH (MR _ _) (AH (List.length_take_le' _ _) bV);go_wp2;go_loopw [9,10,59] (λv1 v2 iv wr=>∃k:Nat,iv=A0 k/\k<=ns.length/\Hid (Dq wr v1 ((ns.take k).filter λnm=>decide (nm∈I))/\Dq wr v2 ((ns.take k).filter λnm=>!decide (nm∈I))/\(∀g,v1.ownBlock=some g->w4.heap.size<=g)/\(∀g,v2.ownBlock=some g->w4.heap.size<=g)/\(∀g,v1.ownBlock=some g->¬v2.ownBlock=some g)/\A5 Ab w4 wr)) (λ_ _ iv _=>ns.length-(intOf iv).toNat)
     ·exact⟨0,rfl,by omega,CL _ _ _ _,CL _ _ _ _,λg z=>by simp[Value.ownBlock]at z,λg z=>by simp[Value.ownBlock]at z,λg z=>by simp[Value.ownBlock]at z,A5.C _ _⟩
     ·obtain⟨k,rfl,hk,hI⟩:=hrel;have⟨i1,i2,i3,i4,i5,i6⟩:=hI.o;obtain⟨ap,cp,rfl,aR,aK,-⟩:=Bb i1;obtain⟨aq,cq,rfl,hcaq1,bM,-⟩:=Bb i2;unfold maxLen at aK bM;by_cases O:k<ns.length
      ·obtain⟨g,o,rfl,d0⟩:=GB.at cX.o k O;have d1:=i6.an d0;have aB:ns.take (k+1)=ns.take k++[ns[k]'O]:=Dz O;generalize bT:(ns[k]'O)=nm at d0 d1 aB;have a3:=A4 (dK.o wr nm i6);have aT:Hid ((ns.take (k+1)).filter (λnm=>decide (nm∈I))=(ns.take k).filter (λnm=>decide (nm∈I))++(if nm∈I then [nm] else [])):=by
        unfold Hid;rw[aB,MU];by_cases hx:nm∈I<;>simp[hx]
       have aP:Hid ((ns.take (k+1)).filter (λnm=>!decide (nm∈I))=(ns.take k).filter (λnm=>!decide (nm∈I))++(if nm∈I then [] else [nm])):=by
        unfold Hid;rw[aB,MU];by_cases hx:nm∈I<;>simp[hx]
       have b8:=A4 (cD.o (λnm=>decide (nm∈I)) k);have cA:=A4 (cD.o (λnm=>!decide (nm∈I)) k);obtain⟨l1,bU⟩:∃l1,(ns.take k).filter (λnm=>decide (nm∈I))=l1:=⟨_,rfl⟩;obtain⟨l2,cB⟩:∃l2,(ns.take k).filter (λnm=>!decide (nm∈I))=l2:=⟨_,rfl⟩;rw[bU]at aT b8 i1 i3 i5;rw[cB]at aP cA i2 i4 i5;(have bO:((ns.take k).filter (λnm=>decide (nm∈I))).length=l1.length:=by rw[bU]);(have bL:((ns.take k).filter (λnm=>!decide (nm∈I))).length=l2.length:=by rw[cB])
       try rw[bO]
       try rw[bL]
       have aU:=A4 i1;have aO:=A4 i2;have aV:=A4 i3;have cE:=A4 i4;have cI:=A4 i5;have bR:=A4 i6;(have aQ:(k:Int)<(ns.length:Int):=by omega);have b2:(0:Int)<=(k:Int):=Gn _;by_cases hx:nm∈I
       ·rw[CJ hx]at a3;rw[Ah hx]at aT aP;go_wp2_with (fail);refine a3.o.mono ?_;rintro e w6⟨i,rfl,q,rfl⟩;have Y:Hid (((wr.drewN q).alloc (.cells #[.string ⟨nm.toArray⟩] 9)).ownsRow 0 9 1 (.slice ap l1.length cp) l1.length (Dl l1)):=AA aU.o λg z=>(((A5.C Ab wr).bb q).aj _).Ao g (AG aU.o z) (λh=>h)
        have aJ:=A4 (Src.ba (size:=1) (B:=(wr.drewN q).heap.size) underlying106 (wr.drewN q) #[.string ⟨nm.toArray⟩] 9 (by simp) 1 1 rfl (Mv [nm]));have b7:Hid (A5 Ab wr ((wr.drewN q).alloc (.cells #[.string ⟨nm.toArray⟩] 9))):=((A5.C Ab wr).bb q).aj _;go_wp2_with (at_builtin;refine De rfl (.tmp 70) (.tmp 72) 106 106 rfl 9 i0 _ 1 16 underlying106 hi aX a4 aZ rfl (by decide) (.slice ap l1.length cp) l1.length (Dl l1) (by rfl) Y.o _ 1 _ (by rfl) aJ.o (by have:=b8.o;omega) ?_;intro a8 aG w8 X;have bE:=A4 X);go_roundw
        ·have X:=bE.o;have aI:=X.An (S:=λk=>(Value.slice ap l1.length cp).ownBlock=some k) λ_ h=>h;have k8:A5 (λk=>(Value.slice ap l1.length cp).ownBlock=some k) wr w8:=(b7.o.aZ).tr aI;(have e:(l1++[nm]).length=l1.length+1:=by simp);have e2:Dl (l1++[nm])=Dl l1++Dl [nm]:=Mw _ _;have aF:∀g,(Value.slice a8 (l1.length+1) aG).ownBlock=some g->(Value.slice ap l1.length cp).ownBlock=some g\/wr.heap.size<=g:=λg z=>by
          rcases X.Cu with h|h
          ·rw[h]at z;exact .inl z
          ·rw[h]at z;cases z;exact .inr b7.o.Am
         refine⟨k+1,by go_num,by omega,?_,?_,?_,cE.o,?_,?_⟩
         ·rw[aT.o];unfold Dq;rw[e,e2];exact X.AP
         ·rw[aP.o,Fz];exact AA aO.o λg z=>k8.Ao g (AG aO.o z) λh=>cI.o g h z
         ·exact λg z=>(aF g z).elim (aV.o g) λh=>AH bR.o.Am h
         ·exact λg z a5=>(aF g z).elim (λh=>cI.o g h a5) λh=>by have:=AG aO.o a5;omega
         ·exact bR.o.AJ k8 λy hy aW=>by have:=aV.o y hy;omega
        ·simp[intOf];omega
       ·rw[Dw hx]at a3;rw[Ae hx]at aT aP;go_wp2_with (fail);refine a3.o.mono ?_;rintro e w6⟨i,rfl,q,rfl⟩;have Y:Hid (((wr.drewN q).alloc (.cells #[.string ⟨nm.toArray⟩] 9)).ownsRow 0 9 1 (.slice aq l2.length cq) l2.length (Dl l2)):=AA aO.o λg z=>(((A5.C Ab wr).bb q).aj _).Ao g (AG aO.o z) (λh=>h)
        have aJ:=A4 (Src.ba (size:=1) (B:=(wr.drewN q).heap.size) underlying106 (wr.drewN q) #[.string ⟨nm.toArray⟩] 9 (by simp) 1 1 rfl (Mv [nm]));have b7:Hid (A5 Ab wr ((wr.drewN q).alloc (.cells #[.string ⟨nm.toArray⟩] 9))):=((A5.C Ab wr).bb q).aj _;go_wp2_with (at_builtin;refine De rfl (.tmp 74) (.tmp 76) 106 106 rfl 9 i0 _ 1 16 underlying106 hi aX a4 aZ rfl (by decide) (.slice aq l2.length cq) l2.length (Dl l2) (by rfl) Y.o _ 1 _ (by rfl) aJ.o (by have:=cA.o;omega) ?_;intro a8 aG w8 X;have bE:=A4 X);go_roundw
        ·have X:=bE.o;have aI:=X.An (S:=λk=>(Value.slice aq l2.length cq).ownBlock=some k) λ_ h=>h;have k8:A5 (λk=>(Value.slice aq l2.length cq).ownBlock=some k) wr w8:=(b7.o.aZ).tr aI;(have e:(l2++[nm]).length=l2.length+1:=by simp);have e2:Dl (l2++[nm])=Dl l2++Dl [nm]:=Mw _ _;have aF:∀g,(Value.slice a8 (l2.length+1) aG).ownBlock=some g->(Value.slice aq l2.length cq).ownBlock=some g\/wr.heap.size<=g:=λg z=>by
          rcases X.Cu with h|h
          ·rw[h]at z;exact .inl z
          ·rw[h]at z;cases z;exact .inr b7.o.Am
         refine⟨k+1,by go_num,by omega,?_,?_,aV.o,?_,?_,?_⟩
         ·rw[aT.o,Fz];exact AA aU.o λg z=>k8.Ao g (AG aU.o z) λh=>cI.o g z h
         ·rw[aP.o];unfold Dq;rw[e,e2];exact X.AP
         ·exact λg z=>(aF g z).elim (cE.o g) λh=>AH bR.o.Am h
         ·exact λg z a5=>(aF g a5).elim (λh=>cI.o g z h) λh=>by have:=AG aU.o z;omega
         ·exact bR.o.AJ k8 λy hy aW=>by have:=cE.o y hy;omega
        ·simp[intOf];omega
      ·(obtain rfl:k=ns.length:=by omega);rw[Cj,<-bN.o]at i1 i3;rw[Cj,<-bH.o]at i2 i4;(have bO:((ns.take ns.length).filter (λnm=>decide (nm∈I))).length=dP.length:=by rw[Cj,<-bN.o]);(have bL:((ns.take ns.length).filter (λnm=>!decide (nm∈I))).length=dO.length:=by rw[Cj,<-bH.o])
       try rw[bO]
       try rw[bL]
       have aU:=A4 i1;have aO:=A4 i2;have aV:=A4 i3;have cE:=A4 i4;have bR:=A4 i6;(have aQ:¬((ns.length:Int)<(ns.length:Int)):=by omega);go_wp2;go_ret2;exact⟨_,_,rfl,aU.o,aO.o,λg z=>AH cM.o.Am (aV.o g z),λg z=>AH cM.o.Am (cE.o g z),cM.o.tr bR.o⟩
end
end
end Go.Proofs.YtodcnkbblippnabGreatDoor
