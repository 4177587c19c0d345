/- Part 29 of a proof: walks of the program. -/
import Derived.Sort.OwnSorted
import Derived.Sort.OwnSortedInts
import Derived.Test.YtodcnkbblippnaaGreatDoorPart24
namespace Go.Proofs.YtodcnkbblippnaaGreatDoor
set_option maxRecDepth 100000
set_option maxHeartbeats 32000000
set_option linter.defProp false
open Go.Proofs.Tryz
section
open Go.RowKit
attribute [local go_sem ↓] CJ
def Aq.a7{w O Y:ga}{Ft d:Nat->Prop}{R:ga->(Nat->Prop)->Prop}(hc:A3 Ft w O)(W:∀k,d k->Ft k\/w.heap.size<=k)(h2:Aq O d Y R):Aq w Ft Y R:=by
 obtain⟨I,H,E,z,L⟩:=h2;refine⟨hc.Av I λx hx hlt=>(W x hx).resolve_right (by omega),H,E,z,λk hk=>?_⟩;rcases L k hk with h|h
 ·exact W k h
 ·exact .inr (AJ hc.Aj h)
section
variable{w:ga}{ab b xb jb B:Nat}{sv ov lv jo:gd}{A:Ar}{P:PD}{Ft FT:Nat->Prop}{a c m:Nat}
def A2K(h:Bf w b P Ft)(nm:Bs):
 Ag 85 #[A5 b,.string ⟨nm.toArray⟩] w (Am (A0 (P.ad (A6 nm)).1) λw'=>Aq w Ft w' (λw' d=>Bf w' b (P.ad (A6 nm)).2 d)):=On h (A6 nm)
def RE(nm:Bs)(r:gh Bs)(P:PD):PD.az (nm::r) P=if (P.ad (A6 nm)).1≠0 then P.ad (A6 nm) else PD.az r (P.ad (A6 nm)).2:=rfl
def S0(w:ga)(h:AD w ab b A P FT):
 Ag 118 #[A5 ab] w (Am (A0 (A.C P).1) λw'=>Aq w FT w' (λw' aQ=>AD w' ab b (A.C P).2.1 (A.C P).2.2 aQ)/\w'.cell? (Ac ab 2)=w.cell? (Ac ab 2)):=by
 obtain⟨xb,jb,sv,ov,lv,jo,Ft,hV,aJ⟩:=h;have a4:=hV.Ah.c4;obtain⟨oa,O,rfl,oc1,aW⟩:=hV.AN.Cd;unfold maxLen at aW;have aK:=A1 hV;have E:=A1 aJ;have aO:Hid (A.C P=if (PD.az A.AN P).1≠0 then ((PD.az A.AN P).1,A,(PD.az A.AN P).2) else (0,{A with AN:=[]},(PD.az A.AN P).2)):=rfl;have aX:=A1 RE;generalize hR:A.C P=R at aO ⊢;obtain⟨X,hX⟩:∃X,PD.az A.AN P=X:=⟨_,rfl⟩;have aY:=A1 hX;rw[hX]at aO
 go_enter func118,ntmps118
 go_wp2;go_loopw [11] (λiv wr=>∃(k:Nat),iv=A0 k/\k<=A.AN.length/\Hid (∃aE,Aq w Ft wr (λw' H=>Co w' ab b xb jb sv (.slice oa A.AN.length O) lv jo A aE H)/\X=PD.az (A.AN.drop k) aE)) (λiv _=>A.AN.length-(intOf iv).toNat)
 ·exact⟨0,rfl,by omega,P,⟨A3.I _ _,Ft,aK.o,aK.o.lt,λk z=>.inl z⟩,aY.o.symm⟩
 ·obtain⟨k,rfl,z,hI⟩:=hrel;have⟨aE,hi,hx⟩:=hI.o;obtain⟨c1,aH,d,lt1,s1⟩:=hi;by_cases aA:k<A.AN.length
  ·obtain⟨g,o,rfl,d1⟩:=GC.at d.AN k aA;have aI:=FB aA;generalize hne:(A.AN[k]'aA)=nm at d1 aI;rw[aI,aX.o]at hx;have e0:=d.Ah.c0;have aN:=A1 (A2K d.dk nm);generalize hY:aE.ad (A6 nm)=Y at aN hx;have aD:Hid (∀w6,Aq wr aH w6 (λw' H=>Bf w' b Y.2 H)->Aq w Ft w6 (λw' H=>Co w' ab b xb jb sv (.slice (some (Ac g o)) A.AN.length O) lv jo A Y.2 H)):=λw6 h6=>Aq.a7 c1 s1 (d.cb h6);have aB:=A1 hx;(have aP:(k:Int)<(A.AN.length:Int):=by omega);have hk0:=C3 k;obtain⟨aM,aL⟩:=Y;dsimp only at aN aD aB;by_cases hy:aM=0
   case neg=>
    (have W:X=(aM,aL):=by rw[aB.o,Ae hy]);subst W;(have aG:R=(aM,A,aL):=by rw[aO.o,Ae hy]);subst aG;(have hyb:(aM !=0)=true:=by simpa using hy);go_wp2_with (go_at_call 85;refine aN.k ?_;rintro w6 aF;have I:=A1 (aD.o w6 aF));go_ret;have⟨_,_,hv6,_⟩:=I.o;exact⟨rfl,aK.o.cy E.o I.o,hv6.Ah.c2.trans aK.o.Ah.c2.symm⟩
   case pos=>
    subst hy;(have aS:Hid (X=PD.az (A.AN.drop (k+1)) aL):=by unfold Hid;rw[aB.o,Aa (by simp)]);go_wp2_with (go_at_call 85;refine aN.k ?_;rintro w6 aF;have I:=A1 (aD.o w6 aF));go_roundw
    ·exact⟨k+1,by go_num,by omega,aL,I.o,aS.o⟩
    ·simp[intOf];omega
  ·(obtain rfl:k=A.AN.length:=by omega);rw[GI]at hx;have W:X=(0,aE):=hx;subst W;(have aG:R=(0,{A with AN:=[]},aE):=by rw[aO.o,Aa (by simp)]);subst aG;(have aP:¬((A.AN.length:Int)<(A.AN.length:Int)):=by omega);have g4:=d.Ah.c4;have f4:=d.Ah.fz 4;have aU:=A1 d;have aR:=A1 c1;have aT:=A1 s1;go_wp2;go_ret;have d:=aU.o;have kz:A3 (One ab) wr (wr.sC ab 4 (.slice none 0 0)):=(A3.I (One ab) wr).aq (b:=ab) rfl 4 _;have hs:∀k,k≠ab->k<wr.heap.size->(wr.sC ab 4 (.slice none 0 0)).heap[k]?=wr.heap[k]?:=λk z hl=>kz.An k hl z;have aV:∀k,Dq jb lv jo k->k≠ab:=λk z=>(d.FI k z).1
   have L:Co (wr.sC ab 4 (.slice none 0 0)) ab b xb jb sv (.slice none 0 0) lv jo {A with AN:=[]} aE aH:=
    ⟨d.Ah.s4 _,(hs xb d.ne.symm d.ix.lt).trans d.ix,d.sd.aN λg hg=>hs g (d.Fm g hg).1 (d.sd.lt hg),Dx.bI,d.jn.aN λk z=>hs k (aV k z) (d.jn.lt z),
     B1.aN d.dk λk z=>hs k (λe=>by subst e;exact d.Dl _ (.inl rfl) z) (d.lt k z),λk z=>Bi (d.lt k z) kz.Aj,
     λk z=>d.Dl k (by
      rcases z with h|h|h|h|h
      ·exact .inl h
      ·exact .inr (.inl h)
      ·exact .inr (.inr (.inl h))
      ·simp[Value.ownBlock]at h
      ·exact .inr (.inr (.inr (.inr h)))),d.Fm,λg hg=>by simp[Value.ownBlock]at hg,d.FI⟩
   refine⟨rfl,?_,L.Ah.c2.trans aK.o.Ah.c2.symm⟩;refine(L.bK ((aR.o.af (S':=λk=>Ft k\/k=ab) λ_ _ h=>.inl h).Av kz λ_ h _=>.inr h) ?_ (λk z=>(aT.o k z).imp (λh=>E.o k (.inl h)) id) ?_)
   ·rintro k _ (h|rfl)
    ·exact E.o k (.inl h)
    ·exact E.o _ (.inr (.inl rfl))
   ·intro k z;refine .inl (E.o k (.inr ?_));rcases z with h|h|h|h|h
    ·exact .inl h
    ·exact .inr (.inl h)
    ·exact .inr (.inr (.inl h))
    ·simp[Value.ownBlock]at h
    ·exact .inr (.inr (.inr (.inr h)))
def S3(w:ga)(h:AD w ab b A P FT):
 Ag 118 #[A5 ab] w (Am (A0 (A.C P).1) λw'=>Aq w FT w' (λw' d=>AD w' ab b (A.C P).2.1 (A.C P).2.2 d)):=
 (S0 w h).mono λ_ _ ⟨E,z,_⟩=>⟨E,z⟩
end
end
section
open Go.RowKit
def A3.df{w w':ga}(h:Below w.heap.size w w'):A3 Ab w w':=⟨h.os,h.tape,h.output,h.size,λk d _=>h.block k d⟩
def Pb{w:ga}{d e size n:Nat}{v:gd}{xs:gh gd}(h:w.ownsRow d e size v n xs):w.ownsRow 0 e size v n xs/\∀g,v.ownBlock=some g->d<=g:=by
 refine⟨⟨h.1,?_⟩,λg H=>(h.lt g H).1⟩;rcases h.2 with E|⟨g,cap,z,E,_,I⟩
 ·exact .inl E
 ·exact .inr ⟨g,cap,z,E,Cb _,I⟩
def A31(l:gh Bs):Ds l=l.map encStr:=rfl
def YG(w:ga)(v:gd)(l:gh Bs)(h:Dg w v l)(hl:l.length<4611686018427387904):
 Calls Tryz.prog 137 #[v] w λe w'=>e=.returned (.tuple #[])/\Dg w' v (l.mergeSort λx y=>decide (x<=y))/\A3 (λk=>v.ownBlock=some k) w w':=by
 obtain⟨h1,O⟩:=h;rcases O with⟨rfl,W⟩|⟨g,cap,H,rfl,_,E,z,hm,hs,L⟩
 ·have e:=GG.1 W;subst e;refine(Tryz.slices_Sort_string_none none 0 w).k ?_;rintro w' rfl;exact⟨rfl,by rw[A4Y];exact CT _ _ _ _,A3.I _ _⟩
 ·have I:H.toList.take l.length=l.map encStr:=by rw[KF]at L;rw[L];rfl
  refine(Tryz.slices_Sort_string g 0 cap l w (holds_of_block E I) (Bv E) hl).k ?_;rintro w'⟨n,os,rfl⟩;have d:(l.mergeSort λx y=>decide (x<=y)).length=l.length:=by simp
  refine⟨rfl,?_,(A3.I _ w).Cx (grownBy_sorted _) λk Y _=>by cases Y;rfl⟩;unfold Dg;rw[A31,d];exact ownsRow_sorted d (Cb _) E z hm hs
def YJ(w:ga)(v:gd)(l:gh Int)(h:DF w v l)(hl:l.length<4611686018427387904):
 Calls Tryz.prog 115 #[v] w λe w'=>e=.returned (.tuple #[])/\DF w' v (l.mergeSort λx y=>decide (x<=y))/\A3 (λk=>v.ownBlock=some k) w w':=by
 obtain⟨h1,O⟩:=h;rcases O with⟨rfl,W⟩|⟨g,cap,H,rfl,_,E,z,hm,hs,L⟩
 ·have e:=GG.1 W;subst e;refine(Tryz.slices_Sort_int_none none 0 w).k ?_;rintro w' rfl;exact⟨rfl,by rw[A4Y];exact CT _ _ _ _,A3.I _ _⟩
 ·have I:H.toList.take l.length=l.map (Value.int .i64):=by rw[KF]at L;rw[L];rfl
  refine(Tryz.slices_Sort_int g 0 cap l w (holds_of_blockI E I) (Bv E) hl).k ?_;rintro w'⟨n,os,rfl⟩;have d:(l.mergeSort λx y=>decide (x<=y)).length=l.length:=by simp
  refine⟨rfl,?_,(A3.I _ w).Cx (grownBy_sortedI _) λk Y _=>by cases Y;rfl⟩;unfold DF;rw[d];exact ownsRow_sortedI d (Cb _) E z hm hs
def RS(x:Bs):∀(l:gh Bs),(l.Pairwise λa b=>¬b<a)->∃k,k<=l.length/\(∀t (d:t<l.length),t<k->(l[t]'d)<x)/\∀t (d:t<l.length),k<=t->¬(l[t]'d)<x
 | [],_=>⟨0,Ao _,λt d=>by simp at d,λt d=>by simp at d⟩
 | y::r,hs=>by
  have⟨h1,h2⟩:=D7.1 hs;by_cases hy:y<x
  ·have⟨k,k0,k1,k2⟩:=RS x r h2;refine⟨k+1,by simp;omega,λt d z=>?_,λt d z=>?_⟩
   ·cases t with
    | zero=>exact hy
    | succ t=>exact k1 t (by simp at d;omega) (by omega)
   ·cases t with
    | zero=>omega
    | succ t=>exact k2 t (by simp at d;omega) (by omega)
  ·refine⟨0,Cb _,λt _ z=>by omega,λt d _ h=>?_⟩;cases t with
   | zero=>exact hy h
   | succ t=>
    have E:=h1 _ (BU (show t<r.length by simp at d;omega));exact hy (List.lt_of_le_of_lt (show y<=_ from E) h)
def A30(w:ga)(v:gd)(l:gh Bs)(x:Bs)(h:GC w v l)(hl:l.length<4611686018427387904)(hs:l.Pairwise λa b=>¬b<a):
 Calls Tryz.prog 138 #[v,.string ⟨x.toArray⟩] w λe w'=>∃i,e=.returned (.tuple #[.int .i64 i,.bool (decide (x∈l))])/\∃q,w'=w.drewN q:=by
 obtain⟨a,cap,rfl,hcap,hm⟩:=h.Cd;by_cases h0:l.length=0
 ·have e:l=[]:=GG.1 h0;subst e;refine(Any2.slices_BinarySearch_string_empty Tryz.eD a cap ⟨x.toArray⟩ w).k ?_;rintro w' rfl;exact⟨0,by simp,0,rfl⟩
 ·obtain⟨g,o,rfl,-⟩:=GC.at h 0 (by omega)
  let Sx:Nat->ByteArray:=λt=>if d:t<l.length then ⟨(l[t]'d).toArray⟩ else ⟨x.toArray⟩
  have H:∀t (d:t<l.length),Sx t=⟨(l[t]'d).toArray⟩:=λt d=>by simp only[Sx,dif_pos d]
  refine(Any2.slices_BinarySearch_string Tryz.eD g o l.length cap Sx ⟨x.toArray⟩ w hl (λj Y=>?_)).mono ?_
  ·have⟨g',o',e,hc⟩:=GC.at h j Y;cases e;rw[H j Y];exact hc
  rintro e w'⟨O,q,rfl⟩;have E:∀t,Op.bytesLess (Sx t).toList (⟨x.toArray⟩:gg).toList=decide (∃d:t<l.length,(l[t]'d)<x):=λt=>by
   rw[VU,KV,KV];by_cases d:t<l.length
   ·rw[H t d];by_cases I:(l[t]'d)<x
    ·have L:decide (∃d:t<l.length,(l[t]'d)<x)=true:=CM ⟨d,I⟩;rw[L];exact CM I
    ·have L:decide (∃d:t<l.length,(l[t]'d)<x)=false:=De λ⟨_,h⟩=>I h
     rw[L];exact De I
   ·(have e:Sx t=⟨x.toArray⟩:=by simp only[Sx,Qe d]);have L:decide (∃d:t<l.length,(l[t]'d)<x)=false:=De λ⟨h,_⟩=>d h
    rw[e,L];exact De (Hs _)
  have aG:∀(i j:Nat) (hi:i<l.length) (Y:j<l.length),i<j->¬(l[j]'Y)<(l[i]'hi):=λi j hi Y aE=>Ij.1 hs i j hi Y aE;have⟨k,hk,k1,k2⟩:=RS x l hs;have aD:Lib.bsGo (λt=>Op.bytesLess (Sx t).toList (⟨x.toArray⟩:gg).toList) l.length 0 l.length=k:=by
   refine Lib.bsGo_spec _ k (λt d=>?_) (λt d=>?_) _ 0 l.length (by omega) (by omega) hk
   ·rw[E t];exact CM ⟨by omega,k1 t (by omega) d⟩
   ·rw[E t];exact De λ⟨L,h2⟩=>k2 t L d h2
  rw[aD]at O;have:(k<l.length/\Sx k=⟨x.toArray⟩)↔x∈l:=by
   constructor
   ·rintro⟨z,aA⟩;rw[H k z]at aA;have:(l[k]'z)=x:=by
     have:=ES (λ(b:gg)=>b.data.toList) aA;simpa using this
    rw[<-this];exact BU z
   ·intro hm;have⟨t,d,O⟩:=DV hm;have htk:k<=t:=by
     rcases Fc t k with W | W
     ·have:=k1 t d W;rw[O]at this;exact absurd this (Hs _)
     ·exact W
    (have z:k<l.length:=by omega);refine⟨z,?_⟩;have aF:¬x<(l[k]'z):=by
     rcases Fc k t with W | W
     ·have:=aG k t z d W;rwa [O]at this
     ·(have e:k=t:=by omega);subst e;rw[O];exact Hs _
    have aB:=k2 k z (Ao _);have:(l[k]'z)=x:=List.le_antisymm (show (l[k]'z)<=x from aF) (show x<=(l[k]'z) from aB);rw[H k z,this]
  have hd:decide (k<l.length/\Sx k=⟨x.toArray⟩)=decide (x∈l):=by
   by_cases I:x∈l
   ·rw[CM I];exact CM (this.2 I)
   ·rw[De I];exact De λh=>I (this.1 h)
  rw[hd]at O;exact⟨_,O,q,rfl⟩
def A3M(w:ga)(v:gd)(l:gh Pu)(h:AX w v l)(O:l.length*24<=140737488355328):
 Calls Tryz.prog 153 #[v] w λe w'=>∃d,e=.returned d/\AX w' d l/\(∀g,d.ownBlock=some g->w.heap.size<=g)/\A3 (λ_=>False) w w':=by
 have⟨i0,hi,hz0,hz1,hz2⟩:=Eg IN;obtain⟨a,cap,rfl,h1,z,h3,H,I⟩:=B9 h;cases a with
 | none=>
  have e:=GG.1 (H rfl).1;subst e;refine(AnyE.slices_Clone_nil Tryz.eB _ cap w).k ?_;rintro w' rfl;exact⟨_,rfl,CT _ _ _ _,λg E=>by simp[Value.ownBlock]at E,A3.I _ _⟩
 | some x=>
  obtain⟨g,rfl⟩:=I x rfl;unfold maxLen at z;refine(AnyE.slices_Clone Tryz.eB i0 _ 3 24 hi hz0 hz1 hz2 rfl (by decide) (λw=>sizeOf113 w) g 0 l.length cap (Bb l) w h.1 (by unfold maxLen;omega) O (λj u Y=>?_) (IE l)).mono ?_
  ·have:=BH h rfl Y;simpa using this
  rintro e w'⟨d,rfl,W,h7,L⟩;have⟨q1,q2⟩:=Pb W;exact⟨d,rfl,q1,q2,A3.df L⟩
def A3N(w:ga)(v:gd)(l:gh Int)(h:Db w v l)(W:l.length*8<=140737488355328):
 Calls Tryz.prog 108 #[v] w λe w'=>∃d,e=.returned d/\DF w' d l/\(∀g,d.ownBlock=some g->w.heap.size<=g)/\A3 (λ_=>False) w w':=by
 obtain⟨a,cap,rfl,h1,h2⟩:=h.Cd;by_cases I:l.length=0
 ·have e:=GG.1 I;subst e;cases a with
  | none=>
   refine(Tryz.slices_Clone_int_nil 0 cap w).k ?_;rintro w' rfl;exact⟨_,rfl,CT _ _ _ _,λg L=>by simp[Value.ownBlock]at L,A3.I _ _⟩
  | some x=>
   refine(Tryz.slices_Clone_int_zero x cap w).mono ?_;rintro e w'⟨d,rfl,z,O,E⟩;have⟨q1,q2⟩:=Pb z;exact⟨d,rfl,q1,q2,A3.df E⟩
 ·obtain⟨g,o,rfl,-⟩:=Db.at h 0 (by omega);refine(Tryz.slices_Clone_int g o l.length cap l w (Ao _) W (λj H=>?_)).mono ?_
  ·have⟨g',o',e,hc⟩:=Db.at h j H;cases e;rw[Q1 l j H];exact hc
  rintro e w'⟨d,rfl,z,O,E⟩;rw[Cf]at z;have⟨q1,q2⟩:=Pb z;exact⟨d,rfl,q1,q2,A3.df E⟩
end
section
open Go.RowKit
attribute [local go_sem ↓] CJ
def Tryz.fC:(Tryz.prog.info? 9).map (λi=>(i.zero,i.size,i.bytes))=some (some (.string ⟨#[]⟩),1,16):=by kernel_rfl
def Yd:∃d,Tryz.prog.info? 9=some d/\d.zero=some (.string ⟨#[]⟩)/\d.size=1/\d.bytes=16:=by
 have h:=Tryz.fC;cases hx:Tryz.prog.info? 9 with
 | none=>rw[hx]at h;cases h
 | some i=>rw[hx]at h;simp at h;exact⟨i,rfl,h.1,h.2.1,h.2.2⟩
def Kl(l:gh Bs):gh Bs:=l.mergeSort λx y=>decide (x<=y)
def A2l(l:gh Bs):(Kl l).Pairwise λa b=>¬b<a:=by
 have h:=WN (le:=λx y:Bs=>decide (x<=y)) (λa b c E z=>by simp at E z ⊢;exact List.le_trans E z) (λa b=>by simp;exact List.le_total a b) l;exact h.imp λd=>by simpa using d
def V6(l:gh Bs)(x:Bs):x∈Kl l↔x∈l:=A40
def A2k(l:gh Bs):(Kl l).length=l.length:=NQ _
section
variable{w:ga}{ab b xb jb B:Nat}{sv ov lv jo:gd}{A:Ar}{P:PD}{Ft FT:Nat->Prop}{a c m:Nat}
def IV{w:ga}{e O size z n n2 E d:Nat}{v W:gd}{xs L:gh gd}(h:w.ownsRow E e size v n xs)(Y:w.ownsRow d O z W n2 L)(H:e≠O){g:Nat}(hg:v.ownBlock=some g):¬W.ownBlock=some g:=λI=>by
 have⟨c,hc⟩:=Be h hg;have⟨c2,hc2⟩:=Be Y I;exact BR hc hc2 H rfl
def Tr(w:ga)(h:Co w ab b xb jb sv ov lv jo A P Ft)(hF:Fit P a c m)(hl:CP a c m)(hn:∀n∈A.ix.sd,CH n)(dG:∀n∈A.j.Ak,CH n)(hsl:A.ix.sd.length<=1073741824)(dF:A.j.Ak.length<=1073741824)(hL:Lets B w):
 Ag 100 #[A5 ab] w λe w'=>∃v1 v2,e=.returned (.tuple #[v1,v2])/\Dg w' v1 (A.aX P)/\Dg w' v2 (A.aV P)/\(∀g,v1.ownBlock=some g->w.heap.size<=g)/\(∀g,v2.ownBlock=some g->w.heap.size<=g)/\A3 Ab w w':=by
 obtain⟨i0,hi,aV,aZ,aX⟩:=Yd;have cF:=A1 h;have cL:Hid (∀I k n,A3 Ab w I->1<=k/\k<=4->CH n->Ag 134 #[A0 (k:Nat),A0 n] I λe w'=>e=.returned (.string ⟨(BO k n).toArray⟩)/\A3 Ab I w'):=λI k n hc hk hn=>MX (n:=n) I k hk ⟨by have:=hn.1;omega,hn.2.1⟩ hn.2.2 (hL.aO hc);have dJ:=A1 (cL.o w 3 0 (A3.I _ w) (by omega) (I7 (by omega) (by omega)));have dL:Hid (∀I,A3 Ab w I->Ag 136 #[A5 jb] I λe w'=>∃v,e=.returned v/\DF w' v A.j.Ak/\(∀g,v.ownBlock=some g->I.heap.size<=g)/\A3 Ab I w'):=λI hc=>A09 I (h.jn.aJ hc) dF;have dK:Hid (∀I,A3 Ab w I->Ag 76 #[A5 b] I λe w'=>∃v,e=.returned v/\Dg w' v P.Ai/\A3 Ab I w'/\(∀g,v.ownBlock=some g->I.heap.size<=g)):=λI hc=>MZ (B1.ay h.dk h.lt hc) hF hl;have dC:P.Ai.length<=1073741824:=by rw[Js];exact AJ hF.A4 hl.a
 have aL:Hid (A.Ai=[Ay]++A.j.Ak.map Af++A.ix.sd.map Aw):=rfl;have bL:Hid (A.aX P=P.Ai.filter λnm=>decide (nm∈A.Ai)):=rfl;have bF:Hid (A.aV P=P.Ai.filter λnm=>!decide (nm∈A.Ai)):=rfl;have cX:=A1 hn;have cQ:=A1 dG;obtain⟨dN,cA⟩:∃x,A.aX P=x:=⟨_,rfl⟩;obtain⟨dM,bV⟩:∃x,A.aV P=x:=⟨_,rfl⟩;obtain⟨E,bG⟩:∃x,A.Ai=x:=⟨_,rfl⟩;rw[cA,bG]at bL;rw[bV,bG]at bF;rw[bG]at aL;rw[cA,bV];have b2:E.length<=4294967296:=by rw[aL.o];simp;omega
 have b4:=h.sd;generalize hns:P.Ai=ns at *;generalize hlgs:A.j.Ak=lgs at *;generalize hss:A.ix.sd=ss at *;obtain⟨sa,scap,rfl,sc1,cT⟩:=b4.Cd;unfold maxLen at cT;have cS:=A1 b4
 go_enter func100,ntmps100
 go_wp2_with (fail);refine dJ.k ?_;rintro I b1;have e3:BO ((3:Nat):Int) 0=Ay:=rfl;rw[e3];have bH:A3 Ab w (I.alloc (.cells #[.string ⟨Ay.toArray⟩] 9)):=b1.al _;have a2:=((cF.o.aJ bH).Ah).c2;have a6:Hid (Dg (I.alloc (.cells #[.string ⟨Ay.toArray⟩] 9)) (.slice (some (Ac I.heap.size 0)) 1 1) [Ay]):=
  ⟨rfl,.inr ⟨I.heap.size,1,_,rfl,Cb _,BL I _,Ao _,by decide,rfl,rfl⟩⟩
 have cN:=A1 (dL.o _ bH);have cZ:=A1 bH;have cI:=A1 <| b1.Aj;go_wp2_with (fail);refine cN.o.mono ?_;rintro e w2⟨v,rfl,hv,dD,aW⟩;obtain⟨la,bQ,rfl,lc1,cM⟩:=(DF.rd hv).Cd;unfold maxLen at cM;have dH:=A1 hv;have HLO:=A1 dD;have cV:=A1 <| cZ.o.tr aW;have bA:Hid (Dg w2 (.slice (some (Ac I.heap.size 0)) 1 1) [Ay]):=Ax a6.o λg d=>aW.An g (AF a6.o d) (λh=>h);go_wp2;go_loopw [4,23] (λv iv wr=>∃k:Nat,iv=A0 k/\k<=lgs.length/\Hid (Dg wr v ([Ay]++(lgs.take k).map Af)/\(∀g,v.ownBlock=some g->w.heap.size<=g)/\A3 Ab w wr/\DF wr (.slice la lgs.length bQ) lgs)) (λ_ iv _=>lgs.length-(intOf iv).toNat)
 ·exact⟨0,rfl,by omega,by simpa using bA.o,λg d=>by simp[Value.ownBlock]at d;have:=cI.o;omega,cV.o,dH.o⟩
 ·obtain⟨k,rfl,hk,hI⟩:=hrel;have⟨i1,i2,i3,i4⟩:=hI.o;obtain⟨ap,cp,rfl,aP,aI,-⟩:=B9 i1;unfold maxLen at aI;by_cases H:k<lgs.length
  ·obtain⟨g,o,rfl,d1⟩:=Db.at (DF.rd i4) k H;have aB:=cQ.o _ (BU H);have Y:=Dy H;generalize bR:(lgs[k]'H)=n at d1 aB Y;have aA:=A1 (cL.o wr 1 n i3 (by omega) aB);rw[show ((1:Nat):Int)=1 from rfl]at aA;(have aF:Hid ([Ay]++(lgs.take (k+1)).map Af=([Ay]++(lgs.take k).map Af)++[Af n]):=by unfold Hid;rw[Y];simp);have bD:BO 1 n=Af n:=rfl;rw[bD]at aA;(have bO:([Ay]++(lgs.take k).map Af).length<=4294967296:=by simp;omega);generalize W:[Ay]++(lgs.take k).map Af=z at i1 i2 aF bO aP;have bN:=A1 bO;(have el:([Ay]++(lgs.take k).map Af).length=z.length:=by rw[W])
   try rw[el]
   generalize b7:Af n=nm at aA aF;have bX:=A1 i1;have cE:=A1 i2;have cD:=A1 i3;have dB:=A1 i4;(have aO:(k:Int)<(lgs.length:Int):=by omega);have b0:(0:Int)<=(k:Int):=GK _;go_wp2_with (fail);refine aA.k ?_;rintro w6 aQ;have bU:=A1 aQ;have O:Hid ((w6.alloc (.cells #[.string ⟨nm.toArray⟩] 9)).ownsRow 0 9 1 (.slice ap z.length cp) z.length (Ds z)):=Ax bX.o λg d=>(aQ.al _).An g (AF bX.o d) (λh=>h)
   have aH:=A1 (Src.bh (size:=1) (B:=w6.heap.size) Hp w6 #[.string ⟨nm.toArray⟩] 9 (by simp) 1 1 rfl (Nr [nm]));go_wp2_with (at_builtin;refine Dj rfl (.tmp 27) (.tmp 30) 121 121 rfl 9 i0 _ 1 16 Hp hi aV aZ aX rfl (by decide) (.slice ap z.length cp) z.length (Ds z) (by rfl) O.o _ 1 _ (by rfl) aH.o (by have:=bN.o;omega) ?_;intro a8 aE w8 L;have bC:=A1 L);go_roundw
   ·have L:=bC.o;have k7:A3 Ab wr (w6.alloc (.cells #[.string ⟨nm.toArray⟩] 9)):=bU.o.al _;have aG:=L.Al (S:=λk=>(Value.slice ap z.length cp).ownBlock=some k) λ_ h=>h;have k8:A3 (λk=>(Value.slice ap z.length cp).ownBlock=some k) wr w8:=(k7.aY).tr aG;(have e:(z++[nm]).length=z.length+1:=by simp);have e2:Ds (z++[nm])=Ds z++Ds [nm]:=Ns _ _;refine⟨k+1,by go_num,by omega,?_,?_,?_,?_⟩
    ·rw[aF.o];unfold Dg;rw[e,e2];exact L.AE
    ·intro g d;rcases L.CA with h|h
     ·rw[h]at d;exact cE.o g d
     ·rw[h]at d;cases d;have:=cD.o.Aj;have:=k7.Aj;have:=bU.o.Aj;omega
    ·exact cD.o.Av k8 λy hy aU=>by have:=cE.o y hy;omega
    ·exact Ax dB.o λg d=>k8.An g (AF dB.o d) (IV dB.o bX.o (by decide) d)
   ·simp[intOf];omega
  ·(obtain rfl:k=lgs.length:=by omega);rw[Cf]at i1 i2;(have aO:¬((lgs.length:Int)<(lgs.length:Int)):=by omega);obtain⟨z,W⟩:∃z,[Ay]++lgs.map Af=z:=⟨_,rfl⟩;(have el:([Ay]++(lgs.take lgs.length).map Af).length=z.length:=by rw[Cf,W]);rw[W]at i1 i2;rw[W]at aL
   try rw[el]
   have bX:=A1 i1;have cE:=A1 i2;have cD:=A1 i3;have a1:=(cF.o.aJ i3).Ah.c1;have x4:=(cF.o.aJ i3).ix.c4;have HCUR:=A1 W;go_wp2;(have bO:z.length+ss.length<=4294967296:=by have:=b2;rw[aL.o]at this;simpa using this);go_loopw [4,41] (λv iv wr=>∃k:Nat,iv=A0 k/\k<=ss.length/\Hid (Dg wr v (z++(ss.take k).map Aw)/\(∀g,v.ownBlock=some g->w.heap.size<=g)/\A3 Ab w wr)) (λ_ iv _=>ss.length-(intOf iv).toNat)
   ·exact⟨0,rfl,by omega,by simpa using bX.o,cE.o,cD.o⟩
   ·obtain⟨k,rfl,hk,hI⟩:=hrel;have⟨i1,i2,i3⟩:=hI.o;obtain⟨aJ,aK,rfl,bB,bE,-⟩:=B9 i1;unfold maxLen at bE;by_cases H:k<ss.length
    ·obtain⟨g,o,rfl,d0⟩:=Db.at cS.o k H;have d1:=i3.ao d0;have aB:=cX.o _ (BU H);have Y:ss.take (k+1)=ss.take k++[ss[k]'H]:=Dy H;generalize bR:(ss[k]'H)=n at d0 d1 aB Y;have aA:=A1 (cL.o wr 2 n i3 (by omega) aB);rw[show ((2:Nat):Int)=2 from rfl]at aA;(have aF:Hid (z++(ss.take (k+1)).map Aw=(z++(ss.take k).map Aw)++[Aw n]):=by unfold Hid;rw[Y];simp);have bD:BO 2 n=Aw n:=rfl;rw[bD]at aA;(have a4:(z++(ss.take k).map Aw).length<=4294967296:=by simp;omega);generalize dE:z++(ss.take k).map Aw=cu at i1 i2 aF a4 bB;have bN:=A1 a4;(have el:(z++(ss.take k).map Aw).length=cu.length:=by rw[dE])
     try rw[el]
     generalize b7:Aw n=nm at aA aF;have aS:=A1 i1;have aM:=A1 i2;have aT:=A1 i3;(have aO:(k:Int)<(ss.length:Int):=by omega);have b0:(0:Int)<=(k:Int):=GK _;go_wp2_with (fail);refine aA.k ?_;rintro w6 aQ;have bU:=A1 aQ;have O:Hid ((w6.alloc (.cells #[.string ⟨nm.toArray⟩] 9)).ownsRow 0 9 1 (.slice aJ cu.length aK) cu.length (Ds cu)):=Ax aS.o λg d=>(aQ.al _).An g (AF aS.o d) (λh=>h)
     have aH:=A1 (Src.bh (size:=1) (B:=w6.heap.size) Hp w6 #[.string ⟨nm.toArray⟩] 9 (by simp) 1 1 rfl (Nr [nm]));go_wp2_with (at_builtin;refine Dj rfl (.tmp 45) (.tmp 48) 121 121 rfl 9 i0 _ 1 16 Hp hi aV aZ aX rfl (by decide) (.slice aJ cu.length aK) cu.length (Ds cu) (by rfl) O.o _ 1 _ (by rfl) aH.o (by have:=bN.o;omega) ?_;intro a8 aE w8 L;have bC:=A1 L);go_roundw
     ·have L:=bC.o;have k7:A3 Ab wr (w6.alloc (.cells #[.string ⟨nm.toArray⟩] 9)):=bU.o.al _;have aG:=L.Al (S:=λk=>(Value.slice aJ cu.length aK).ownBlock=some k) λ_ h=>h;have k8:A3 (λk=>(Value.slice aJ cu.length aK).ownBlock=some k) wr w8:=(k7.aY).tr aG;(have e:(cu++[nm]).length=cu.length+1:=by simp);have e2:Ds (cu++[nm])=Ds cu++Ds [nm]:=Ns _ _;refine⟨k+1,by go_num,by omega,?_,?_,?_⟩
      ·rw[aF.o];unfold Dg;rw[e,e2];exact L.AE
      ·intro g d;rcases L.CA with h|h
       ·rw[h]at d;exact aM.o g d
       ·rw[h]at d;cases d;have:=aT.o.Aj;have:=k7.Aj;have:=bU.o.Aj;omega
      ·exact aT.o.Av k8 λy hy aU=>by have:=aM.o y hy;omega
     ·simp[intOf];omega
    ·(obtain rfl:k=ss.length:=by omega);rw[Cf,<-aL.o]at i1 i2;(have aO:¬((ss.length:Int)<(ss.length:Int)):=by omega);(have el:(z++(ss.take ss.length).map Aw).length=E.length:=by rw[Cf,aL.o])
     try rw[el]
     have dO:=A1 (YG wr _ E i1 (by omega));have aM:=A1 i2;have aT:=A1 i3;go_wp2_with (fail);refine dO.k ?_;rintro w3⟨cH,aW⟩;(have dA:Hid (A3 Ab w w3):=aT.o.Av aW λy hy aU=>by have:=aM.o y hy;omega);have cY:Hid (GC w3 (.slice aJ E.length aK) (Kl E)):=Dg.rd cH;have cP:=A1 (dK.o w3 dA.o);have a0:=(cF.o.aJ dA.o).Ah.c0;go_wp2_with (fail);refine cP.o.mono ?_;rintro e w4⟨v,rfl,bW,b3,hvo4⟩;obtain⟨na,ncap,rfl,nc1,cO⟩:=(Dg.rd bW).Cd;unfold maxLen at cO;have cU:=A1 (Dg.rd bW);have cJ:Hid (A3 Ab w w4):=dA.o.tr b3;have bI:=A1 (cY.o.Al b3 (λ_ _ h=>h));have a7:Hid (∀x,decide (x∈Kl E)=decide (x∈E)):=λx=>by
      by_cases h:x∈E
      ·rw[CM h,CM ((V6 E x).2 h)]
      ·rw[De h,De λh'=>h ((V6 E x).1 h')]
     have a9:=A2l E;have a5:=A2k E;generalize hSN:Kl E=SN at bI a7 a9 a5;have bZ:=A1 a9;obtain⟨sn,bY⟩:∃sn,E.length=sn:=⟨_,rfl⟩
     try rw[bY]
     rw[bY]at bI a5;(have hsnl:sn<=4294967296:=by omega);have dI:Hid (∀wx x,A3 Ab w4 wx->Ag 138 #[.slice aJ sn aK,.string ⟨x.toArray⟩] wx λe w'=>∃i,e=.returned (.tuple #[A0 i,.bool (decide (x∈E))])/\∃q,w'=wx.drewN q):=λwx x hx=>by
      have:=A30 wx _ SN x (bI.o.Al hx (λ_ _ h=>h)) (by omega) bZ.o;rw[a7.o x]at this;exact this
     have bT:ns.length<=1073741824:=dC;have cB:Hid (∀p:Bs->Bool,∀k,((ns.take k).filter p).length<=1073741824):=λp k=>AJ (J8 _ _) (AJ (List.length_take_le' _ _) bT);go_wp2;go_loopw [9,10,59] (λv1 v2 iv wr=>∃k:Nat,iv=A0 k/\k<=ns.length/\Hid (Dg wr v1 ((ns.take k).filter λnm=>decide (nm∈E))/\Dg wr v2 ((ns.take k).filter λnm=>!decide (nm∈E))/\(∀g,v1.ownBlock=some g->w4.heap.size<=g)/\(∀g,v2.ownBlock=some g->w4.heap.size<=g)/\(∀g,v1.ownBlock=some g->¬v2.ownBlock=some g)/\A3 Ab w4 wr)) (λ_ _ iv _=>ns.length-(intOf iv).toNat)
     ·exact⟨0,rfl,by omega,CT _ _ _ _,CT _ _ _ _,λg d=>by simp[Value.ownBlock]at d,λg d=>by simp[Value.ownBlock]at d,λg d=>by simp[Value.ownBlock]at d,A3.I _ _⟩
     ·obtain⟨k,rfl,hk,hI⟩:=hrel;have⟨i1,i2,i3,i4,i5,i6⟩:=hI.o;obtain⟨ap,cp,rfl,aP,aI,-⟩:=B9 i1;obtain⟨aq,cq,rfl,hcaq1,bK,-⟩:=B9 i2;unfold maxLen at aI bK;by_cases H:k<ns.length
      ·obtain⟨g,o,rfl,d0⟩:=GC.at cU.o k H;have d1:=i6.ao d0;have Y:ns.take (k+1)=ns.take k++[ns[k]'H]:=Dy H;generalize bR:(ns[k]'H)=nm at d0 d1 Y;have aY:=A1 (dI.o wr nm i6);have aR:Hid ((ns.take (k+1)).filter (λnm=>decide (nm∈E))=(ns.take k).filter (λnm=>decide (nm∈E))++(if nm∈E then [nm] else [])):=by
        unfold Hid;rw[Y,NT];by_cases hx:nm∈E<;>simp[hx]
       have aN:Hid ((ns.take (k+1)).filter (λnm=>!decide (nm∈E))=(ns.take k).filter (λnm=>!decide (nm∈E))++(if nm∈E then [] else [nm])):=by
        unfold Hid;rw[Y,NT];by_cases hx:nm∈E<;>simp[hx]
       have b6:=A1 (cB.o (λnm=>decide (nm∈E)) k);have b8:=A1 (cB.o (λnm=>!decide (nm∈E)) k);obtain⟨l1,bS⟩:∃l1,(ns.take k).filter (λnm=>decide (nm∈E))=l1:=⟨_,rfl⟩;obtain⟨l2,b9⟩:∃l2,(ns.take k).filter (λnm=>!decide (nm∈E))=l2:=⟨_,rfl⟩;rw[bS]at aR b6 i1 i3 i5;rw[b9]at aN b8 i2 i4 i5;(have bM:((ns.take k).filter (λnm=>decide (nm∈E))).length=l1.length:=by rw[bS]);(have bJ:((ns.take k).filter (λnm=>!decide (nm∈E))).length=l2.length:=by rw[b9])
       try rw[bM]
       try rw[bJ]
       have aS:=A1 i1;have aM:=A1 i2;have aT:=A1 i3;have cC:=A1 i4;have cG:=A1 i5;have bP:=A1 i6;(have aO:(k:Int)<(ns.length:Int):=by omega);have b0:(0:Int)<=(k:Int):=GK _;by_cases hx:nm∈E
       ·rw[CM hx]at aY;rw[Ae hx]at aR aN;go_wp2_with (fail);refine aY.o.mono ?_;rintro e w6⟨i,rfl,q,rfl⟩;have O:Hid (((wr.drewN q).alloc (.cells #[.string ⟨nm.toArray⟩] 9)).ownsRow 0 9 1 (.slice ap l1.length cp) l1.length (Ds l1)):=Ax aS.o λg d=>(((A3.I Ab wr).bb q).al _).An g (AF aS.o d) (λh=>h)
        have aH:=A1 (Src.bh (size:=1) (B:=(wr.drewN q).heap.size) Hp (wr.drewN q) #[.string ⟨nm.toArray⟩] 9 (by simp) 1 1 rfl (Nr [nm]));have b5:Hid (A3 Ab wr ((wr.drewN q).alloc (.cells #[.string ⟨nm.toArray⟩] 9))):=((A3.I Ab wr).bb q).al _;go_wp2_with (at_builtin;refine Dj rfl (.tmp 70) (.tmp 72) 121 121 rfl 9 i0 _ 1 16 Hp hi aV aZ aX rfl (by decide) (.slice ap l1.length cp) l1.length (Ds l1) (by rfl) O.o _ 1 _ (by rfl) aH.o (by have:=b6.o;omega) ?_;intro a8 aE w8 L;have bC:=A1 L);go_roundw
        ·have L:=bC.o;have aG:=L.Al (S:=λk=>(Value.slice ap l1.length cp).ownBlock=some k) λ_ h=>h;have k8:A3 (λk=>(Value.slice ap l1.length cp).ownBlock=some k) wr w8:=(b5.o.aY).tr aG;(have e:(l1++[nm]).length=l1.length+1:=by simp);have e2:Ds (l1++[nm])=Ds l1++Ds [nm]:=Ns _ _;have aD:∀g,(Value.slice a8 (l1.length+1) aE).ownBlock=some g->(Value.slice ap l1.length cp).ownBlock=some g\/wr.heap.size<=g:=λg d=>by
          rcases L.CA with h|h
          ·rw[h]at d;exact .inl d
          ·rw[h]at d;cases d;exact .inr b5.o.Aj
         refine⟨k+1,by go_num,by omega,?_,?_,?_,cC.o,?_,?_⟩
         ·rw[aR.o];unfold Dg;rw[e,e2];exact L.AE
         ·rw[aN.o,GJ];exact Ax aM.o λg d=>k8.An g (AF aM.o d) λh=>cG.o g h d
         ·exact λg d=>(aD g d).elim (aT.o g) λh=>AJ bP.o.Aj h
         ·exact λg d a3=>(aD g d).elim (λh=>cG.o g h a3) λh=>by have:=AF aM.o a3;omega
         ·exact bP.o.Av k8 λy hy aU=>by have:=aT.o y hy;omega
        ·simp[intOf];omega
       ·rw[De hx]at aY;rw[Aa hx]at aR aN;go_wp2_with (fail);refine aY.o.mono ?_;rintro e w6⟨i,rfl,q,rfl⟩;have O:Hid (((wr.drewN q).alloc (.cells #[.string ⟨nm.toArray⟩] 9)).ownsRow 0 9 1 (.slice aq l2.length cq) l2.length (Ds l2)):=Ax aM.o λg d=>(((A3.I Ab wr).bb q).al _).An g (AF aM.o d) (λh=>h)
        have aH:=A1 (Src.bh (size:=1) (B:=(wr.drewN q).heap.size) Hp (wr.drewN q) #[.string ⟨nm.toArray⟩] 9 (by simp) 1 1 rfl (Nr [nm]));have b5:Hid (A3 Ab wr ((wr.drewN q).alloc (.cells #[.string ⟨nm.toArray⟩] 9))):=((A3.I Ab wr).bb q).al _;go_wp2_with (at_builtin;refine Dj rfl (.tmp 74) (.tmp 76) 121 121 rfl 9 i0 _ 1 16 Hp hi aV aZ aX rfl (by decide) (.slice aq l2.length cq) l2.length (Ds l2) (by rfl) O.o _ 1 _ (by rfl) aH.o (by have:=b8.o;omega) ?_;intro a8 aE w8 L;have bC:=A1 L);go_roundw
        ·have L:=bC.o;have aG:=L.Al (S:=λk=>(Value.slice aq l2.length cq).ownBlock=some k) λ_ h=>h;have k8:A3 (λk=>(Value.slice aq l2.length cq).ownBlock=some k) wr w8:=(b5.o.aY).tr aG;(have e:(l2++[nm]).length=l2.length+1:=by simp);have e2:Ds (l2++[nm])=Ds l2++Ds [nm]:=Ns _ _;have aD:∀g,(Value.slice a8 (l2.length+1) aE).ownBlock=some g->(Value.slice aq l2.length cq).ownBlock=some g\/wr.heap.size<=g:=λg d=>by
          rcases L.CA with h|h
          ·rw[h]at d;exact .inl d
          ·rw[h]at d;cases d;exact .inr b5.o.Aj
         refine⟨k+1,by go_num,by omega,?_,?_,aT.o,?_,?_,?_⟩
         ·rw[aR.o,GJ];exact Ax aS.o λg d=>k8.An g (AF aS.o d) λh=>cG.o g d h
         ·rw[aN.o];unfold Dg;rw[e,e2];exact L.AE
         ·exact λg d=>(aD g d).elim (cC.o g) λh=>AJ bP.o.Aj h
         ·exact λg d a3=>(aD g a3).elim (λh=>cG.o g d h) λh=>by have:=AF aS.o d;omega
         ·exact bP.o.Av k8 λy hy aU=>by have:=cC.o y hy;omega
        ·simp[intOf];omega
      ·(obtain rfl:k=ns.length:=by omega);rw[Cf,<-bL.o]at i1 i3;rw[Cf,<-bF.o]at i2 i4;(have bM:((ns.take ns.length).filter (λnm=>decide (nm∈E))).length=dN.length:=by rw[Cf,<-bL.o]);(have bJ:((ns.take ns.length).filter (λnm=>!decide (nm∈E))).length=dM.length:=by rw[Cf,<-bF.o])
       try rw[bM]
       try rw[bJ]
       have aS:=A1 i1;have aM:=A1 i2;have aT:=A1 i3;have cC:=A1 i4;have bP:=A1 i6;(have aO:¬((ns.length:Int)<(ns.length:Int)):=by omega);go_wp2;go_ret2;exact⟨_,_,rfl,aS.o,aM.o,λg d=>AJ cJ.o.Aj (aT.o g d),λg d=>AJ cJ.o.Aj (cC.o g d),cJ.o.tr bP.o⟩
end
section
variable{w:ga}{ab b xb jb B:Nat}{sv ov lv jo:gd}{A:Ar}{P:PD}{Ft FT:Nat->Prop}{a c m:Nat}
def A2L(h:Bf w b P Ft)(nm:Bs)(E:Fit P a c m)(z:CP a c m):
 Ag 193 #[A5 b,.string ⟨nm.toArray⟩] w (Am (A0 (P.aG (A6 nm)).1) λw'=>Aq w Ft w' (λw' d=>Bf w' b (P.aG (A6 nm)).2 d)):=
 ZF h (A6 nm) (by have:=E.A4;have:=E.Al;have:=z.a;have:=z.c;omega)
def removeAll_cons(nm:Bs)(r:gh Bs)(P:PD):PD.aK (nm::r) P=if (P.aG (A6 nm)).1≠0 then P.aG (A6 nm) else PD.aK r (P.aG (A6 nm)).2:=rfl
def Tx(A:Ar)(P:PD)(h:Fit P a c m):(A.aV P).length<=a:=by
 unfold Ar.aV;exact AJ (J8 _ _) (by rw[Js];exact h.A4)
def RI(w:ga)(h:AD w ab b A P FT)(hF:Fit P a c m)(hl:CP a (c+a) m)(hn:∀n∈A.ix.sd,CH n)(aX:∀n∈A.j.Ak,CH n)(aS:A.ix.sd.length<=1073741824)(aV:A.j.Ak.length<=1073741824)(hL:Lets B w):
 Ag 150 #[A5 ab] w (Am (A0 (A.au P).1) λw'=>Aq w FT w' (λw' aR=>AD w' ab b A (A.au P).2 aR)):=by
 obtain⟨xb,jb,sv,ov,lv,jo,Ft,hV,aI⟩:=h;have a5:=A1 (Tr w hV hF ⟨hl.a,by have:=hl.c;omega,hl.m⟩ hn aX aS aV hL);have hol:=Tx A P hF;have a1:=A1 hV;have H:=A1 aI;have a2:Hid (A.au P=PD.aK (A.aV P) P):=rfl;have a3:=A1 removeAll_cons;generalize hR:A.au P=R at a2 ⊢;have aZ:=A1 hF;have aE:=A1 hl;generalize A.aV P=os at *
 go_enter func150,ntmps150
 go_wp2_with (fail);refine a5.m ?_;rintro e w1⟨v1,v2,rfl,-,h2,-,aU,aK⟩;obtain⟨oa,ocap,rfl,oc1,a0⟩:=(Dg.rd h2).Cd;unfold maxLen at a0;have aT:=A1 (Dg.rd h2);have aY:=A1 aU;have aG:=A1 aK;have z:=A1 (a1.o.aJ aK);go_wp2;go_loopw [15] (λiv wr=>∃(k:Nat),iv=A0 k/\k<=os.length/\Hid (∃E,Aq w1 Ft wr (λw' d=>Co w' ab b xb jb sv ov lv jo A E d)/\Fit E a (c+k) m/\R=PD.aK (os.drop k) E)) (λiv _=>os.length-(intOf iv).toNat)
 ·exact⟨0,rfl,by omega,P,⟨A3.I _ _,Ft,z.o,z.o.lt,λk hk=>.inl hk⟩,aZ.o,a2.o⟩
 ·obtain⟨k,rfl,hk,hI⟩:=hrel;have⟨E,hi,hf,hx⟩:=hI.o;obtain⟨c1,aH,hv,aO,s1⟩:=hi;by_cases aB:k<os.length
  ·obtain⟨g,o,rfl,d0⟩:=GC.at aT.o k aB;have d1:=c1.bq d0 (λh=>by have:=a1.o.lt _ h;have:=aY.o g rfl;have h':g<w.heap.size:=a1.o.lt _ h;omega);have aJ:=FB aB;generalize hne:(os[k]'aB)=nm at d0 d1 aJ;rw[aJ,a3.o]at hx;have e0:=hv.Ah.c0;have aN:CP a (c+k) m:=⟨aE.o.a,by have:=aE.o.c;omega,aE.o.m⟩;have aL:=A1 (A2L hv.dk nm hf aN);(have aF:Hid (Fit (E.aG (A6 nm)).2 a (c+(k+1)) m):=by have:=hf.aG (A6 nm);exact this);generalize hY:E.aG (A6 nm)=Y at aL hx aF;have aA:Hid (∀O,Aq wr aH O (λw' d=>Bf w' b Y.2 d)->Aq w1 Ft O (λw' d=>Co w' ab b xb jb sv ov lv jo A Y.2 d)):=λO h6=>Aq.a7 c1 s1 (hv.cb h6);have aD:=A1 hx;(have aP:(k:Int)<(os.length:Int):=by omega);have hk0:=C3 k;obtain⟨aM,aQ⟩:=Y;dsimp only at aL aA aD aF;by_cases hy:aM=0
   case neg=>
    (have I:R=(aM,aQ):=by rw[aD.o,Ae hy]);subst I;(have hyb:(aM !=0)=true:=by simpa using hy);go_wp2_with (go_at_call 193;refine aL.k ?_;rintro O W;have L:=A1 (aA.o O W));go_ret;exact⟨rfl,(z.o.cy H.o L.o).a8 aG.o⟩
   case pos=>
    subst hy;(have aW:Hid (R=PD.aK (os.drop (k+1)) aQ):=by unfold Hid;rw[aD.o,Aa (by simp)]);go_wp2_with (go_at_call 193;refine aL.k ?_;rintro O W;have L:=A1 (aA.o O W));go_roundw
    ·exact⟨k+1,by go_num,by omega,aQ,L.o,aF.o,aW.o⟩
    ·simp[intOf];omega
  ·(obtain rfl:k=os.length:=by omega);rw[GI]at hx;have I:R=(0,E):=hx;subst I;(have aP:¬((os.length:Int)<(os.length:Int)):=by omega);have a4:Hid (Aq w1 Ft wr (λw' d=>Co w' ab b xb jb sv ov lv jo A E d)):=⟨c1,aH,hv,aO,s1⟩;go_wp2;go_ret;exact⟨rfl,(z.o.cy H.o a4.o).a8 aG.o⟩
def A1N{nm:Bs}{s:Nat}{f0:Int}{z:gh Int}(w:ga)(h:BZ w xb 162 b nm s f0 sv)(O:Db w sv z)(H:gd)(l:gh Int)(L:Db w H l)(first:Int):
 Ag 198 #[A5 xb,A0 first,H] w (Am (.bool (decide (f0=first/\z=l))) λw'=>∃q,w'=w.drewN q):=by
 have c3:=h.c3;have c4:=h.c4;have I:=A1 (A2C w sv H z l O L);obtain⟨ka,kcap,rfl,k1,k2⟩:=L.Cd;obtain⟨sa,scap,rfl,s1,s2⟩:=O.Cd;by_cases E:f0=first
 ·subst E;have e:decide (f0=f0/\z=l)=decide (z=l):=by simp
  rw[e];generalize hd:decide (z=l)=d at I ⊢
  go_enter func198,ntmps198
  go_wp2_with (go_at_call 241;refine I.k ?_;rintro w2⟨q,rfl⟩);go_ret;exact⟨rfl,q,rfl⟩
 ·have e:decide (f0=first/\z=l)=false:=De λh=>E h.1;rw[e];have hb:(f0==first)=false:=by simpa using E
  go_enter func198,ntmps198
  go_wp2;go_ret;exact⟨rfl,0,rfl⟩
def Co.ev{w':ga}{P':PD}{f':Int}{z:gd}{O:gh Int}(h:Co w ab b xb jb sv ov lv jo A P Ft)(W:BZ w' xb 162 b Ay (AB Ay) f' z)(hr:Db w' z O)(hI:JR w Ft xb w' b P')(I:∀g,z.ownBlock=some g->sv.ownBlock=some g\/(g<w.heap.size/\¬Ft g/\¬Fk ab xb jb sv ov lv jo g)):
 ∃H,Co w' ab b xb jb z ov lv jo {A with ix:=⟨f',O⟩} P' H/\A3 (λk=>Ft k\/k=xb) w w'/\∀k,H k->Ft k\/w.heap.size<=k:=by
 obtain⟨hc,H,h2,h3,h4⟩:=hI;have key:∀k,Fk ab xb jb sv ov lv jo k->k≠xb->w'.heap[k]?=w.heap[k]?:=λk d Y=>hc.An k (h.bF d) λW=>W.elim (h.Dl k d) Y;have sS:∀g,z.ownBlock=some g->g≠ab/\g≠xb/\¬Dq jb lv jo g:=λg E=>by
  rcases I g E with E|⟨_,_,E⟩
  ·exact h.Fm g E
  ·exact⟨λe=>E (.inl e),λe=>E (.inr (.inl e)),λe=>E (.inr (.inr (.inr (.inr e))))⟩
 refine⟨H,⟨(key ab (.inl rfl) h.ne).trans h.Ah,W,hr,h.AN.aN λg E=>key g (.inr (.inr (.inr (.inl E)))) (h.Gh g E).2.1,h.jn.aN λk d=>key k (.inr (.inr (.inr (.inr d)))) (h.FI k d).2,h2,h3,?_,sS,h.Gh,h.FI⟩,hc,h4⟩;intro k d W;rcases h4 k W with L|L
 ·rcases d with d|d|d|d|d
  ·exact h.Dl k (.inl d) L
  ·exact h.Dl k (.inr (.inl d)) L
  ·rcases I k d with d|⟨_,d,_⟩
   ·exact h.Dl k (.inr (.inr (.inl d))) L
   ·exact d L
  ·exact h.Dl k (.inr (.inr (.inr (.inl d)))) L
  ·exact h.Dl k (.inr (.inr (.inr (.inr d)))) L
 ·have:k<w.heap.size:=by
   rcases d with d|d|d|d|d
   ·exact h.bF (.inl d)
   ·exact h.bF (.inr (.inl d))
   ·rcases I k d with d|⟨d,_⟩
    ·exact h.bF (.inr (.inr (.inl d)))
    ·exact d
   ·exact h.bF (.inr (.inr (.inr (.inl d))))
   ·exact h.bF (.inr (.inr (.inr (.inr d))))
  omega
def Co.fH{w':ga}{lv' I:gd}{Y:Jn}(h:Co w ab b xb jb sv ov lv jo A P Ft)(hj:DE w' jb b lv' I Y)(hc:A3 (One jb) w w')(L:lv'.ownBlock=none)(O:I=.pointer none):Co w' ab b xb jb sv ov lv' I {A with j:=Y} P Ft:=by
 have key:∀k,k≠jb->k<w.heap.size->w'.heap[k]?=w.heap[k]?:=λk d hl=>hc.An k hl d;have E:∀k,Dq jb lv' I k->k=jb:=λk d=>by
  rcases d with h|h|h
  ·exact h
  ·rw[L]at h;cases h
  ·rw[O]at h;cases h
 have H:Dq jb lv jo jb:=.inl rfl
 refine⟨(key ab (λe=>(h.FI jb H).1 e.symm) h.Ah.lt).trans h.Ah,(key xb (λe=>(h.FI jb H).2 e.symm) h.ix.lt).trans h.ix,h.sd.aN λg z=>key g (λe=>(h.Fm g z).2.2 (e ▸ H)) (h.sd.lt z),h.AN.aN λg z=>key g (λe=>(h.Gh g z).2.2 (e ▸ H)) (h.AN.lt z),hj,
  B1.aN h.dk λk d=>key k (λe=>by subst e;exact h.Dl _ (.inr (.inr (.inr (.inr H)))) d) (h.lt k d),λk d=>Bi (h.lt k d) hc.Aj,?_,λg z=>?_,λg z=>?_,λk d=>?_⟩
 ·intro k d;rcases d with d|d|d|d|d
  ·exact h.Dl k (.inl d)
  ·exact h.Dl k (.inr (.inl d))
  ·exact h.Dl k (.inr (.inr (.inl d)))
  ·exact h.Dl k (.inr (.inr (.inr (.inl d))))
  ·rw[E k d];exact h.Dl jb (.inr (.inr (.inr (.inr H))))
 ·exact⟨(h.Fm g z).1,(h.Fm g z).2.1,λW=>(h.Fm g z).2.2 (by rw[E g W];exact H)⟩
 ·exact⟨(h.Gh g z).1,(h.Gh g z).2.1,λW=>(h.Gh g z).2.2 (by rw[E g W];exact H)⟩
 ·rw[E k d];exact h.FI jb H
def A4c(w:ga)(h:AD w ab b A P FT)(kv:gd)(l:gh Int)(E:Db w kv l)(aY:∀g,kv.ownBlock=some g->¬FT g)(hr:AT (A.j.A8+1))(aS:∀x∈l,AT x)(aT:l.length<=134217728)(hF:Fit P a c m)(hl:CP (a+2) (c+2) (m+12+8*l.length))(hL:Lets B w):
 Ag 152 #[A5 ab,kv] w (Am (A0 (A.ah P l).1) λw'=>Aq w (λk=>FT k\/kv.ownBlock=some k) w' (λw' aR=>AD w' ab b (A.ah P l).2.1 (A.ah P l).2.2 aR)):=by
 obtain⟨xb,jb,sv,ov,lv,jo,Ft,W,aM⟩:=h
 have aL:Hid (A.ah P l=if A.ix.AZ=A.j.A8+1/\A.ix.sd=l then (0,A,P) else
  if (P.ah (A.j.A8+1) l).1≠0 then ((P.ah (A.j.A8+1) l).1,A,(P.ah (A.j.A8+1) l).2) else
  (0,{A with ix:=⟨A.j.A8+1,l⟩,j:=⟨[],A.j.A8,0,none⟩},(P.ah (A.j.A8+1) l).2)):=rfl
 have aW:Hid (∀w1,A3 Ab w w1->_):=λw1 hc=>TV w1 (W.jn.aJ hc) hr;have aJ:Hid (∀w1,A3 Ab w w1->_):=λw1 hc=>A1N w1 (W.ix.an hc (λh=>h)) (W.sd.Al hc (λ_ _ h=>h)) kv l (E.Al hc (λ_ _ h=>h)) (A.j.A8+1);have aQ:Hid (∀w1,A3 Ab w w1->_):=λw1 hc=>XE w1 (A.j.A8+1) A.ix.AZ kv sv l (W.ix.an hc (λh=>h)) (B1.ay W.dk W.lt hc) (λk E=>Bi (W.lt k E) hc.Aj) (W.Dl xb (.inr (.inl rfl))) hF hl (hL.aO hc) (E.Al hc (λ_ _ h=>h)) hr aS aT;obtain⟨ka,H,rfl,k1,k2⟩:=E.Cd;have a0:=A1 W;have d:=A1 aM;have a1:=A1 E;have aK:=A1 aY;generalize hR:A.ah P l=R at aL ⊢;generalize hT:P.ah (A.j.A8+1) l=T at aL aQ;generalize hLL:A.j.A8+1=L at aL aW aJ aQ;have HB:=A1 W.Ah;have d1:=W.Ah.ag.c1;have d2:=W.Ah.ag.c2;have aN:=A1 (aW.o w.drew (A3.I _ w).ag);by_cases z:A.ix.AZ=L/\A.ix.sd=l
 case pos=>
  have aA:R=(0,A,P):=by rw[aL.o,Ae z]
  subst aA;rw[CM z]at aJ;have aF:=A1 (aJ.o w.drew (A3.I _ w).ag)
  go_enter func152,ntmps152
  go_wp2;refine Cc (λw'=>A7 w' ab 1 (A5 xb)/\A7 w' ab 2 (A5 jb)) 10
   (BG [0,1,2,3,4,5,6,7,9,8] [8]) ⟨d1,d2⟩ ?_
  iterate 9 refine Bq ?_
  refine Bx λK hK=>?_;go_simp;refine aN.k ?_;rintro w3 rfl;refine hK _ _ ⟨d1,d2⟩ (λhS=>?_);refine C8 ?_;go_wp2_with (go_at_call 198;refine aF.k ?_;rintro w4⟨q,rfl⟩);go_ret;have kq:=(A3.I Ab w).bb (1+q);exact⟨rfl,Co.bK (FT:=λk=>FT k\/(Value.slice ka l.length H).oB k) (a0.o.aJ kq) kq (λ_ _ h=>h.elim) (λk E=>.inl (.inl (d.o k (.inl E)))) λk E=>.inl (.inl (d.o k (.inr E)))⟩
 case neg=>
  rw[De z]at aJ;have aF:=A1 (aJ.o w.drew (A3.I _ w).ag);have aH:Hid (R=if T.1≠0 then (T.1,A,T.2) else (0,{A with ix:=⟨L,l⟩,j:=⟨[],A.j.A8,0,none⟩},T.2)):=by unfold Hid;rw[aL.o,Aa z]
  go_enter func152,ntmps152
  go_wp2;refine Cc (λw'=>A7 w' ab 1 (A5 xb)/\A7 w' ab 2 (A5 jb)) 10
   (BG [0,1,2,3,4,5,6,7,9,8] [8]) ⟨d1,d2⟩ ?_
  iterate 9 refine Bq ?_
  refine Bx λK hK=>?_;go_simp;refine aN.k ?_;rintro w3 rfl;refine hK _ _ ⟨d1,d2⟩ (λhS=>?_);refine C8 ?_;go_wp2_with (fail);refine aF.k ?_;rintro w4⟨q,rfl⟩;have k4:A3 Ab w (w.drewN (1+q)):=(A3.I Ab w).bb (1+q);have a2:=a0.o.aJ k4;have x1:=a2.Ah.ag.c1;have x2:=a2.Ah.ag.c2;have Y:=A1 (a0.o.aJ k4.ag);have aG:=A1 k4.ag;have aB:=A1 (aQ.o _ k4.ag);have aE:=A1 (aW.o _ k4.ag);go_wp2;generalize w.drewN (1+q)=w4 at Y aG aB aE x1 x2 ⊢;obtain⟨aX,a3⟩:=T;dsimp only at aB aH;have aD:Hid (ab≠xb/\¬Ft ab):=⟨Y.o.ne,Y.o.Dl ab (.inl rfl)⟩;by_cases ht:aX=0
  case neg=>
   (have aA:R=(aX,A,a3):=by rw[aH.o,Ae ht]);subst aA;(have htb:(aX !=0)=true:=by simpa using ht);refine Cc (λw'=>A7 w' ab 1 (A5 xb)/\A7 w' ab 2 (A5 jb)) 11
    (BG [0,1,2,3,4,5,6,7,9,8,10] [8,10]) ⟨x1,x2⟩ ?_
   iterate 9 refine Bq ?_
   refine Bx λK hK=>?_;go_simp;refine aE.k ?_;rintro w3 rfl;refine hK _ _ ⟨x1,x2⟩ (λhS=>?_);refine Bx λK hK=>?_;go_simp;refine aB.k ?_;rintro w6⟨hx,hI⟩;have b6:D9 w6 ab b xb jb A.A8 ov:=Y.o.Ah.an hI.1 λh=>h.elim aD.o.2 aD.o.1;refine hK _ _ ⟨b6.c1,b6.c2⟩ (λhS=>?_);rw[Aa ht,Aa ht]at hx;have aO:=A1 (Y.o.ev hx (Y.o.sd.aN λg I=>hI.1.An g (Y.o.sd.lt I) λh=>h.elim (Y.o.Dl g (.inr (.inr (.inl I)))) (Y.o.Fm g I).2.1) hI λg I=>.inl I);refine C8 ?_;go_wp2;go_ret;have⟨Ft',h1,h2,h3⟩:=aO.o;have aV:A3 (λk=>Ft k\/k=xb) w w6:=(aG.o.aY (S:=λk=>Ft k\/k=xb)).tr h2;refine⟨rfl,Co.bK (FT:=λk=>FT k\/(Value.slice ka l.length H).oB k) h1 aV ?_ ?_ ?_⟩
   ·rintro k _ (h|rfl)
    ·exact .inl (d.o k (.inl h))
    ·exact .inl (d.o _ (.inr (.inr (.inl rfl))))
   ·exact λk E=>(h3 k E).imp (λh=>.inl (d.o k (.inl h))) λh=>AJ aG.o.Aj h
   ·exact λk E=>.inl (.inl (d.o k (.inr E)))
  case pos=>
   subst ht;(have aA:R=(0,{A with ix:=⟨L,l⟩,j:=⟨[],A.j.A8,0,none⟩},a3):=by rw[aH.o,Aa (by simp)]);subst aA;have O:Hid (∀g,(Value.slice ka l.length H).oB g->g<w4.drew.heap.size/\¬Ft g/\¬Fk ab xb jb sv ov lv jo g):=λg I=>⟨Bi (a1.o.lt I) aG.o.Aj,λh=>aK.o g I (d.o g (.inl h)),λh=>aK.o g I (d.o g (.inr h))⟩
   refine Cc (λw'=>A7 w' ab 1 (A5 xb)/\A7 w' ab 2 (A5 jb)) 11
    (BG [0,1,2,3,4,5,6,7,9,8,10] [8,10]) ⟨x1,x2⟩ ?_
   iterate 9 refine Bq ?_
   refine Bx λK hK=>?_;go_simp;refine aE.k ?_;rintro w3 rfl;refine hK _ _ ⟨x1,x2⟩ (λhS=>?_);refine Bx λK hK=>?_;go_simp;refine aB.k ?_;rintro w6⟨hx,hI⟩;have b6:D9 w6 ab b xb jb A.A8 ov:=Y.o.Ah.an hI.1 λh=>h.elim aD.o.2 aD.o.1;refine hK _ _ ⟨b6.c1,b6.c2⟩ (λhS=>?_);rw[Ae rfl,Ae rfl]at hx;have aU:Db w6 (.slice ka l.length H) l:=(a1.o.Al aG.o (λ_ _ h=>h)).aN λg I=>hI.1.An g (O.o g I).1 λh=>h.elim (O.o g I).2.1 λe=>(O.o g I).2.2 (.inr (.inl e))
   have aO:=A1 (Y.o.ev hx aU hI λg I=>.inr (O.o g I));have d2:=b6.c2;refine C8 ?_;have⟨Ft',h1,h2,h3⟩:=aO.o;have a7:=A1 (A1m w6 h1.jn);have a6:=A1 h1;have a5:Hid (A3 (λk=>Ft k\/k=xb) w w6):=(aG.o.aY (S:=λk=>Ft k\/k=xb)).tr h2;have a4:Hid (∀k,Ft' k->Ft k\/w.heap.size<=k):=λk E=>(h3 k E).imp id λh=>AJ aG.o.Aj h
   go_wp2_with (go_at_call 201;refine a7.k ?_;rintro w7⟨hj,aP⟩;have a8:=A1 hj;have aI:=A1 aP);go_ret;have aZ:=a6.o.fH a8.o aI.o (by simp[Value.ownBlock]) rfl;refine⟨rfl,Co.bK (FT:=λk=>FT k\/(Value.slice ka l.length H).oB k) (S:=λk=>(Ft k\/k=xb)\/k=jb) aZ ((a5.o.af λ_ _ h=>.inl h).Av aI.o λ_ h _=>.inr h) ?_ ?_ ?_⟩
   ·rintro k _ ((h|rfl)|rfl)
    ·exact .inl (d.o k (.inl h))
    ·exact .inl (d.o _ (.inr (.inr (.inl rfl))))
    ·exact .inl (d.o _ (.inr (.inr (.inr (.inr (.inr (.inl rfl)))))))
   ·exact λk E=>(a4.o k E).imp (λh=>.inl (d.o k (.inl h))) id
   ·rintro k (h|h|h|h|h)
    ·exact .inl (.inl (d.o k (.inr (.inl h))))
    ·exact .inl (.inl (d.o k (.inr (.inr (.inl h)))))
    ·exact .inl (.inr h)
    ·exact .inl (.inl (d.o k (.inr (.inr (.inr (.inr (.inl h)))))))
    ·rcases h with h|h|h
     ·exact .inl (.inl (d.o k (.inr (.inr (.inr (.inr (.inr (.inl h))))))))
     ·simp[Value.ownBlock]at h
     ·cases h
end
def Fit.az{a c m:Nat}:∀(l:gh Bs) (P:PD),Fit P a c m->Fit (PD.az l P).2 a c m
 | [],P,h=>h
 | nm::r,P,h=>by
  rw[RE];split
  ·exact h.ad _
  ·exact Fit.az r _ (h.ad _)
def Fit.C{A:Ar}{P:PD}{a c m:Nat}(h:Fit P a c m):Fit (A.C P).2.2 a c m:=by
 unfold Ar.C;split
 ·exact h.az _ _
 ·exact h.az _ _
def Fit.aK{a m:Nat}:∀(l:gh Bs) (P:PD) (c:Nat),Fit P a c m->Fit (PD.aK l P).2 a (c+l.length) m
 | [],P,c,h=>h
 | nm::r,P,c,h=>by
  rw[removeAll_cons];split
  ·exact(h.aG _).af (Ao _) (by simp) (Ao _)
  ·exact(Fit.aK r _ _ (h.aG _)).af (Ao _) (by simp;omega) (Ao _)
def Fit.au{A:Ar}{P:PD}{a c m:Nat}(h:Fit P a c m):Fit (A.au P).2 a (c+a) m:=by
 have d:=Fit.aK (A.aV P) P c h;have h2:=Tx A P h;exact d.af (Ao _) (by omega) (Ao _)
def OB(A:Ar)(P:PD):(A.C P).2.1.ix=A.ix/\(A.C P).2.1.j=A.j/\(A.C P).2.1.A8=A.A8:=by
 unfold Ar.C;split<;>exact⟨rfl,rfl,rfl⟩
def Ar.aL(A:Ar)(P:PD):Int×Ar×PD:=
 if (A.C P).1≠0 then A.C P else (((A.C P).2.1.au (A.C P).2.2).1,(A.C P).2.1,((A.C P).2.1.au (A.C P).2.2).2)
def A0n(A:Ar)(P:PD):(A.aL P).2.1.ix=A.ix/\(A.aL P).2.1.j=A.j/\(A.aL P).2.1.A8=A.A8:=by
 unfold Ar.aL;split<;>exact OB A P
def Fit.aL{A:Ar}{P:PD}{a c m:Nat}(h:Fit P a c m):Fit (A.aL P).2.2 a (c+a) m:=by
 unfold Ar.aL;split
 ·exact h.C.af (Ao _) (by omega) (Ao _)
 ·exact h.C.au
def Su(A:Ar)(P:PD)(d:gh Int)(h:gh (gh Pu)):A.aF P d h=if (A.aL P).1≠0 then A.aL P else
 if (PD.aj h (A.aL P).2.1.A8 d (A.aL P).2.2).1≠0 then ((PD.aj h (A.aL P).2.1.A8 d (A.aL P).2.2).1,{ (A.aL P).2.1 with A8:=(PD.aj h (A.aL P).2.1.A8 d (A.aL P).2.2).2.1},(PD.aj h (A.aL P).2.1.A8 d (A.aL P).2.2).2.2.2) else
 if (({ (A.aL P).2.1 with A8:=(PD.aj h (A.aL P).2.1.A8 d (A.aL P).2.2).2.1}:Ar).ah (PD.aj h (A.aL P).2.1.A8 d (A.aL P).2.2).2.2.2 (PD.aj h (A.aL P).2.1.A8 d (A.aL P).2.2).2.2.1).1≠0 then
  ({ (A.aL P).2.1 with A8:=(PD.aj h (A.aL P).2.1.A8 d (A.aL P).2.2).2.1}:Ar).ah (PD.aj h (A.aL P).2.1.A8 d (A.aL P).2.2).2.2.2 (PD.aj h (A.aL P).2.1.A8 d (A.aL P).2.2).2.2.1
 else (({ (A.aL P).2.1 with A8:=(PD.aj h (A.aL P).2.1.A8 d (A.aL P).2.2).2.1}:Ar).ah (PD.aj h (A.aL P).2.1.A8 d (A.aL P).2.2).2.2.2 (PD.aj h (A.aL P).2.1.A8 d (A.aL P).2.2).2.2.1).2.1.a6
  (({ (A.aL P).2.1 with A8:=(PD.aj h (A.aL P).2.1.A8 d (A.aL P).2.2).2.1}:Ar).ah (PD.aj h (A.aL P).2.1.A8 d (A.aL P).2.2).2.2.2 (PD.aj h (A.aL P).2.1.A8 d (A.aL P).2.2).2.2.1).2.2:=by
 unfold Ar.aF Ar.aL;dsimp only
 by_cases z:(A.C P).1=0
 ·by_cases E:((A.C P).2.1.au (A.C P).2.2).1=0
  ·simp only[z,E,Kd,not_true,C9]
  ·simp only[z,E,Kd,not_true,Pm,C9,Cp]
 ·simp only[z,Kd,Pm,Cp]
section
variable{w w':ga}{ab b xb jb B:Nat}{sv ov lv jo:gd}{A:Ar}{P:PD}{Ft FT:Nat->Prop}{a c m:Nat}
def AD.bx(h:AD w ab b A P FT):A7 w ab 0 (A5 b)/\A7 w ab 3 (A0 A.A8)/\w.frozen? (Ac ab 3)=false/\ab<w.heap.size/\FT ab:=by
 obtain⟨xb,jb,sv,ov,lv,jo,Ft,d,z⟩:=h;exact⟨d.Ah.c0,d.Ah.c3,d.Ah.fz 3,d.Ah.lt,z ab (.inr (.inl rfl))⟩
def AD.fX(h:AD w ab b A P FT)(x:Int):AD (w.setCell ⟨ab,3,none⟩ (.int .i64 x)) ab b {A with A8:=x} P FT:=by
 obtain⟨xb,jb,sv,ov,lv,jo,Ft,d,L⟩:=h;have I:A3 (One ab) w (w.setCell ⟨ab,3,none⟩ (.int .i64 x)):=(A3.I (One ab) w).aq (b:=ab) rfl 3 _;have H:∀k,k≠ab->k<w.heap.size->(w.setCell ⟨ab,3,none⟩ (.int .i64 x)).heap[k]?=w.heap[k]?:=λk z O=>I.An k O z
 exact⟨xb,jb,sv,ov,lv,jo,Ft,⟨d.Ah.s3 x,(H xb d.ne.symm d.ix.lt).trans d.ix,d.sd.aN λg E=>H g (d.Fm g E).1 (d.sd.lt E),d.AN.aN λg E=>H g (d.Gh g E).1 (d.AN.lt E),d.jn.aN λk z=>H k (d.FI k z).1 (d.jn.lt z),
  B1.aN d.dk λk z=>H k (λe=>by subst e;exact d.Dl _ (.inl rfl) z) (d.lt k z),λk z=>Bi (d.lt k z) I.Aj,d.Dl,d.Fm,d.Gh,d.FI⟩,L⟩
def A2J(h:Bf w b P Ft):
 Ag 86 #[A5 b] w (Am (A0 P.av.1) λw'=>Aq w Ft w' (λw' d=>Bf w' b P.av.2 d)):=RA h
def Wq(h:AD w ab b A P FT):
 Ag 86 #[A5 b] w (Am (A0 P.av.1) λw'=>Aq w FT w' (λw' z=>AD w' ab b A P.av.2 z)):=by
 obtain⟨xb,jb,sv,ov,lv,jo,Ft,d,E⟩:=h;refine(A2J d.dk).mono ?_;rintro e w'⟨I,H⟩;exact⟨I,d.cy E (d.cb H)⟩
def A0o(w:ga)(g:Nat)(h:AD w ab b A P FT)(_hlt:∀k,FT k->k<w.heap.size)(hg:¬FT g)(Y:g<w.heap.size)(hb:w.heap[g]?=some (.cells #[.func (Fn.func 118) #[.pointer (some ⟨ab,0,none⟩)] #[],.func (Fn.func 150) #[.pointer (some ⟨ab,0,none⟩)] #[]] 50 (0,0)))(hF:Fit P a c m)(hl:CP a (c+a) m)(hn:∀n∈A.ix.sd,CH n)(O:∀n∈A.j.Ak,CH n)(L:A.ix.sd.length<=1073741824)(I:A.j.Ak.length<=1073741824)(hL:Lets B w)(W:∀k,FT k->B<=k):
 Calls Tryz.prog 117 #[.slice (some ⟨g,0,none⟩) 2 2] w λe w'=>e=.returned (.int .i64 (A.aL P).1)/\Aq w FT w' (λw' d=>AD w' ab b (A.aL P).2.1 (A.aL P).2.2 d):=by
 have⟨s1,s2,s3⟩:=OB A P;refine(A2i w g ab ab (λn w'=>n=(A.C P).1/\Aq w FT w' (λw' d=>AD w' ab b (A.C P).2.1 (A.C P).2.2 d)) (λn w'=>(A.C P).1=0/\n=((A.C P).2.1.au (A.C P).2.2).1/\Aq w FT w' (λw' d=>AD w' ab b (A.C P).2.1 ((A.C P).2.1.au (A.C P).2.2).2 d)) hb ?_ ?_).mono ?_
 ·refine(S3 w h).mono ?_;rintro e w'⟨E,z⟩;exact⟨_,E,⟨rfl,z⟩,z.1.An g Y hg⟩
 ·rintro w1⟨h0,c1,F1,z,H,h4⟩ -;refine(RI w1 z hF.C hl (by rw[s1];exact hn) (by rw[s2];exact O) (by rw[s1];exact L) (by rw[s2];exact I) (hL.an c1 W)).mono ?_;rintro e w'⟨h5,h6⟩;exact⟨_,h5,h0.symm,rfl,Aq.a7 c1 h4 h6⟩
 ·rintro e w'⟨n,rfl,⟨E,z,H⟩|⟨E,z,H⟩⟩
  ·subst z;unfold Ar.aL;rw[Ae E];exact⟨rfl,H⟩
  ·subst z;unfold Ar.aL;rw[Aa (by simp[E])];exact⟨rfl,H⟩
def A3L(w:ga)(g:Nat)(h:AD w ab b A P FT)(_hlt:∀k,FT k->k<w.heap.size)(hg:¬FT g)(W:g<w.heap.size)(hb:w.heap[g]?=some (.cells #[.func (Fn.func 150) #[.pointer (some ⟨ab,0,none⟩)] #[],.func (Fn.func 86) #[.pointer (some ⟨b,0,none⟩)] #[]] 50 (0,0)))(hF:Fit P a c m)(hl:CP a (c+a) m)(hn:∀n∈A.ix.sd,CH n)(O:∀n∈A.j.Ak,CH n)(L:A.ix.sd.length<=1073741824)(I:A.j.Ak.length<=1073741824)(hL:Lets B w):
 Calls Tryz.prog 117 #[.slice (some ⟨g,0,none⟩) 2 2] w λe w'=>e=.returned (.int .i64 (A.a6 P).1)/\Aq w FT w' (λw' d=>AD w' ab b (A.a6 P).2.1 (A.a6 P).2.2 d):=by
 refine(A2h w g ab b (λn w'=>n=(A.au P).1/\Aq w FT w' (λw' d=>AD w' ab b A (A.au P).2 d)) (λn w'=>(A.au P).1=0/\n=(A.au P).2.av.1/\Aq w FT w' (λw' d=>AD w' ab b A (A.au P).2.av.2 d)) hb ?_ ?_).mono ?_
 ·refine(RI w h hF hl hn O L I hL).mono ?_;rintro e w'⟨E,z⟩;exact⟨_,E,⟨rfl,z⟩,z.1.An g W hg⟩
 ·rintro w1⟨Y,c1,F1,z,H,h4⟩ -;refine(Wq z).mono ?_;rintro e w'⟨h5,h6⟩;exact⟨_,h5,Y.symm,rfl,Aq.a7 c1 h4 h6⟩
 ·rintro e w'⟨n,rfl,⟨E,z,H⟩|⟨E,z,H⟩⟩
  ·subst z;unfold Ar.a6;rw[Ae E];exact⟨rfl,H⟩
  ·subst z;unfold Ar.a6;rw[Aa (by simp[E])];exact⟨rfl,H⟩
end
end
end Go.Proofs.YtodcnkbblippnaaGreatDoor
