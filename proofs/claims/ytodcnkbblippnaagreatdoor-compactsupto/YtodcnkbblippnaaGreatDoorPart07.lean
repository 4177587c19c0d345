/- Part 7 of a proof: walks of the program. -/
import Derived.Sort.OwnSorted
import Derived.Sort.OwnSortedInts
import Derived.Test.YtodcnkbblippnaaGreatDoorPart06
namespace Go.Proofs.YtodcnkbblippnaaGreatDoor
set_option maxRecDepth 100000
set_option maxHeartbeats 32000000
set_option linter.defProp false
open Go.Proofs.Tryz
section
open Go.RowKit
attribute [local go_sem ↓] CL
def Ap.ba{w W Y:gx}{Ft d:Nat->Prop}{R:gx->(Nat->Prop)->Prop}(hc:A4 Ft w W)(X:∀k,d k->Ft k\/w.heap.size<=k)(h2:Ap W d Y R):Ap w Ft Y R:=by
 obtain⟨L,I,E,z,O⟩:=h2;refine⟨hc.AH L λx hx hlt=>(X x hx).resolve_right (by omega),I,E,z,λk hk=>?_⟩;rcases O k hk with h|h
 ·exact X k h
 ·exact .inr (AP hc.Ak h)
section
variable{w:gx}{ab b xb jb B:Nat}{sv ov lv jo:gy}{A:Ar}{P:PD}{Ft FT:Nat->Prop}{a c m:Nat}
def A2b(h:Bu w b P Ft)(nm:Bs):
 Ag 85 #[A5 b,.string ⟨nm.toArray⟩] w (Aj (A0 (P.ad (Ab nm)).1) λw'=>Ap w Ft w' (λw' d=>Bu w' b (P.ad (Ab nm)).2 d)):=Rh h (Ab nm)
def Rm(nm:Bs)(r:gD Bs)(P:PD):PD.ay (nm::r) P=if (P.ad (Ab nm)).1≠0 then P.ad (Ab nm) else PD.ay r (P.ad (Ab nm)).2:=rfl
def RC(w:gx)(h:AD w ab b A P FT):
 Ag 118 #[A5 ab] w (Aj (A0 (A.I P).1) λw'=>Ap w FT w' (λw' aR=>AD w' ab b (A.I P).2.1 (A.I P).2.2 aR)/\w'.cell? (A9 ab 2)=w.cell? (A9 ab 2)):=by
 obtain⟨xb,jb,sv,ov,lv,jo,Ft,hV,aK⟩:=h;have a4:=hV.Ae.c4;obtain⟨oa,W,rfl,oc1,aX⟩:=hV.AR.BW;unfold maxLen at aX;have aL:=A1 hV;have E:=A1 aK;have aP:Hid (A.I P=if (PD.ay A.AR P).1≠0 then ((PD.ay A.AR P).1,A,(PD.ay A.AR P).2) else (0,{A with AR:=[]},(PD.ay A.AR P).2)):=rfl;have aY:=A1 Rm;generalize hR:A.I P=R at aP ⊢;obtain⟨X,hX⟩:∃X,PD.ay A.AR P=X:=⟨_,rfl⟩;have aZ:=A1 hX;rw[hX]at aP
 go_enter func118,ntmps118
 go_wp2;go_loopw [11] (λiv wr=>∃(k:Nat),iv=A0 k/\k<=A.AR.length/\Hid (∃aF,Ap w Ft wr (λw' I=>Ct w' ab b xb jb sv (.slice oa A.AR.length W) lv jo A aF I)/\X=PD.ay (A.AR.drop k) aF)) (λiv _=>A.AR.length-(intOf iv).toNat)
 ·exact⟨0,rfl,by omega,P,⟨A4.C _ _,Ft,aL.o,aL.o.lt,λk z=>.inl z⟩,aZ.o.symm⟩
 ·obtain⟨k,rfl,z,hI⟩:=hrel;have⟨aF,hi,hx⟩:=hI.o;obtain⟨c1,aI,d,lt1,s1⟩:=hi;by_cases aB:k<A.AR.length
  ·obtain⟨g,o,rfl,d1⟩:=H9.at d.AR k aB;have aJ:=FK aB;generalize hne:(A.AR[k]'aB)=nm at d1 aJ;rw[aJ,aY.o]at hx;have e0:=d.Ae.c0;have aO:=A1 (A2b d.dk nm);generalize hY:aF.ad (Ab nm)=Y at aO hx;have aE:Hid (∀w6,Ap wr aI w6 (λw' I=>Bu w' b Y.2 I)->Ap w Ft w6 (λw' I=>Ct w' ab b xb jb sv (.slice (some (A9 g o)) A.AR.length W) lv jo A Y.2 I)):=λw6 h6=>Ap.ba c1 s1 (d.bQ h6);have aD:=A1 hx;(have aQ:(k:Int)<(A.AR.length:Int):=by omega);have hk0:=BJ k;obtain⟨aN,aM⟩:=Y;dsimp only at aO aE aD;by_cases hy:aN=0
   case neg=>
    (have aA:X=(aN,aM):=by rw[aD.o,Ai hy]);subst aA;(have aH:R=(aN,A,aM):=by rw[aP.o,Ai hy]);subst aH;(have hyb:(aN !=0)=true:=by simpa using hy);go_wp2_with (go_at_call 85;refine aO.k ?_;rintro w6 aG;have L:=A1 (aE.o w6 aG));go_ret;have⟨_,_,hv6,_⟩:=L.o;exact⟨rfl,aL.o.cF E.o L.o,hv6.Ae.c2.trans aL.o.Ae.c2.symm⟩
   case pos=>
    subst hy;(have aT:Hid (X=PD.ay (A.AR.drop (k+1)) aM):=by unfold Hid;rw[aD.o,Af (by simp)]);go_wp2_with (go_at_call 85;refine aO.k ?_;rintro w6 aG;have L:=A1 (aE.o w6 aG));go_roundw
    ·exact⟨k+1,by go_num,by omega,aM,L.o,aT.o⟩
    ·simp[intOf];omega
  ·(obtain rfl:k=A.AR.length:=by omega);rw[GX]at hx;have aA:X=(0,aF):=hx;subst aA;(have aH:R=(0,{A with AR:=[]},aF):=by rw[aP.o,Af (by simp)]);subst aH;(have aQ:¬((A.AR.length:Int)<(A.AR.length:Int)):=by omega);have g4:=d.Ae.c4;have f4:=d.Ae.fz 4;have aV:=A1 d;have aS:=A1 c1;have aU:=A1 s1;go_wp2;go_ret;have d:=aV.o;have kz:A4 (One ab) wr (wr.sC ab 4 (.slice none 0 0)):=(A4.C (One ab) wr).ao (b:=ab) rfl 4 _;have hs:∀k,k≠ab->k<wr.heap.size->(wr.sC ab 4 (.slice none 0 0)).heap[k]?=wr.heap[k]?:=λk z hl=>kz.Al k hl z;have aW:∀k,Dr jb lv jo k->k≠ab:=λk z=>(d.G8 k z).1
   have O:Ct (wr.sC ab 4 (.slice none 0 0)) ab b xb jb sv (.slice none 0 0) lv jo {A with AR:=[]} aF aI:=
    ⟨d.Ae.s4 _,(hs xb d.ne.symm d.ix.lt).trans d.ix,d.sd.aM λg hg=>hs g (d.FP g hg).1 (d.sd.lt hg),DF.bU,d.jn.aM λk z=>hs k (aW k z) (d.jn.lt z),
     AW.aM d.dk λk z=>hs k (λe=>by subst e;exact d.Dn _ (.inl rfl) z) (d.lt k z),λk z=>Bn (d.lt k z) kz.Ak,
     λk z=>d.Dn k (by
      rcases z with h|h|h|h|h
      ·exact .inl h
      ·exact .inr (.inl h)
      ·exact .inr (.inr (.inl h))
      ·simp[Value.ownBlock]at h
      ·exact .inr (.inr (.inr (.inr h)))),d.FP,λg hg=>by simp[Value.ownBlock]at hg,d.G8⟩
   refine⟨rfl,?_,O.Ae.c2.trans aL.o.Ae.c2.symm⟩;refine(O.bR ((aS.o.ai (S':=λk=>Ft k\/k=ab) λ_ _ h=>.inl h).AH kz λ_ h _=>.inr h) ?_ (λk z=>(aU.o k z).imp (λh=>E.o k (.inl h)) id) ?_)
   ·rintro k _ (h|rfl)
    ·exact E.o k (.inl h)
    ·exact E.o _ (.inr (.inl rfl))
   ·intro k z;refine .inl (E.o k (.inr ?_));rcases z with h|h|h|h|h
    ·exact .inl h
    ·exact .inr (.inl h)
    ·exact .inr (.inr (.inl h))
    ·simp[Value.ownBlock]at h
    ·exact .inr (.inr (.inr (.inr h)))
def RD(w:gx)(h:AD w ab b A P FT):
 Ag 118 #[A5 ab] w (Aj (A0 (A.I P).1) λw'=>Ap w FT w' (λw' d=>AD w' ab b (A.I P).2.1 (A.I P).2.2 d)):=
 (RC w h).mono λ_ _ ⟨E,z,_⟩=>⟨E,z⟩
end
end
section
open Go.RowKit
def A4.dw{w w':gx}(h:Below w.heap.size w w'):A4 Aa w w':=⟨h.os,h.tape,h.output,h.size,λk d _=>h.block k d⟩
def OG{w:gx}{d e size n:Nat}{v:gy}{xs:gD gy}(h:w.ownsRow d e size v n xs):w.ownsRow 0 e size v n xs/\∀g,v.ownBlock=some g->d<=g:=by
 refine⟨⟨h.1,?_⟩,λg I=>(h.lt g I).1⟩;rcases h.2 with E|⟨g,cap,z,E,_,L⟩
 ·exact .inl E
 ·exact .inr ⟨g,cap,z,E,Ch _,L⟩
def A3t(l:gD Bs):Du l=l.map encStr:=rfl
def XV(w:gx)(v:gy)(l:gD Bs)(h:Dy w v l)(hl:l.length<4611686018427387904):
 Calls Tryz.prog 137 #[v] w λe w'=>e=.returned (.tuple #[])/\Dy w' v (l.mergeSort λx y=>decide (x<=y))/\A4 (λk=>v.ownBlock=some k) w w':=by
 obtain⟨h1,W⟩:=h;rcases W with⟨rfl,X⟩|⟨g,cap,I,rfl,_,E,z,hm,hs,O⟩
 ·have e:=Hp.1 X;subst e;refine(Tryz.slices_Sort_string_none none 0 w).k ?_;rintro w' rfl;exact⟨rfl,by rw[A4v];exact Co _ _ _ _,A4.C _ _⟩
 ·have L:I.toList.take l.length=l.map encStr:=by rw[Qf]at O;rw[O];rfl
  refine(Tryz.slices_Sort_string g 0 cap l w (holds_of_block E L) (By E) hl).k ?_;rintro w'⟨n,os,rfl⟩;have d:(l.mergeSort λx y=>decide (x<=y)).length=l.length:=by simp
  refine⟨rfl,?_,(A4.C _ w).C7 (grownBy_sorted _) λk Y _=>by cases Y;rfl⟩;unfold Dy;rw[A3t,d];exact ownsRow_sorted d (Ch _) E z hm hs
def XY(w:gx)(v:gy)(l:gD Int)(h:DT w v l)(hl:l.length<4611686018427387904):
 Calls Tryz.prog 115 #[v] w λe w'=>e=.returned (.tuple #[])/\DT w' v (l.mergeSort λx y=>decide (x<=y))/\A4 (λk=>v.ownBlock=some k) w w':=by
 obtain⟨h1,W⟩:=h;rcases W with⟨rfl,X⟩|⟨g,cap,I,rfl,_,E,z,hm,hs,O⟩
 ·have e:=Hp.1 X;subst e;refine(Tryz.slices_Sort_int_none none 0 w).k ?_;rintro w' rfl;exact⟨rfl,by rw[A4v];exact Co _ _ _ _,A4.C _ _⟩
 ·have L:I.toList.take l.length=l.map (Value.int .i64):=by rw[Qf]at O;rw[O];rfl
  refine(Tryz.slices_Sort_int g 0 cap l w (holds_of_blockI E L) (By E) hl).k ?_;rintro w'⟨n,os,rfl⟩;have d:(l.mergeSort λx y=>decide (x<=y)).length=l.length:=by simp
  refine⟨rfl,?_,(A4.C _ w).C7 (grownBy_sortedI _) λk Y _=>by cases Y;rfl⟩;unfold DT;rw[d];exact ownsRow_sortedI d (Ch _) E z hm hs
def Rx(x:Bs):∀(l:gD Bs),(l.Pairwise λa b=>¬b<a)->∃k,k<=l.length/\(∀t (d:t<l.length),t<k->(l[t]'d)<x)/\∀t (d:t<l.length),k<=t->¬(l[t]'d)<x
 | [],_=>⟨0,Ao _,λt d=>by simp at d,λt d=>by simp at d⟩
 | y::r,hs=>by
  have⟨h1,h2⟩:=Dk.1 hs;by_cases E:y<x
  ·have⟨k,k0,k1,k2⟩:=Rx x r h2;refine⟨k+1,by simp;omega,λt d z=>?_,λt d z=>?_⟩
   ·cases t with
    | zero=>exact E
    | succ t=>exact k1 t (by simp at d;omega) (by omega)
   ·cases t with
    | zero=>omega
    | succ t=>exact k2 t (by simp at d;omega) (by omega)
  ·refine⟨0,Ch _,λt _ z=>by omega,λt d _ h=>?_⟩;cases t with
   | zero=>exact E h
   | succ t=>
    have I:=h1 _ (BV (show t<r.length by simp at d;omega));exact E (List.lt_of_le_of_lt (show y<=_ from I) h)
def A3s(w:gx)(v:gy)(l:gD Bs)(x:Bs)(h:H9 w v l)(hl:l.length<4611686018427387904)(hs:l.Pairwise λa b=>¬b<a):
 Calls Tryz.prog 138 #[v,.string ⟨x.toArray⟩] w λe w'=>∃i,e=.returned (.tuple #[.int .i64 i,.bool (decide (x∈l))])/\∃q,w'=w.drewN q:=by
 obtain⟨a,cap,rfl,hcap,hm⟩:=h.BW;by_cases h0:l.length=0
 ·have e:l=[]:=Hp.1 h0;subst e;refine(Any2.slices_BinarySearch_string_empty Tryz.eW a cap ⟨x.toArray⟩ w).k ?_;rintro w' rfl;exact⟨0,by simp,0,rfl⟩
 ·obtain⟨g,o,rfl,-⟩:=H9.at h 0 (by omega)
  let Sx:Nat->ByteArray:=λt=>if d:t<l.length then ⟨(l[t]'d).toArray⟩ else ⟨x.toArray⟩
  have I:∀t (d:t<l.length),Sx t=⟨(l[t]'d).toArray⟩:=λt d=>by simp only[Sx,PM d]
  refine(Any2.slices_BinarySearch_string Tryz.eW g o l.length cap Sx ⟨x.toArray⟩ w hl (λj Y=>?_)).mono ?_
  ·have⟨g',o',e,hc⟩:=H9.at h j Y;cases e;rw[I j Y];exact hc
  rintro e w'⟨W,q,rfl⟩;have E:∀t,Op.bytesLess (Sx t).toList (⟨x.toArray⟩:gC).toList=decide (∃d:t<l.length,(l[t]'d)<x):=λt=>by
   rw[V9,KP,KP];by_cases d:t<l.length
   ·rw[I t d];by_cases L:(l[t]'d)<x
    ·have O:decide (∃d:t<l.length,(l[t]'d)<x)=true:=Cu ⟨d,L⟩;rw[O];exact Cu L
    ·have O:decide (∃d:t<l.length,(l[t]'d)<x)=false:=Cv λ⟨_,h⟩=>L h
     rw[O];exact Cv L
   ·(have e:Sx t=⟨x.toArray⟩:=by simp only[Sx,PN d]);have O:decide (∃d:t<l.length,(l[t]'d)<x)=false:=Cv λ⟨h,_⟩=>d h
    rw[e,O];exact Cv (M1 _)
  have aG:∀(i j:Nat) (hi:i<l.length) (Y:j<l.length),i<j->¬(l[j]'Y)<(l[i]'hi):=λi j hi Y aE=>JQ.1 hs i j hi Y aE;have⟨k,hk,k1,k2⟩:=Rx x l hs;have aD:Lib.bsGo (λt=>Op.bytesLess (Sx t).toList (⟨x.toArray⟩:gC).toList) l.length 0 l.length=k:=by
   refine Lib.bsGo_spec _ k (λt d=>?_) (λt d=>?_) _ 0 l.length (by omega) (by omega) hk
   ·rw[E t];exact Cu ⟨by omega,k1 t (by omega) d⟩
   ·rw[E t];exact Cv λ⟨O,h2⟩=>k2 t O d h2
  rw[aD]at W;have:(k<l.length/\Sx k=⟨x.toArray⟩)↔x∈l:=by
   constructor
   ·rintro⟨z,aA⟩;rw[I k z]at aA;have:(l[k]'z)=x:=by
     have:=Ep (λ(b:gC)=>b.data.toList) aA;simpa using this
    rw[<-this];exact BV z
   ·intro hm;have⟨t,d,W⟩:=DG hm;have htk:k<=t:=by
     rcases F9 t k with X | X
     ·have:=k1 t d X;rw[W]at this;exact absurd this (M1 _)
     ·exact X
    (have z:k<l.length:=by omega);refine⟨z,?_⟩;have aF:¬x<(l[k]'z):=by
     rcases F9 k t with X | X
     ·have:=aG k t z d X;rwa [W]at this
     ·(have e:k=t:=by omega);subst e;rw[W];exact M1 _
    have aB:=k2 k z (Ao _);have:(l[k]'z)=x:=List.le_antisymm (show (l[k]'z)<=x from aF) (show x<=(l[k]'z) from aB);rw[I k z,this]
  have hd:decide (k<l.length/\Sx k=⟨x.toArray⟩)=decide (x∈l):=by
   by_cases L:x∈l
   ·rw[Cu L];exact Cu (this.2 L)
   ·rw[Cv L];exact Cv λh=>L (this.1 h)
  rw[hd]at W;exact⟨_,W,q,rfl⟩
def A3d(w:gx)(v:gy)(l:gD Pu)(h:B1 w v l)(W:l.length*24<=140737488355328):
 Calls Tryz.prog 153 #[v] w λe w'=>∃d,e=.returned d/\B1 w' d l/\(∀g,d.ownBlock=some g->w.heap.size<=g)/\A4 (λ_=>False) w w':=by
 have⟨i0,hi,hz0,hz1,hz2⟩:=DL IT;obtain⟨a,cap,rfl,h1,z,h3,I,L⟩:=B8 h;cases a with
 | none=>
  have e:=Hp.1 (I rfl).1;subst e;refine(AnyE.slices_Clone_nil Tryz.eU _ cap w).k ?_;rintro w' rfl;exact⟨_,rfl,Co _ _ _ _,λg E=>by simp[Value.ownBlock]at E,A4.C _ _⟩
 | some x=>
  obtain⟨g,rfl⟩:=L x rfl;unfold maxLen at z;refine(AnyE.slices_Clone Tryz.eU i0 _ 3 24 hi hz0 hz1 hz2 rfl (by decide) (λw=>sizeOf113 w) g 0 l.length cap (B5 l) w h.1 (by unfold maxLen;omega) W (λj u Y=>?_) (Hu l)).mono ?_
  ·have:=Bv h rfl Y;simpa using this
  rintro e w'⟨d,rfl,X,h7,O⟩;have⟨q1,q2⟩:=OG X;exact⟨d,rfl,q1,q2,A4.dw O⟩
def A3e(w:gx)(v:gy)(l:gD Int)(h:Dg w v l)(X:l.length*8<=140737488355328):
 Calls Tryz.prog 108 #[v] w λe w'=>∃d,e=.returned d/\DT w' d l/\(∀g,d.ownBlock=some g->w.heap.size<=g)/\A4 (λ_=>False) w w':=by
 obtain⟨a,cap,rfl,h1,h2⟩:=h.BW;by_cases L:l.length=0
 ·have e:=Hp.1 L;subst e;cases a with
  | none=>
   refine(Tryz.slices_Clone_int_nil 0 cap w).k ?_;rintro w' rfl;exact⟨_,rfl,Co _ _ _ _,λg O=>by simp[Value.ownBlock]at O,A4.C _ _⟩
  | some x=>
   refine(Tryz.slices_Clone_int_zero x cap w).mono ?_;rintro e w'⟨d,rfl,z,W,E⟩;have⟨q1,q2⟩:=OG z;exact⟨d,rfl,q1,q2,A4.dw E⟩
 ·obtain⟨g,o,rfl,-⟩:=Dg.at h 0 (by omega);refine(Tryz.slices_Clone_int g o l.length cap l w (Ao _) X (λj I=>?_)).mono ?_
  ·have⟨g',o',e,hc⟩:=Dg.at h j I;cases e;rw[Pv l j I];exact hc
  rintro e w'⟨d,rfl,z,W,E⟩;rw[C5]at z;have⟨q1,q2⟩:=OG z;exact⟨d,rfl,q1,q2,A4.dw E⟩
end
section
open Go.RowKit
attribute [local go_sem ↓] CL
def Tryz.fU:(Tryz.prog.info? 9).map (λi=>(i.zero,i.size,i.bytes))=some (some (.string ⟨#[]⟩),1,16):=by kernel_rfl
def XI:∃d,Tryz.prog.info? 9=some d/\d.zero=some (.string ⟨#[]⟩)/\d.size=1/\d.bytes=16:=by
 have h:=Tryz.fU;cases hx:Tryz.prog.info? 9 with
 | none=>rw[hx]at h;cases h
 | some i=>rw[hx]at h;simp at h;exact⟨i,rfl,h.1,h.2.1,h.2.2⟩
def Kp(l:gD Bs):gD Bs:=l.mergeSort λx y=>decide (x<=y)
def A1I(l:gD Bs):(Kp l).Pairwise λa b=>¬b<a:=by
 have h:=VU (le:=λx y:Bs=>decide (x<=y)) (λa b c E z=>by simp at E z ⊢;exact List.le_trans E z) (λa b=>by simp;exact List.le_total a b) l;exact h.imp λd=>by simpa using d
def Ul(l:gD Bs)(x:Bs):x∈Kp l↔x∈l:=A4x
def A1H(l:gD Bs):(Kp l).length=l.length:=Qo _
section
variable{w:gx}{ab b xb jb B:Nat}{sv ov lv jo:gy}{A:Ar}{P:PD}{Ft FT:Nat->Prop}{a c m:Nat}
def IY{w:gx}{e W size z n n2 E d:Nat}{v X:gy}{xs O:gD gy}(h:w.ownsRow E e size v n xs)(Y:w.ownsRow d W z X n2 O)(I:e≠W){g:Nat}(hg:v.ownBlock=some g):¬X.ownBlock=some g:=λL=>by
 have⟨c,hc⟩:=Bb h hg;have⟨c2,hc2⟩:=Bb Y L;exact BR hc hc2 I rfl
def SQ(w:gx)(h:Ct w ab b xb jb sv ov lv jo A P Ft)(hF:Fit P a c m)(hl:CT a c m)(hn:∀n∈A.ix.sd,CK n)(dG:∀n∈A.j.An,CK n)(hsl:A.ix.sd.length<=1073741824)(dF:A.j.An.length<=1073741824)(hL:Lets B w):
 Ag 100 #[A5 ab] w λe w'=>∃v1 v2,e=.returned (.tuple #[v1,v2])/\Dy w' v1 (A.aY P)/\Dy w' v2 (A.aV P)/\(∀g,v1.ownBlock=some g->w.heap.size<=g)/\(∀g,v2.ownBlock=some g->w.heap.size<=g)/\A4 Aa w w':=by
 obtain⟨i0,hi,aV,aZ,aX⟩:=XI;have cF:=A1 h;have cL:Hid (∀L k n,A4 Aa w L->1<=k/\k<=4->CK n->Ag 134 #[A0 (k:Nat),A0 n] L λe w'=>e=.returned (.string ⟨(BT k n).toArray⟩)/\A4 Aa L w'):=λL k n hc hk hn=>MO (n:=n) L k hk ⟨by have:=hn.1;omega,hn.2.1⟩ hn.2.2 (hL.aL hc);have dJ:=A1 (cL.o w 3 0 (A4.C _ w) (by omega) (HR (by omega) (by omega)));have dK:Hid (∀L,A4 Aa w L->Ag 136 #[A5 jb] L λe w'=>∃v,e=.returned v/\DT w' v A.j.An/\(∀g,v.ownBlock=some g->L.heap.size<=g)/\A4 Aa L w'):=λL hc=>A0x L (h.jn.ak hc) dF;have LI:Hid (∀L,A4 Aa w L->Ag 76 #[A5 b] L λe w'=>∃v,e=.returned v/\Dy w' v P.Az/\A4 Aa L w'/\(∀g,v.ownBlock=some g->L.heap.size<=g)):=λL hc=>P6 (AW.aw h.dk h.lt hc) hF hl;have dC:P.Az.length<=1073741824:=by rw[Lj];exact AP hF.A6 hl.a
 have aL:Hid (A.Az=[AJ]++A.j.An.map Ah++A.ix.sd.map AG):=rfl;have bL:Hid (A.aY P=P.Az.filter λnm=>decide (nm∈A.Az)):=rfl;have bF:Hid (A.aV P=P.Az.filter λnm=>!decide (nm∈A.Az)):=rfl;have cX:=A1 hn;have cQ:=A1 dG;obtain⟨dM,cA⟩:∃x,A.aY P=x:=⟨_,rfl⟩;obtain⟨dL,bV⟩:∃x,A.aV P=x:=⟨_,rfl⟩;obtain⟨E,bG⟩:∃x,A.Az=x:=⟨_,rfl⟩;rw[cA,bG]at bL;rw[bV,bG]at bF;rw[bG]at aL;rw[cA,bV];have b2:E.length<=4294967296:=by rw[aL.o];simp;omega
 have b4:=h.sd;generalize hns:P.Az=ns at *;generalize hlgs:A.j.An=lgs at *;generalize hss:A.ix.sd=ss at *;obtain⟨sa,scap,rfl,sc1,cT⟩:=b4.BW;unfold maxLen at cT;have cS:=A1 b4
 go_enter func100,ntmps100
 go_wp2_with (fail);refine dJ.k ?_;rintro L b1;have e3:BT ((3:Nat):Int) 0=AJ:=rfl;rw[e3];have bH:A4 Aa w (L.alloc (.cells #[.string ⟨AJ.toArray⟩] 9)):=b1.aj _;have a2:=((cF.o.ak bH).Ae).c2;have a6:Hid (Dy (L.alloc (.cells #[.string ⟨AJ.toArray⟩] 9)) (.slice (some (A9 L.heap.size 0)) 1 1) [AJ]):=
  ⟨rfl,.inr ⟨L.heap.size,1,_,rfl,Ch _,Bl L _,Ao _,by decide,rfl,rfl⟩⟩
 have cN:=A1 (dK.o _ bH);have cZ:=A1 bH;have cI:=A1 <| b1.Ak;go_wp2_with (fail);refine cN.o.mono ?_;rintro e w2⟨v,rfl,hv,dD,aW⟩;obtain⟨la,bQ,rfl,lc1,cM⟩:=(DT.rd hv).BW;unfold maxLen at cM;have dH:=A1 hv;have HLO:=A1 dD;have cV:=A1 <| cZ.o.tr aW;have bA:Hid (Dy w2 (.slice (some (A9 L.heap.size 0)) 1 1) [AJ]):=Au a6.o λg d=>aW.Al g (Aw a6.o d) (λh=>h);go_wp2;go_loopw [4,23] (λv iv wr=>∃k:Nat,iv=A0 k/\k<=lgs.length/\Hid (Dy wr v ([AJ]++(lgs.take k).map Ah)/\(∀g,v.ownBlock=some g->w.heap.size<=g)/\A4 Aa w wr/\DT wr (.slice la lgs.length bQ) lgs)) (λ_ iv _=>lgs.length-(intOf iv).toNat)
 ·exact⟨0,rfl,by omega,by simpa using bA.o,λg d=>by simp[Value.ownBlock]at d;have:=cI.o;omega,cV.o,dH.o⟩
 ·obtain⟨k,rfl,hk,hI⟩:=hrel;have⟨i1,i2,i3,i4⟩:=hI.o;obtain⟨ap,cp,rfl,aP,aI,-⟩:=B8 i1;unfold maxLen at aI;by_cases I:k<lgs.length
  ·obtain⟨g,o,rfl,d1⟩:=Dg.at (DT.rd i4) k I;have aB:=cQ.o _ (BV I);have Y:=Dq I;generalize bR:(lgs[k]'I)=n at d1 aB Y;have aA:=A1 (cL.o wr 1 n i3 (by omega) aB);rw[show ((1:Nat):Int)=1 from rfl]at aA;(have aF:Hid ([AJ]++(lgs.take (k+1)).map Ah=([AJ]++(lgs.take k).map Ah)++[Ah n]):=by unfold Hid;rw[Y];simp);have bD:BT 1 n=Ah n:=rfl;rw[bD]at aA;(have bO:([AJ]++(lgs.take k).map Ah).length<=4294967296:=by simp;omega);generalize X:[AJ]++(lgs.take k).map Ah=z at i1 i2 aF bO aP;have bN:=A1 bO;(have el:([AJ]++(lgs.take k).map Ah).length=z.length:=by rw[X])
   try rw[el]
   generalize b7:Ah n=nm at aA aF;have bX:=A1 i1;have cE:=A1 i2;have cD:=A1 i3;have dB:=A1 i4;(have aO:(k:Int)<(lgs.length:Int):=by omega);have b0:(0:Int)<=(k:Int):=Gu _;go_wp2_with (fail);refine aA.k ?_;rintro w6 aQ;have bU:=A1 aQ;have W:Hid ((w6.alloc (.cells #[.string ⟨nm.toArray⟩] 9)).ownsRow 0 9 1 (.slice ap z.length cp) z.length (Du z)):=Au bX.o λg d=>(aQ.aj _).Al g (Aw bX.o d) (λh=>h)
   have aH:=A1 (Src.bc (size:=1) (B:=w6.heap.size) HH w6 #[.string ⟨nm.toArray⟩] 9 (by simp) 1 1 rfl (Nd [nm]));go_wp2_with (at_builtin;refine CU rfl (.tmp 27) (.tmp 30) 121 121 rfl 9 i0 _ 1 16 HH hi aV aZ aX rfl (by decide) (.slice ap z.length cp) z.length (Du z) (by rfl) W.o _ 1 _ (by rfl) aH.o (by have:=bN.o;omega) ?_;intro a8 aE w8 O;have bC:=A1 O);go_roundw
   ·have O:=bC.o;have k7:A4 Aa wr (w6.alloc (.cells #[.string ⟨nm.toArray⟩] 9)):=bU.o.aj _;have aG:=O.Am (S:=λk=>(Value.slice ap z.length cp).ownBlock=some k) λ_ h=>h;have k8:A4 (λk=>(Value.slice ap z.length cp).ownBlock=some k) wr w8:=(k7.aT).tr aG;(have e:(z++[nm]).length=z.length+1:=by simp);have e2:Du (z++[nm])=Du z++Du [nm]:=Nf _ _;refine⟨k+1,by go_num,by omega,?_,?_,?_,?_⟩
    ·rw[aF.o];unfold Dy;rw[e,e2];exact O.AB
    ·intro g d;rcases O.BY with h|h
     ·rw[h]at d;exact cE.o g d
     ·rw[h]at d;cases d;have:=cD.o.Ak;have:=k7.Ak;have:=bU.o.Ak;omega
    ·exact cD.o.AH k8 λy hy aU=>by have:=cE.o y hy;omega
    ·exact Au dB.o λg d=>k8.Al g (Aw dB.o d) (IY dB.o bX.o (by decide) d)
   ·simp[intOf];omega
  ·(obtain rfl:k=lgs.length:=by omega);rw[C5]at i1 i2;(have aO:¬((lgs.length:Int)<(lgs.length:Int)):=by omega);obtain⟨z,X⟩:∃z,[AJ]++lgs.map Ah=z:=⟨_,rfl⟩;(have el:([AJ]++(lgs.take lgs.length).map Ah).length=z.length:=by rw[C5,X]);rw[X]at i1 i2;rw[X]at aL
   try rw[el]
   have bX:=A1 i1;have cE:=A1 i2;have cD:=A1 i3;have a1:=(cF.o.ak i3).Ae.c1;have x4:=(cF.o.ak i3).ix.c4;have HCUR:=A1 X;go_wp2;(have bO:z.length+ss.length<=4294967296:=by have:=b2;rw[aL.o]at this;simpa using this);go_loopw [4,41] (λv iv wr=>∃k:Nat,iv=A0 k/\k<=ss.length/\Hid (Dy wr v (z++(ss.take k).map AG)/\(∀g,v.ownBlock=some g->w.heap.size<=g)/\A4 Aa w wr)) (λ_ iv _=>ss.length-(intOf iv).toNat)
   ·exact⟨0,rfl,by omega,by simpa using bX.o,cE.o,cD.o⟩
   ·obtain⟨k,rfl,hk,hI⟩:=hrel;have⟨i1,i2,i3⟩:=hI.o;obtain⟨aJ,aK,rfl,bB,bE,-⟩:=B8 i1;unfold maxLen at bE;by_cases I:k<ss.length
    ·obtain⟨g,o,rfl,d0⟩:=Dg.at cS.o k I;have d1:=i3.ah d0;have aB:=cX.o _ (BV I);have Y:ss.take (k+1)=ss.take k++[ss[k]'I]:=Dq I;generalize bR:(ss[k]'I)=n at d0 d1 aB Y;have aA:=A1 (cL.o wr 2 n i3 (by omega) aB);rw[show ((2:Nat):Int)=2 from rfl]at aA;(have aF:Hid (z++(ss.take (k+1)).map AG=(z++(ss.take k).map AG)++[AG n]):=by unfold Hid;rw[Y];simp);have bD:BT 2 n=AG n:=rfl;rw[bD]at aA;(have a4:(z++(ss.take k).map AG).length<=4294967296:=by simp;omega);generalize dE:z++(ss.take k).map AG=cu at i1 i2 aF a4 bB;have bN:=A1 a4;(have el:(z++(ss.take k).map AG).length=cu.length:=by rw[dE])
     try rw[el]
     generalize b7:AG n=nm at aA aF;have aS:=A1 i1;have aM:=A1 i2;have aT:=A1 i3;(have aO:(k:Int)<(ss.length:Int):=by omega);have b0:(0:Int)<=(k:Int):=Gu _;go_wp2_with (fail);refine aA.k ?_;rintro w6 aQ;have bU:=A1 aQ;have W:Hid ((w6.alloc (.cells #[.string ⟨nm.toArray⟩] 9)).ownsRow 0 9 1 (.slice aJ cu.length aK) cu.length (Du cu)):=Au aS.o λg d=>(aQ.aj _).Al g (Aw aS.o d) (λh=>h)
     have aH:=A1 (Src.bc (size:=1) (B:=w6.heap.size) HH w6 #[.string ⟨nm.toArray⟩] 9 (by simp) 1 1 rfl (Nd [nm]));go_wp2_with (at_builtin;refine CU rfl (.tmp 45) (.tmp 48) 121 121 rfl 9 i0 _ 1 16 HH hi aV aZ aX rfl (by decide) (.slice aJ cu.length aK) cu.length (Du cu) (by rfl) W.o _ 1 _ (by rfl) aH.o (by have:=bN.o;omega) ?_;intro a8 aE w8 O;have bC:=A1 O);go_roundw
     ·have O:=bC.o;have k7:A4 Aa wr (w6.alloc (.cells #[.string ⟨nm.toArray⟩] 9)):=bU.o.aj _;have aG:=O.Am (S:=λk=>(Value.slice aJ cu.length aK).ownBlock=some k) λ_ h=>h;have k8:A4 (λk=>(Value.slice aJ cu.length aK).ownBlock=some k) wr w8:=(k7.aT).tr aG;(have e:(cu++[nm]).length=cu.length+1:=by simp);have e2:Du (cu++[nm])=Du cu++Du [nm]:=Nf _ _;refine⟨k+1,by go_num,by omega,?_,?_,?_⟩
      ·rw[aF.o];unfold Dy;rw[e,e2];exact O.AB
      ·intro g d;rcases O.BY with h|h
       ·rw[h]at d;exact aM.o g d
       ·rw[h]at d;cases d;have:=aT.o.Ak;have:=k7.Ak;have:=bU.o.Ak;omega
      ·exact aT.o.AH k8 λy hy aU=>by have:=aM.o y hy;omega
     ·simp[intOf];omega
    ·(obtain rfl:k=ss.length:=by omega);rw[C5,<-aL.o]at i1 i2;(have aO:¬((ss.length:Int)<(ss.length:Int)):=by omega);(have el:(z++(ss.take ss.length).map AG).length=E.length:=by rw[C5,aL.o])
     try rw[el]
     have dN:=A1 (XV wr _ E i1 (by omega));have aM:=A1 i2;have aT:=A1 i3;go_wp2_with (fail);refine dN.k ?_;rintro w3⟨cH,aW⟩;(have dA:Hid (A4 Aa w w3):=aT.o.AH aW λy hy aU=>by have:=aM.o y hy;omega);have cY:Hid (H9 w3 (.slice aJ E.length aK) (Kp E)):=Dy.rd cH;have cP:=A1 (LI.o w3 dA.o);have a0:=(cF.o.ak dA.o).Ae.c0;go_wp2_with (fail);refine cP.o.mono ?_;rintro e w4⟨v,rfl,bW,b3,hvo4⟩;obtain⟨na,ncap,rfl,nc1,cO⟩:=(Dy.rd bW).BW;unfold maxLen at cO;have cU:=A1 (Dy.rd bW);have cJ:Hid (A4 Aa w w4):=dA.o.tr b3;have bI:=A1 (cY.o.Am b3 (λ_ _ h=>h));have a7:Hid (∀x,decide (x∈Kp E)=decide (x∈E)):=λx=>by
      by_cases h:x∈E
      ·rw[Cu h,Cu ((Ul E x).2 h)]
      ·rw[Cv h,Cv λh'=>h ((Ul E x).1 h')]
     have a9:=A1I E;have a5:=A1H E;generalize hSN:Kp E=SN at bI a7 a9 a5;have bZ:=A1 a9;obtain⟨sn,bY⟩:∃sn,E.length=sn:=⟨_,rfl⟩
     try rw[bY]
     rw[bY]at bI a5;(have hsnl:sn<=4294967296:=by omega);have dI:Hid (∀wx x,A4 Aa w4 wx->Ag 138 #[.slice aJ sn aK,.string ⟨x.toArray⟩] wx λe w'=>∃i,e=.returned (.tuple #[A0 i,.bool (decide (x∈E))])/\∃q,w'=wx.drewN q):=λwx x hx=>by
      have:=A3s wx _ SN x (bI.o.Am hx (λ_ _ h=>h)) (by omega) bZ.o;rw[a7.o x]at this;exact this
     have bT:ns.length<=1073741824:=dC;have cB:Hid (∀p:Bs->Bool,∀k,((ns.take k).filter p).length<=1073741824):=λp k=>AP (KK _ _) (AP (List.length_take_le' _ _) bT);go_wp2;go_loopw [9,10,59] (λv1 v2 iv wr=>∃k:Nat,iv=A0 k/\k<=ns.length/\Hid (Dy wr v1 ((ns.take k).filter λnm=>decide (nm∈E))/\Dy wr v2 ((ns.take k).filter λnm=>!decide (nm∈E))/\(∀g,v1.ownBlock=some g->w4.heap.size<=g)/\(∀g,v2.ownBlock=some g->w4.heap.size<=g)/\(∀g,v1.ownBlock=some g->¬v2.ownBlock=some g)/\A4 Aa w4 wr)) (λ_ _ iv _=>ns.length-(intOf iv).toNat)
     ·exact⟨0,rfl,by omega,Co _ _ _ _,Co _ _ _ _,λg d=>by simp[Value.ownBlock]at d,λg d=>by simp[Value.ownBlock]at d,λg d=>by simp[Value.ownBlock]at d,A4.C _ _⟩
     ·obtain⟨k,rfl,hk,hI⟩:=hrel;have⟨i1,i2,i3,i4,i5,i6⟩:=hI.o;obtain⟨ap,cp,rfl,aP,aI,-⟩:=B8 i1;obtain⟨aq,cq,rfl,hcaq1,bK,-⟩:=B8 i2;unfold maxLen at aI bK;by_cases I:k<ns.length
      ·obtain⟨g,o,rfl,d0⟩:=H9.at cU.o k I;have d1:=i6.ah d0;have Y:ns.take (k+1)=ns.take k++[ns[k]'I]:=Dq I;generalize bR:(ns[k]'I)=nm at d0 d1 Y;have aY:=A1 (dI.o wr nm i6);have aR:Hid ((ns.take (k+1)).filter (λnm=>decide (nm∈E))=(ns.take k).filter (λnm=>decide (nm∈E))++(if nm∈E then [nm] else [])):=by
        unfold Hid;rw[Y,KO];by_cases hx:nm∈E<;>simp[hx]
       have aN:Hid ((ns.take (k+1)).filter (λnm=>!decide (nm∈E))=(ns.take k).filter (λnm=>!decide (nm∈E))++(if nm∈E then [] else [nm])):=by
        unfold Hid;rw[Y,KO];by_cases hx:nm∈E<;>simp[hx]
       have b6:=A1 (cB.o (λnm=>decide (nm∈E)) k);have b8:=A1 (cB.o (λnm=>!decide (nm∈E)) k);obtain⟨l1,bS⟩:∃l1,(ns.take k).filter (λnm=>decide (nm∈E))=l1:=⟨_,rfl⟩;obtain⟨l2,b9⟩:∃l2,(ns.take k).filter (λnm=>!decide (nm∈E))=l2:=⟨_,rfl⟩;rw[bS]at aR b6 i1 i3 i5;rw[b9]at aN b8 i2 i4 i5;(have bM:((ns.take k).filter (λnm=>decide (nm∈E))).length=l1.length:=by rw[bS]);(have bJ:((ns.take k).filter (λnm=>!decide (nm∈E))).length=l2.length:=by rw[b9])
       try rw[bM]
       try rw[bJ]
       have aS:=A1 i1;have aM:=A1 i2;have aT:=A1 i3;have cC:=A1 i4;have cG:=A1 i5;have bP:=A1 i6;(have aO:(k:Int)<(ns.length:Int):=by omega);have b0:(0:Int)<=(k:Int):=Gu _;by_cases hx:nm∈E
       ·rw[Cu hx]at aY;rw[Ai hx]at aR aN;go_wp2_with (fail);refine aY.o.mono ?_;rintro e w6⟨i,rfl,q,rfl⟩;have W:Hid (((wr.drewN q).alloc (.cells #[.string ⟨nm.toArray⟩] 9)).ownsRow 0 9 1 (.slice ap l1.length cp) l1.length (Du l1)):=Au aS.o λg d=>(((A4.C Aa wr).a7 q).aj _).Al g (Aw aS.o d) (λh=>h)
        have aH:=A1 (Src.bc (size:=1) (B:=(wr.drewN q).heap.size) HH (wr.drewN q) #[.string ⟨nm.toArray⟩] 9 (by simp) 1 1 rfl (Nd [nm]));have b5:Hid (A4 Aa wr ((wr.drewN q).alloc (.cells #[.string ⟨nm.toArray⟩] 9))):=((A4.C Aa wr).a7 q).aj _;go_wp2_with (at_builtin;refine CU rfl (.tmp 70) (.tmp 72) 121 121 rfl 9 i0 _ 1 16 HH hi aV aZ aX rfl (by decide) (.slice ap l1.length cp) l1.length (Du l1) (by rfl) W.o _ 1 _ (by rfl) aH.o (by have:=b6.o;omega) ?_;intro a8 aE w8 O;have bC:=A1 O);go_roundw
        ·have O:=bC.o;have aG:=O.Am (S:=λk=>(Value.slice ap l1.length cp).ownBlock=some k) λ_ h=>h;have k8:A4 (λk=>(Value.slice ap l1.length cp).ownBlock=some k) wr w8:=(b5.o.aT).tr aG;(have e:(l1++[nm]).length=l1.length+1:=by simp);have e2:Du (l1++[nm])=Du l1++Du [nm]:=Nf _ _;have aD:∀g,(Value.slice a8 (l1.length+1) aE).ownBlock=some g->(Value.slice ap l1.length cp).ownBlock=some g\/wr.heap.size<=g:=λg d=>by
          rcases O.BY with h|h
          ·rw[h]at d;exact .inl d
          ·rw[h]at d;cases d;exact .inr b5.o.Ak
         refine⟨k+1,by go_num,by omega,?_,?_,?_,cC.o,?_,?_⟩
         ·rw[aR.o];unfold Dy;rw[e,e2];exact O.AB
         ·rw[aN.o,Gt];exact Au aM.o λg d=>k8.Al g (Aw aM.o d) λh=>cG.o g h d
         ·exact λg d=>(aD g d).elim (aT.o g) λh=>AP bP.o.Ak h
         ·exact λg d a3=>(aD g d).elim (λh=>cG.o g h a3) λh=>by have:=Aw aM.o a3;omega
         ·exact bP.o.AH k8 λy hy aU=>by have:=aT.o y hy;omega
        ·simp[intOf];omega
       ·rw[Cv hx]at aY;rw[Af hx]at aR aN;go_wp2_with (fail);refine aY.o.mono ?_;rintro e w6⟨i,rfl,q,rfl⟩;have W:Hid (((wr.drewN q).alloc (.cells #[.string ⟨nm.toArray⟩] 9)).ownsRow 0 9 1 (.slice aq l2.length cq) l2.length (Du l2)):=Au aM.o λg d=>(((A4.C Aa wr).a7 q).aj _).Al g (Aw aM.o d) (λh=>h)
        have aH:=A1 (Src.bc (size:=1) (B:=(wr.drewN q).heap.size) HH (wr.drewN q) #[.string ⟨nm.toArray⟩] 9 (by simp) 1 1 rfl (Nd [nm]));have b5:Hid (A4 Aa wr ((wr.drewN q).alloc (.cells #[.string ⟨nm.toArray⟩] 9))):=((A4.C Aa wr).a7 q).aj _;go_wp2_with (at_builtin;refine CU rfl (.tmp 74) (.tmp 76) 121 121 rfl 9 i0 _ 1 16 HH hi aV aZ aX rfl (by decide) (.slice aq l2.length cq) l2.length (Du l2) (by rfl) W.o _ 1 _ (by rfl) aH.o (by have:=b8.o;omega) ?_;intro a8 aE w8 O;have bC:=A1 O);go_roundw
        ·have O:=bC.o;have aG:=O.Am (S:=λk=>(Value.slice aq l2.length cq).ownBlock=some k) λ_ h=>h;have k8:A4 (λk=>(Value.slice aq l2.length cq).ownBlock=some k) wr w8:=(b5.o.aT).tr aG;(have e:(l2++[nm]).length=l2.length+1:=by simp);have e2:Du (l2++[nm])=Du l2++Du [nm]:=Nf _ _;have aD:∀g,(Value.slice a8 (l2.length+1) aE).ownBlock=some g->(Value.slice aq l2.length cq).ownBlock=some g\/wr.heap.size<=g:=λg d=>by
          rcases O.BY with h|h
          ·rw[h]at d;exact .inl d
          ·rw[h]at d;cases d;exact .inr b5.o.Ak
         refine⟨k+1,by go_num,by omega,?_,?_,aT.o,?_,?_,?_⟩
         ·rw[aR.o,Gt];exact Au aS.o λg d=>k8.Al g (Aw aS.o d) λh=>cG.o g d h
         ·rw[aN.o];unfold Dy;rw[e,e2];exact O.AB
         ·exact λg d=>(aD g d).elim (cC.o g) λh=>AP bP.o.Ak h
         ·exact λg d a3=>(aD g a3).elim (λh=>cG.o g d h) λh=>by have:=Aw aS.o d;omega
         ·exact bP.o.AH k8 λy hy aU=>by have:=cC.o y hy;omega
        ·simp[intOf];omega
      ·(obtain rfl:k=ns.length:=by omega);rw[C5,<-bL.o]at i1 i3;rw[C5,<-bF.o]at i2 i4;(have bM:((ns.take ns.length).filter (λnm=>decide (nm∈E))).length=dM.length:=by rw[C5,<-bL.o]);(have bJ:((ns.take ns.length).filter (λnm=>!decide (nm∈E))).length=dL.length:=by rw[C5,<-bF.o])
       try rw[bM]
       try rw[bJ]
       have aS:=A1 i1;have aM:=A1 i2;have aT:=A1 i3;have cC:=A1 i4;have bP:=A1 i6;(have aO:¬((ns.length:Int)<(ns.length:Int)):=by omega);go_wp2;go_ret2;exact⟨_,_,rfl,aS.o,aM.o,λg d=>AP cJ.o.Ak (aT.o g d),λg d=>AP cJ.o.Ak (cC.o g d),cJ.o.tr bP.o⟩
end
section
variable{w:gx}{ab b xb jb B:Nat}{sv ov lv jo:gy}{A:Ar}{P:PD}{Ft FT:Nat->Prop}{a c m:Nat}
def A2c(h:Bu w b P Ft)(nm:Bs)(E:Fit P a c m)(z:CT a c m):
 Ag 193 #[A5 b,.string ⟨nm.toArray⟩] w (Aj (A0 (P.aG (Ab nm)).1) λw'=>Ap w Ft w' (λw' d=>Bu w' b (P.aG (Ab nm)).2 d)):=
 YU h (Ab nm) (by have:=E.A6;have:=E.Am;have:=z.a;have:=z.c;omega)
def removeAll_cons(nm:Bs)(r:gD Bs)(P:PD):PD.aO (nm::r) P=if (P.aG (Ab nm)).1≠0 then P.aG (Ab nm) else PD.aO r (P.aG (Ab nm)).2:=rfl
def SY(A:Ar)(P:PD)(h:Fit P a c m):(A.aV P).length<=a:=by
 unfold Ar.aV;exact AP (KK _ _) (by rw[Lj];exact h.A6)
def Rp(w:gx)(h:AD w ab b A P FT)(hF:Fit P a c m)(hl:CT a (c+a) m)(hn:∀n∈A.ix.sd,CK n)(aX:∀n∈A.j.An,CK n)(aS:A.ix.sd.length<=1073741824)(aV:A.j.An.length<=1073741824)(hL:Lets B w):
 Ag 150 #[A5 ab] w (Aj (A0 (A.az P).1) λw'=>Ap w FT w' (λw' aR=>AD w' ab b A (A.az P).2 aR)):=by
 obtain⟨xb,jb,sv,ov,lv,jo,Ft,hV,aI⟩:=h;have a5:=A1 (SQ w hV hF ⟨hl.a,by have:=hl.c;omega,hl.m⟩ hn aX aS aV hL);have hol:=SY A P hF;have a1:=A1 hV;have I:=A1 aI;have a2:Hid (A.az P=PD.aO (A.aV P) P):=rfl;have a3:=A1 removeAll_cons;generalize hR:A.az P=R at a2 ⊢;have aZ:=A1 hF;have aE:=A1 hl;generalize A.aV P=os at *
 go_enter func150,ntmps150
 go_wp2_with (fail);refine a5.m ?_;rintro e w1⟨v1,v2,rfl,-,h2,-,aU,aK⟩;obtain⟨oa,ocap,rfl,oc1,a0⟩:=(Dy.rd h2).BW;unfold maxLen at a0;have aT:=A1 (Dy.rd h2);have aY:=A1 aU;have aG:=A1 aK;have z:=A1 (a1.o.ak aK);go_wp2;go_loopw [15] (λiv wr=>∃(k:Nat),iv=A0 k/\k<=os.length/\Hid (∃E,Ap w1 Ft wr (λw' d=>Ct w' ab b xb jb sv ov lv jo A E d)/\Fit E a (c+k) m/\R=PD.aO (os.drop k) E)) (λiv _=>os.length-(intOf iv).toNat)
 ·exact⟨0,rfl,by omega,P,⟨A4.C _ _,Ft,z.o,z.o.lt,λk hk=>.inl hk⟩,aZ.o,a2.o⟩
 ·obtain⟨k,rfl,hk,hI⟩:=hrel;have⟨E,hi,hf,hx⟩:=hI.o;obtain⟨c1,aH,hv,aO,s1⟩:=hi;by_cases aB:k<os.length
  ·obtain⟨g,o,rfl,d0⟩:=H9.at aT.o k aB;have d1:=c1.bJ d0 (λh=>by have:=a1.o.lt _ h;have:=aY.o g rfl;have h':g<w.heap.size:=a1.o.lt _ h;omega);have aJ:=FK aB;generalize hne:(os[k]'aB)=nm at d0 d1 aJ;rw[aJ,a3.o]at hx;have e0:=hv.Ae.c0;have aN:CT a (c+k) m:=⟨aE.o.a,by have:=aE.o.c;omega,aE.o.m⟩;have aL:=A1 (A2c hv.dk nm hf aN);(have aF:Hid (Fit (E.aG (Ab nm)).2 a (c+(k+1)) m):=by have:=hf.aG (Ab nm);exact this);generalize hY:E.aG (Ab nm)=Y at aL hx aF;have aA:Hid (∀W,Ap wr aH W (λw' d=>Bu w' b Y.2 d)->Ap w1 Ft W (λw' d=>Ct w' ab b xb jb sv ov lv jo A Y.2 d)):=λW h6=>Ap.ba c1 s1 (hv.bQ h6);have aD:=A1 hx;(have aP:(k:Int)<(os.length:Int):=by omega);have hk0:=BJ k;obtain⟨aM,aQ⟩:=Y;dsimp only at aL aA aD aF;by_cases hy:aM=0
   case neg=>
    (have L:R=(aM,aQ):=by rw[aD.o,Ai hy]);subst L;(have hyb:(aM !=0)=true:=by simpa using hy);go_wp2_with (go_at_call 193;refine aL.k ?_;rintro W X;have O:=A1 (aA.o W X));go_ret;exact⟨rfl,(z.o.cF I.o O.o).a1 aG.o⟩
   case pos=>
    subst hy;(have aW:Hid (R=PD.aO (os.drop (k+1)) aQ):=by unfold Hid;rw[aD.o,Af (by simp)]);go_wp2_with (go_at_call 193;refine aL.k ?_;rintro W X;have O:=A1 (aA.o W X));go_roundw
    ·exact⟨k+1,by go_num,by omega,aQ,O.o,aF.o,aW.o⟩
    ·simp[intOf];omega
  ·(obtain rfl:k=os.length:=by omega);rw[GX]at hx;have L:R=(0,E):=hx;subst L;(have aP:¬((os.length:Int)<(os.length:Int)):=by omega);have a4:Hid (Ap w1 Ft wr (λw' d=>Ct w' ab b xb jb sv ov lv jo A E d)):=⟨c1,aH,hv,aO,s1⟩;go_wp2;go_ret;exact⟨rfl,(z.o.cF I.o a4.o).a1 aG.o⟩
def A1a{nm:Bs}{s:Nat}{f0:Int}{E:gD Int}(w:gx)(h:Ca w xb 162 b nm s f0 sv)(X:Dg w sv E)(L:gy)(l:gD Int)(W:Dg w L l)(z:Int):
 Ag 198 #[A5 xb,A0 z,L] w (Aj (.bool (decide (f0=z/\E=l))) λw'=>∃q,w'=w.drewN q):=by
 have c3:=h.c3;have c4:=h.c4;have O:=A1 (A13 w sv L E l X W);obtain⟨ka,kcap,rfl,k1,k2⟩:=W.BW;obtain⟨sa,scap,rfl,s1,s2⟩:=X.BW;by_cases I:f0=z
 ·subst I;have e:decide (f0=f0/\E=l)=decide (E=l):=by simp
  rw[e];generalize hd:decide (E=l)=d at O ⊢
  go_enter func198,ntmps198
  go_wp2_with (go_at_call 241;refine O.k ?_;rintro w2⟨q,rfl⟩);go_ret;exact⟨rfl,q,rfl⟩
 ·have e:decide (f0=z/\E=l)=false:=Cv λh=>I h.1;rw[e];have hb:(f0==z)=false:=by simpa using I
  go_enter func198,ntmps198
  go_wp2;go_ret;exact⟨rfl,0,rfl⟩
def Ct.eP{w':gx}{P':PD}{f':Int}{z:gy}{W:gD Int}(h:Ct w ab b xb jb sv ov lv jo A P Ft)(X:Ca w' xb 162 b AJ (AI AJ) f' z)(hr:Dg w' z W)(hI:JU w Ft xb w' b P')(L:∀g,z.ownBlock=some g->sv.ownBlock=some g\/(g<w.heap.size/\¬Ft g/\¬FM ab xb jb sv ov lv jo g)):
 ∃I,Ct w' ab b xb jb z ov lv jo {A with ix:=⟨f',W⟩} P' I/\A4 (λk=>Ft k\/k=xb) w w'/\∀k,I k->Ft k\/w.heap.size<=k:=by
 obtain⟨hc,I,h2,h3,h4⟩:=hI;have key:∀k,FM ab xb jb sv ov lv jo k->k≠xb->w'.heap[k]?=w.heap[k]?:=λk d Y=>hc.Al k (h.bK d) λX=>X.elim (h.Dn k d) Y;have sS:∀g,z.ownBlock=some g->g≠ab/\g≠xb/\¬Dr jb lv jo g:=λg E=>by
  rcases L g E with E|⟨_,_,E⟩
  ·exact h.FP g E
  ·exact⟨λe=>E (.inl e),λe=>E (.inr (.inl e)),λe=>E (.inr (.inr (.inr (.inr e))))⟩
 refine⟨I,⟨(key ab (.inl rfl) h.ne).trans h.Ae,X,hr,h.AR.aM λg E=>key g (.inr (.inr (.inr (.inl E)))) (h.Gx g E).2.1,h.jn.aM λk d=>key k (.inr (.inr (.inr (.inr d)))) (h.G8 k d).2,h2,h3,?_,sS,h.Gx,h.G8⟩,hc,h4⟩;intro k d X;rcases h4 k X with O|O
 ·rcases d with d|d|d|d|d
  ·exact h.Dn k (.inl d) O
  ·exact h.Dn k (.inr (.inl d)) O
  ·rcases L k d with d|⟨_,d,_⟩
   ·exact h.Dn k (.inr (.inr (.inl d))) O
   ·exact d O
  ·exact h.Dn k (.inr (.inr (.inr (.inl d)))) O
  ·exact h.Dn k (.inr (.inr (.inr (.inr d)))) O
 ·have:k<w.heap.size:=by
   rcases d with d|d|d|d|d
   ·exact h.bK (.inl d)
   ·exact h.bK (.inr (.inl d))
   ·rcases L k d with d|⟨d,_⟩
    ·exact h.bK (.inr (.inr (.inl d)))
    ·exact d
   ·exact h.bK (.inr (.inr (.inr (.inl d))))
   ·exact h.bK (.inr (.inr (.inr (.inr d))))
  omega
def Ct.fY{w':gx}{lv' L:gy}{Y:Jn}(h:Ct w ab b xb jb sv ov lv jo A P Ft)(hj:DR w' jb b lv' L Y)(hc:A4 (One jb) w w')(O:lv'.ownBlock=none)(W:L=.pointer none):Ct w' ab b xb jb sv ov lv' L {A with j:=Y} P Ft:=by
 have key:∀k,k≠jb->k<w.heap.size->w'.heap[k]?=w.heap[k]?:=λk d hl=>hc.Al k hl d;have E:∀k,Dr jb lv' L k->k=jb:=λk d=>by
  rcases d with h|h|h
  ·exact h
  ·rw[O]at h;cases h
  ·rw[W]at h;cases h
 have I:Dr jb lv jo jb:=.inl rfl
 refine⟨(key ab (λe=>(h.G8 jb I).1 e.symm) h.Ae.lt).trans h.Ae,(key xb (λe=>(h.G8 jb I).2 e.symm) h.ix.lt).trans h.ix,h.sd.aM λg z=>key g (λe=>(h.FP g z).2.2 (e ▸ I)) (h.sd.lt z),h.AR.aM λg z=>key g (λe=>(h.Gx g z).2.2 (e ▸ I)) (h.AR.lt z),hj,
  AW.aM h.dk λk d=>key k (λe=>by subst e;exact h.Dn _ (.inr (.inr (.inr (.inr I)))) d) (h.lt k d),λk d=>Bn (h.lt k d) hc.Ak,?_,λg z=>?_,λg z=>?_,λk d=>?_⟩
 ·intro k d;rcases d with d|d|d|d|d
  ·exact h.Dn k (.inl d)
  ·exact h.Dn k (.inr (.inl d))
  ·exact h.Dn k (.inr (.inr (.inl d)))
  ·exact h.Dn k (.inr (.inr (.inr (.inl d))))
  ·rw[E k d];exact h.Dn jb (.inr (.inr (.inr (.inr I))))
 ·exact⟨(h.FP g z).1,(h.FP g z).2.1,λX=>(h.FP g z).2.2 (by rw[E g X];exact I)⟩
 ·exact⟨(h.Gx g z).1,(h.Gx g z).2.1,λX=>(h.Gx g z).2.2 (by rw[E g X];exact I)⟩
 ·rw[E k d];exact h.G8 jb I
def A3L(w:gx)(h:AD w ab b A P FT)(kv:gy)(l:gD Int)(E:Dg w kv l)(aY:∀g,kv.ownBlock=some g->¬FT g)(hr:Ay (A.j.Ac+1))(aS:∀x∈l,Ay x)(aT:l.length<=134217728)(hF:Fit P a c m)(hl:CT (a+2) (c+2) (m+12+8*l.length))(hL:Lets B w):
 Ag 152 #[A5 ab,kv] w (Aj (A0 (A.an P l).1) λw'=>Ap w (λk=>FT k\/kv.ownBlock=some k) w' (λw' aR=>AD w' ab b (A.an P l).2.1 (A.an P l).2.2 aR)):=by
 obtain⟨xb,jb,sv,ov,lv,jo,Ft,X,aM⟩:=h
 have aL:Hid (A.an P l=if A.ix.Bd=A.j.Ac+1/\A.ix.sd=l then (0,A,P) else
  if (P.an (A.j.Ac+1) l).1≠0 then ((P.an (A.j.Ac+1) l).1,A,(P.an (A.j.Ac+1) l).2) else
  (0,{A with ix:=⟨A.j.Ac+1,l⟩,j:=⟨[],A.j.Ac,0,none⟩},(P.an (A.j.Ac+1) l).2)):=rfl
 have aW:Hid (∀w1,A4 Aa w w1->_):=λw1 hc=>Tl w1 (X.jn.ak hc) hr;have aJ:Hid (∀w1,A4 Aa w w1->_):=λw1 hc=>A1a w1 (X.ix.al hc (λh=>h)) (X.sd.Am hc (λ_ _ h=>h)) kv l (E.Am hc (λ_ _ h=>h)) (A.j.Ac+1);have aQ:Hid (∀w1,A4 Aa w w1->_):=λw1 hc=>X4 w1 (A.j.Ac+1) A.ix.Bd kv sv l (X.ix.al hc (λh=>h)) (AW.aw X.dk X.lt hc) (λk E=>Bn (X.lt k E) hc.Ak) (X.Dn xb (.inr (.inl rfl))) hF hl (hL.aL hc) (E.Am hc (λ_ _ h=>h)) hr aS aT;obtain⟨ka,I,rfl,k1,k2⟩:=E.BW;have a0:=A1 X;have d:=A1 aM;have a1:=A1 E;have aK:=A1 aY;generalize hR:A.an P l=R at aL ⊢;generalize hT:P.an (A.j.Ac+1) l=T at aL aQ;generalize hLL:A.j.Ac+1=L at aL aW aJ aQ;have HB:=A1 X.Ae;have d1:=X.Ae.aa.c1;have d2:=X.Ae.aa.c2;have aN:=A1 (aW.o w.drew (A4.C _ w).aa);by_cases z:A.ix.Bd=L/\A.ix.sd=l
 case pos=>
  have aA:R=(0,A,P):=by rw[aL.o,Ai z]
  subst aA;rw[Cu z]at aJ;have aF:=A1 (aJ.o w.drew (A4.C _ w).aa)
  go_enter func152,ntmps152
  go_wp2;refine Br (λw'=>A8 w' ab 1 (A5 xb)/\A8 w' ab 2 (A5 jb)) 10
   (Ba [0,1,2,3,4,5,6,7,9,8] [8]) ⟨d1,d2⟩ ?_
  iterate 9 refine B4 ?_
  refine Bf λK hK=>?_;go_simp;refine aN.k ?_;rintro w3 rfl;refine hK _ _ ⟨d1,d2⟩ (λhS=>?_);refine Bo ?_;go_wp2_with (go_at_call 198;refine aF.k ?_;rintro w4⟨q,rfl⟩);go_ret;have kq:=(A4.C Aa w).a7 (1+q);exact⟨rfl,Ct.bR (FT:=λk=>FT k\/(Value.slice ka l.length I).oB k) (a0.o.ak kq) kq (λ_ _ h=>h.elim) (λk E=>.inl (.inl (d.o k (.inl E)))) λk E=>.inl (.inl (d.o k (.inr E)))⟩
 case neg=>
  rw[Cv z]at aJ;have aF:=A1 (aJ.o w.drew (A4.C _ w).aa);have aH:Hid (R=if T.1≠0 then (T.1,A,T.2) else (0,{A with ix:=⟨L,l⟩,j:=⟨[],A.j.Ac,0,none⟩},T.2)):=by unfold Hid;rw[aL.o,Af z]
  go_enter func152,ntmps152
  go_wp2;refine Br (λw'=>A8 w' ab 1 (A5 xb)/\A8 w' ab 2 (A5 jb)) 10
   (Ba [0,1,2,3,4,5,6,7,9,8] [8]) ⟨d1,d2⟩ ?_
  iterate 9 refine B4 ?_
  refine Bf λK hK=>?_;go_simp;refine aN.k ?_;rintro w3 rfl;refine hK _ _ ⟨d1,d2⟩ (λhS=>?_);refine Bo ?_;go_wp2_with (fail);refine aF.k ?_;rintro w4⟨q,rfl⟩;have k4:A4 Aa w (w.drewN (1+q)):=(A4.C Aa w).a7 (1+q);have a2:=a0.o.ak k4;have x1:=a2.Ae.aa.c1;have x2:=a2.Ae.aa.c2;have Y:=A1 (a0.o.ak k4.aa);have aG:=A1 k4.aa;have aB:=A1 (aQ.o _ k4.aa);have aE:=A1 (aW.o _ k4.aa);go_wp2;generalize w.drewN (1+q)=w4 at Y aG aB aE x1 x2 ⊢;obtain⟨aX,a3⟩:=T;dsimp only at aB aH;have aD:Hid (ab≠xb/\¬Ft ab):=⟨Y.o.ne,Y.o.Dn ab (.inl rfl)⟩;by_cases ht:aX=0
  case neg=>
   (have aA:R=(aX,A,a3):=by rw[aH.o,Ai ht]);subst aA;(have htb:(aX !=0)=true:=by simpa using ht);refine Br (λw'=>A8 w' ab 1 (A5 xb)/\A8 w' ab 2 (A5 jb)) 11
    (Ba [0,1,2,3,4,5,6,7,9,8,10] [8,10]) ⟨x1,x2⟩ ?_
   iterate 9 refine B4 ?_
   refine Bf λK hK=>?_;go_simp;refine aE.k ?_;rintro w3 rfl;refine hK _ _ ⟨x1,x2⟩ (λhS=>?_);refine Bf λK hK=>?_;go_simp;refine aB.k ?_;rintro w6⟨hx,hI⟩;have b6:De w6 ab b xb jb A.Ac ov:=Y.o.Ae.al hI.1 λh=>h.elim aD.o.2 aD.o.1;refine hK _ _ ⟨b6.c1,b6.c2⟩ (λhS=>?_);rw[Af ht,Af ht]at hx;have aO:=A1 (Y.o.eP hx (Y.o.sd.aM λg O=>hI.1.Al g (Y.o.sd.lt O) λh=>h.elim (Y.o.Dn g (.inr (.inr (.inl O)))) (Y.o.FP g O).2.1) hI λg O=>.inl O);refine Bo ?_;go_wp2;go_ret;have⟨Ft',h1,h2,h3⟩:=aO.o;have aV:A4 (λk=>Ft k\/k=xb) w w6:=(aG.o.aT (S:=λk=>Ft k\/k=xb)).tr h2;refine⟨rfl,Ct.bR (FT:=λk=>FT k\/(Value.slice ka l.length I).oB k) h1 aV ?_ ?_ ?_⟩
   ·rintro k _ (h|rfl)
    ·exact .inl (d.o k (.inl h))
    ·exact .inl (d.o _ (.inr (.inr (.inl rfl))))
   ·exact λk E=>(h3 k E).imp (λh=>.inl (d.o k (.inl h))) λh=>AP aG.o.Ak h
   ·exact λk E=>.inl (.inl (d.o k (.inr E)))
  case pos=>
   subst ht;(have aA:R=(0,{A with ix:=⟨L,l⟩,j:=⟨[],A.j.Ac,0,none⟩},a3):=by rw[aH.o,Af (by simp)]);subst aA;have W:Hid (∀g,(Value.slice ka l.length I).oB g->g<w4.drew.heap.size/\¬Ft g/\¬FM ab xb jb sv ov lv jo g):=λg O=>⟨Bn (a1.o.lt O) aG.o.Ak,λh=>aK.o g O (d.o g (.inl h)),λh=>aK.o g O (d.o g (.inr h))⟩
   refine Br (λw'=>A8 w' ab 1 (A5 xb)/\A8 w' ab 2 (A5 jb)) 11
    (Ba [0,1,2,3,4,5,6,7,9,8,10] [8,10]) ⟨x1,x2⟩ ?_
   iterate 9 refine B4 ?_
   refine Bf λK hK=>?_;go_simp;refine aE.k ?_;rintro w3 rfl;refine hK _ _ ⟨x1,x2⟩ (λhS=>?_);refine Bf λK hK=>?_;go_simp;refine aB.k ?_;rintro w6⟨hx,hI⟩;have b6:De w6 ab b xb jb A.Ac ov:=Y.o.Ae.al hI.1 λh=>h.elim aD.o.2 aD.o.1;refine hK _ _ ⟨b6.c1,b6.c2⟩ (λhS=>?_);rw[Ai rfl,Ai rfl]at hx;have aU:Dg w6 (.slice ka l.length I) l:=(a1.o.Am aG.o (λ_ _ h=>h)).aM λg O=>hI.1.Al g (W.o g O).1 λh=>h.elim (W.o g O).2.1 λe=>(W.o g O).2.2 (.inr (.inl e))
   have aO:=A1 (Y.o.eP hx aU hI λg O=>.inr (W.o g O));have d2:=b6.c2;refine Bo ?_;have⟨Ft',h1,h2,h3⟩:=aO.o;have a7:=A1 (A0L w6 h1.jn);have a6:=A1 h1;have a5:Hid (A4 (λk=>Ft k\/k=xb) w w6):=(aG.o.aT (S:=λk=>Ft k\/k=xb)).tr h2;have a4:Hid (∀k,Ft' k->Ft k\/w.heap.size<=k):=λk E=>(h3 k E).imp id λh=>AP aG.o.Ak h
   go_wp2_with (go_at_call 201;refine a7.k ?_;rintro w7⟨hj,aP⟩;have a8:=A1 hj;have aI:=A1 aP);go_ret;have aZ:=a6.o.fY a8.o aI.o (by simp[Value.ownBlock]) rfl;refine⟨rfl,Ct.bR (FT:=λk=>FT k\/(Value.slice ka l.length I).oB k) (S:=λk=>(Ft k\/k=xb)\/k=jb) aZ ((a5.o.ai λ_ _ h=>.inl h).AH aI.o λ_ h _=>.inr h) ?_ ?_ ?_⟩
   ·rintro k _ ((h|rfl)|rfl)
    ·exact .inl (d.o k (.inl h))
    ·exact .inl (d.o _ (.inr (.inr (.inl rfl))))
    ·exact .inl (d.o _ (.inr (.inr (.inr (.inr (.inr (.inl rfl)))))))
   ·exact λk E=>(a4.o k E).imp (λh=>.inl (d.o k (.inl h))) id
   ·rintro k (h|h|h|h|h)
    ·exact .inl (.inl (d.o k (.inr (.inl h))))
    ·exact .inl (.inl (d.o k (.inr (.inr (.inl h)))))
    ·exact .inl (.inr h)
    ·exact .inl (.inl (d.o k (.inr (.inr (.inr (.inr (.inl h)))))))
    ·rcases h with h|h|h
     ·exact .inl (.inl (d.o k (.inr (.inr (.inr (.inr (.inr (.inl h))))))))
     ·simp[Value.ownBlock]at h
     ·cases h
end
def Fit.ay{a c m:Nat}:∀(l:gD Bs) (P:PD),Fit P a c m->Fit (PD.ay l P).2 a c m
 | [],P,h=>h
 | nm::r,P,h=>by
  rw[Rm];split
  ·exact h.ad _
  ·exact Fit.ay r _ (h.ad _)
def Fit.I{A:Ar}{P:PD}{a c m:Nat}(h:Fit P a c m):Fit (A.I P).2.2 a c m:=by
 unfold Ar.I;split
 ·exact h.ay _ _
 ·exact h.ay _ _
def Fit.aO{a m:Nat}:∀(l:gD Bs) (P:PD) (c:Nat),Fit P a c m->Fit (PD.aO l P).2 a (c+l.length) m
 | [],P,c,h=>h
 | nm::r,P,c,h=>by
  rw[removeAll_cons];split
  ·exact(h.aG _).ai (Ao _) (by simp) (Ao _)
  ·exact(Fit.aO r _ _ (h.aG _)).ai (Ao _) (by simp;omega) (Ao _)
def Fit.az{A:Ar}{P:PD}{a c m:Nat}(h:Fit P a c m):Fit (A.az P).2 a (c+a) m:=by
 have d:=Fit.aO (A.aV P) P c h;have h2:=SY A P h;exact d.ai (Ao _) (by omega) (Ao _)
def Od(A:Ar)(P:PD):(A.I P).2.1.ix=A.ix/\(A.I P).2.1.j=A.j/\(A.I P).2.1.Ac=A.Ac:=by
 unfold Ar.I;split<;>exact⟨rfl,rfl,rfl⟩
def Ar.aP(A:Ar)(P:PD):Int×Ar×PD:=
 if (A.I P).1≠0 then A.I P else (((A.I P).2.1.az (A.I P).2.2).1,(A.I P).2.1,((A.I P).2.1.az (A.I P).2.2).2)
def Zt(A:Ar)(P:PD):(A.aP P).2.1.ix=A.ix/\(A.aP P).2.1.j=A.j/\(A.aP P).2.1.Ac=A.Ac:=by
 unfold Ar.aP;split<;>exact Od A P
def Fit.aP{A:Ar}{P:PD}{a c m:Nat}(h:Fit P a c m):Fit (A.aP P).2.2 a (c+a) m:=by
 unfold Ar.aP;split
 ·exact h.I.ai (Ao _) (by omega) (Ao _)
 ·exact h.I.az
def S3(A:Ar)(P:PD)(d:gD Int)(h:gD (gD Pu)):A.aH P d h=if (A.aP P).1≠0 then A.aP P else
 if (PD.aq h (A.aP P).2.1.Ac d (A.aP P).2.2).1≠0 then ((PD.aq h (A.aP P).2.1.Ac d (A.aP P).2.2).1,{ (A.aP P).2.1 with Ac:=(PD.aq h (A.aP P).2.1.Ac d (A.aP P).2.2).2.1},(PD.aq h (A.aP P).2.1.Ac d (A.aP P).2.2).2.2.2) else
 if (({ (A.aP P).2.1 with Ac:=(PD.aq h (A.aP P).2.1.Ac d (A.aP P).2.2).2.1}:Ar).an (PD.aq h (A.aP P).2.1.Ac d (A.aP P).2.2).2.2.2 (PD.aq h (A.aP P).2.1.Ac d (A.aP P).2.2).2.2.1).1≠0 then
  ({ (A.aP P).2.1 with Ac:=(PD.aq h (A.aP P).2.1.Ac d (A.aP P).2.2).2.1}:Ar).an (PD.aq h (A.aP P).2.1.Ac d (A.aP P).2.2).2.2.2 (PD.aq h (A.aP P).2.1.Ac d (A.aP P).2.2).2.2.1
 else (({ (A.aP P).2.1 with Ac:=(PD.aq h (A.aP P).2.1.Ac d (A.aP P).2.2).2.1}:Ar).an (PD.aq h (A.aP P).2.1.Ac d (A.aP P).2.2).2.2.2 (PD.aq h (A.aP P).2.1.Ac d (A.aP P).2.2).2.2.1).2.1.a8
  (({ (A.aP P).2.1 with Ac:=(PD.aq h (A.aP P).2.1.Ac d (A.aP P).2.2).2.1}:Ar).an (PD.aq h (A.aP P).2.1.Ac d (A.aP P).2.2).2.2.2 (PD.aq h (A.aP P).2.1.Ac d (A.aP P).2.2).2.2.1).2.2:=by
 unfold Ar.aH Ar.aP;dsimp only
 by_cases z:(A.I P).1=0
 ·by_cases E:((A.I P).2.1.az (A.I P).2.2).1=0
  ·simp only[z,E,Kk,not_true,Cd]
  ·simp only[z,E,Kk,not_true,OQ,Cd,Cq]
 ·simp only[z,Kk,OQ,Cq]
section
variable{w w':gx}{ab b xb jb B:Nat}{sv ov lv jo:gy}{A:Ar}{P:PD}{Ft FT:Nat->Prop}{a c m:Nat}
def AD.bu(h:AD w ab b A P FT):A8 w ab 0 (A5 b)/\A8 w ab 3 (A0 A.Ac)/\w.frozen? (A9 ab 3)=false/\ab<w.heap.size/\FT ab:=by
 obtain⟨xb,jb,sv,ov,lv,jo,Ft,d,z⟩:=h;exact⟨d.Ae.c0,d.Ae.c3,d.Ae.fz 3,d.Ae.lt,z ab (.inr (.inl rfl))⟩
def AD.gu(h:AD w ab b A P FT)(x:Int):AD (w.setCell ⟨ab,3,none⟩ (.int .i64 x)) ab b {A with Ac:=x} P FT:=by
 obtain⟨xb,jb,sv,ov,lv,jo,Ft,d,O⟩:=h;have L:A4 (One ab) w (w.setCell ⟨ab,3,none⟩ (.int .i64 x)):=(A4.C (One ab) w).ao (b:=ab) rfl 3 _;have I:∀k,k≠ab->k<w.heap.size->(w.setCell ⟨ab,3,none⟩ (.int .i64 x)).heap[k]?=w.heap[k]?:=λk z W=>L.Al k W z
 exact⟨xb,jb,sv,ov,lv,jo,Ft,⟨d.Ae.s3 x,(I xb d.ne.symm d.ix.lt).trans d.ix,d.sd.aM λg E=>I g (d.FP g E).1 (d.sd.lt E),d.AR.aM λg E=>I g (d.Gx g E).1 (d.AR.lt E),d.jn.aM λk z=>I k (d.G8 k z).1 (d.jn.lt z),
  AW.aM d.dk λk z=>I k (λe=>by subst e;exact d.Dn _ (.inl rfl) z) (d.lt k z),λk z=>Bn (d.lt k z) L.Ak,d.Dn,d.FP,d.Gx,d.G8⟩,O⟩
def A2a(h:Bu w b P Ft):
 Ag 86 #[A5 b] w (Aj (A0 P.aJ.1) λw'=>Ap w Ft w' (λw' d=>Bu w' b P.aJ.2 d)):=Xl h
def VA(h:AD w ab b A P FT):
 Ag 86 #[A5 b] w (Aj (A0 P.aJ.1) λw'=>Ap w FT w' (λw' z=>AD w' ab b A P.aJ.2 z)):=by
 obtain⟨xb,jb,sv,ov,lv,jo,Ft,d,E⟩:=h;refine(A2a d.dk).mono ?_;rintro e w'⟨L,I⟩;exact⟨L,d.cF E (d.bQ I)⟩
def Zu(w:gx)(g:Nat)(h:AD w ab b A P FT)(_hlt:∀k,FT k->k<w.heap.size)(hg:¬FT g)(Y:g<w.heap.size)(hb:w.heap[g]?=some (.cells #[.func (Fn.func 118) #[.pointer (some ⟨ab,0,none⟩)] #[],.func (Fn.func 150) #[.pointer (some ⟨ab,0,none⟩)] #[]] 50 (0,0)))(hF:Fit P a c m)(hl:CT a (c+a) m)(hn:∀n∈A.ix.sd,CK n)(W:∀n∈A.j.An,CK n)(O:A.ix.sd.length<=1073741824)(L:A.j.An.length<=1073741824)(hL:Lets B w)(X:∀k,FT k->B<=k):
 Calls Tryz.prog 117 #[.slice (some ⟨g,0,none⟩) 2 2] w λe w'=>e=.returned (.int .i64 (A.aP P).1)/\Ap w FT w' (λw' d=>AD w' ab b (A.aP P).2.1 (A.aP P).2.2 d):=by
 have⟨s1,s2,s3⟩:=Od A P;refine(A1F w g ab ab (λn w'=>n=(A.I P).1/\Ap w FT w' (λw' d=>AD w' ab b (A.I P).2.1 (A.I P).2.2 d)) (λn w'=>(A.I P).1=0/\n=((A.I P).2.1.az (A.I P).2.2).1/\Ap w FT w' (λw' d=>AD w' ab b (A.I P).2.1 ((A.I P).2.1.az (A.I P).2.2).2 d)) hb ?_ ?_).mono ?_
 ·refine(RD w h).mono ?_;rintro e w'⟨E,z⟩;exact⟨_,E,⟨rfl,z⟩,z.1.Al g Y hg⟩
 ·rintro w1⟨h0,c1,F1,z,I,h4⟩ -;refine(Rp w1 z hF.I hl (by rw[s1];exact hn) (by rw[s2];exact W) (by rw[s1];exact O) (by rw[s2];exact L) (hL.al c1 X)).mono ?_;rintro e w'⟨h5,h6⟩;exact⟨_,h5,h0.symm,rfl,Ap.ba c1 h4 h6⟩
 ·rintro e w'⟨n,rfl,⟨E,z,I⟩|⟨E,z,I⟩⟩
  ·subst z;unfold Ar.aP;rw[Ai E];exact⟨rfl,I⟩
  ·subst z;unfold Ar.aP;rw[Af (by simp[E])];exact⟨rfl,I⟩
def A3c(w:gx)(g:Nat)(h:AD w ab b A P FT)(_hlt:∀k,FT k->k<w.heap.size)(hg:¬FT g)(X:g<w.heap.size)(hb:w.heap[g]?=some (.cells #[.func (Fn.func 150) #[.pointer (some ⟨ab,0,none⟩)] #[],.func (Fn.func 86) #[.pointer (some ⟨b,0,none⟩)] #[]] 50 (0,0)))(hF:Fit P a c m)(hl:CT a (c+a) m)(hn:∀n∈A.ix.sd,CK n)(W:∀n∈A.j.An,CK n)(O:A.ix.sd.length<=1073741824)(L:A.j.An.length<=1073741824)(hL:Lets B w):
 Calls Tryz.prog 117 #[.slice (some ⟨g,0,none⟩) 2 2] w λe w'=>e=.returned (.int .i64 (A.a8 P).1)/\Ap w FT w' (λw' d=>AD w' ab b (A.a8 P).2.1 (A.a8 P).2.2 d):=by
 refine(A1E w g ab b (λn w'=>n=(A.az P).1/\Ap w FT w' (λw' d=>AD w' ab b A (A.az P).2 d)) (λn w'=>(A.az P).1=0/\n=(A.az P).2.aJ.1/\Ap w FT w' (λw' d=>AD w' ab b A (A.az P).2.aJ.2 d)) hb ?_ ?_).mono ?_
 ·refine(Rp w h hF hl hn W O L hL).mono ?_;rintro e w'⟨E,z⟩;exact⟨_,E,⟨rfl,z⟩,z.1.Al g X hg⟩
 ·rintro w1⟨Y,c1,F1,z,I,h4⟩ -;refine(VA z).mono ?_;rintro e w'⟨h5,h6⟩;exact⟨_,h5,Y.symm,rfl,Ap.ba c1 h4 h6⟩
 ·rintro e w'⟨n,rfl,⟨E,z,I⟩|⟨E,z,I⟩⟩
  ·subst z;unfold Ar.a8;rw[Ai E];exact⟨rfl,I⟩
  ·subst z;unfold Ar.a8;rw[Af (by simp[E])];exact⟨rfl,I⟩
end
def Q7(w:gx)(v:gy)(h:gD (gD Pu))(FT:Nat->Prop):Prop:=
 ∃d:gD gy,d.length=h.length/\w.ownsRow 0 97 1 v h.length d/\(∀k (E:k<d.length) (z:k<h.length),B1 w (d[k]'E) (h[k]'z))/\(∀g,v.ownBlock=some g->¬FT g)/\∀x∈d,∀g,x.ownBlock=some g->¬FT g
def Dm(l:gD (gD Pu)):Nat:=(l.map List.length).sum
def Oa(x:gD Pu)(r:gD (gD Pu)):Dm (x::r)=x.length+Dm r:=by simp[Dm]
def Mp(x y:gD (gD Pu)):Dm (x++y)=Dm x+Dm y:=by simp[Dm]
def Rq(l:gD (gD Pu))(k:Nat):Dm (l.take k)<=Dm l:=by
 conv=>rhs;rw[<-E4 k l]
 rw[Mp];omega
def Tp(l:gD Pu)(r:gD (gD Pu))(d:Int)(h:gD Int)(P:PD):PD.aq (l::r) d h P=if (P.aK (d+1) l).1≠0 then ((P.aK (d+1) l).1,d+1,h,(P.aK (d+1) l).2) else
 PD.aq r (d+1) (h++[d+1]) (P.aK (d+1) l).2:=rfl
def Fit.aK{P:PD}{a c m:Nat}(h:Fit P a c m)(n:Int)(l:gD Pu):Fit (P.aK n l).2 (a+1) (c+1) (m+17*l.length+4):=by
 have:=h.aI (AG n) (AI (AG n)) (Cp l);rw[OB]at this;exact this
def Tf{n:Int}(d:0<=n)(h:n<=9223372036854775807):CK n:=by
 refine⟨d,h,?_⟩;rw[MS d,Wh];have e:(10:Nat) ^ 19=10000000000000000000:=by decide
 exact TE 19 _ (by rw[e];omega) (by omega)
section
variable{w:gx}{ab b xb jb B:Nat}{sv ov lv jo:gy}{A:Ar}{P:PD}{Ft FT:Nat->Prop}{a c m:Nat}
def A4g(w:gx)(h:AD w ab b A P FT)(n:Int)(pv:gy)(l:gD Pu)(Y:Fit P a c m)(hl:CT (a+1) (c+1) m)(hn:CK n)(X:Lets B w)(hp:I2 w pv l)(I:∀p∈l,Bm p)(E:l.length<=134217728):
 Ag 151 #[A5 b,A0 n,pv] w λe w'=>
  ((P.aK n l).1≠0/\e=.returned (.tuple #[.pointer none,A0 (P.aK n l).1])\/(P.aK n l).1=0/\∃O,e=.returned (.tuple #[A5 O,A0 0]))/\Ap w FT w' (λw' z=>AD w' ab b A (P.aK n l).2 z):=by
 obtain⟨xb,jb,sv,ov,lv,jo,Ft,d,L⟩:=h;refine(A0i w pv l d.dk d.lt Y hl hn X hp I E).mono ?_;rintro e w'⟨h3,W⟩;exact⟨h3,d.cF L (d.bQ W)⟩
def Fit.cD{A:Ar}{P:PD}{a c m:Nat}(h:Fit P a c m)(l:gD Int):Fit (A.an P l).2.2 (a+2) (c+2) (m+12+8*l.length):=by
 unfold Ar.an;split
 ·exact h.ai (by omega) (by omega) (by omega)
 ·split
  ·exact h.ez _ _
  ·exact h.ez _ _
def A3R(A:Ar)(P:PD)(l:gD Int):((A.an P l).2.1.ix.sd=A.ix.sd\/(A.an P l).2.1.ix.sd=l)/\((A.an P l).2.1.j.An=A.j.An\/(A.an P l).2.1.j.An=[]):=by
 unfold Ar.an;split
 ·exact⟨.inl rfl,.inl rfl⟩
 ·split
  ·exact⟨.inl rfl,.inl rfl⟩
  ·exact⟨.inr rfl,.inr rfl⟩
def AD.dh{n:Nat}{v:gy}{xs:gD gy}(h:AD w ab b A P FT)(d:w.ownsRow 0 3 1 v n xs){g:Nat}(E:v.ownBlock=some g):g≠ab:=by
 obtain⟨xb,jb,sv,ov,lv,jo,Ft,z,h2⟩:=h;have⟨c,hc⟩:=Bb d E;exact BR hc z.Ae (by decide)
def S4(w:gx)(h:AD w ab b A P FT)(bU:∀k,FT k->k<w.heap.size)(kv:gy)(W:gD Int)(aB:DT w kv W)(dC:∀g,kv.ownBlock=some g->¬FT g/\B<=g)(fv:gy)(d:gD (gD Pu))(eK:Q7 w fv d FT)(cM:∀l∈d,(∀p∈l,Bm p)/\l.length<=134217728)(cX:0<=A.Ac/\A.Ac+d.length<=9223372036854775807)(b3:Ay (A.j.Ac+1))(_hkr:∀x∈W,Ay x)(hF:Fit P a c m)(hl:CT (a+d.length+2) (c+2*a+2*d.length+4) (m+17*Dm d+12*d.length+12+8*W.length))(dB:W.length+d.length<=134217728)(hn:∀n∈A.ix.sd,CK n)(bV:∀n∈A.j.An,CK n)(b1:∀n∈W,CK n)(bL:A.ix.sd.length<=1073741824)(bS:A.j.An.length<=1073741824)(hL:Lets B w)(bJ:∀k,FT k->B<=k):
 Ag 107 #[A5 ab,kv,fv] w (Aj (A0 (A.aH P W d).1) λw'=>Ap w (λk=>FT k\/kv.ownBlock=some k) w' (λw' z=>AD w' ab b (A.aH P W d).2.1 (A.aH P W d).2.2 z)):=by
 obtain⟨i0,hi,dW,eM,eC⟩:=Pf;obtain⟨ka,E,rfl,kc1,eH,-⟩:=B8 aB;obtain⟨vs,vl,bN,cI,cU,cC⟩:=eK;obtain⟨fa,b7,rfl,fc1,dO,-⟩:=B8 bN;unfold maxLen at eH dO;have⟨q1,q2,q3⟩:=Zt A P;have b8:CT a (c+a) m:=⟨by have:=hl.a;omega,by have:=hl.c;omega,by have:=hl.m;omega⟩;have bI:=Fit.aP (A:=A) hF;have aQ:A4 Aa w (w.aC #[.func (Fn.func 118) #[A5 ab] #[],.func (Fn.func 150) #[A5 ab] #[]] 50):=(A4.C _ w).aj _;have eB:=A1 (Zu _ w.heap.size (h.ak aQ) (λk hk=>Bn (bU k hk) aQ.Ak) (λhx=>Gs _ (bU _ hx)) (by simp) (Bl w _) hF b8 hn bV bL bS (hL.aL aQ) bJ);have b0:=A1 (S3 A P W d);obtain⟨R,hR⟩:∃R,A.aH P W d=R:=⟨_,rfl⟩;rw[hR]at b0 ⊢;obtain⟨X,hX⟩:∃X,A.aP P=X:=⟨_,rfl⟩;rw[hX]at b0 eB q1 q2 q3 bI;have eA:=A1 aQ;have dN:=A1 <| h.bu.2.2.2.2;have aZ:=A1 bN;have bO:=A1 cI;have dR:=A1 cU;have dL:=A1 cC;have aS:=A1 aB;have a1:=A1 dC;have eD:=A1 hL;have cA:=A1 bJ;have dQ:=A1 cM;have aO:=A1 hl;have b9:=A1 bI;have bC:Hid ((∀n∈A.ix.sd,CK n)/\(∀n∈A.j.An,CK n)/\(∀n∈W,CK n)/\A.ix.sd.length<=1073741824/\A.j.An.length<=1073741824/\Ay (A.j.Ac+1)):=⟨hn,bV,b1,bL,bS,b3⟩;have eE:=A1 <| cX;have cY:=A1 dB;have eN:=A1 vl;have cH:=A1 Tp;have dD:Hid (∀wx bP bY,Ap w FT wx (λw' z=>AD w' ab b bP bY z)->Ap w (λk=>FT k\/(Value.slice ka W.length E).ownBlock=some k) wx (λw' z=>AD w' ab b bP bY z)):=λwx bP bY hx=>hx.aW λk hk=>.inl hk;clear hX hR aQ bU bN cI cU cC aB dC hL bJ cM hl bI hn bV b1 bL bS b3 cX dB h hF b8 _hkr
 go_enter func107,ntmps107
 go_wp2_with (fail);refine eB.k ?_;rintro w1 b4;have a0:=A1 (b4.a1 eA.o);clear eB b4;obtain⟨dS,O,aE⟩:=X;dsimp only at b0 q1 q2 q3 b9 a0;have eZ:=A1 q1;have e1:=A1 q2;have eS:=A1 q3;clear q1 q2 q3;by_cases hx:dS=0
 case neg=>
  have aG:R=(dS,O,aE):=by rw[b0.o,Ai hx]
  subst aG;have hxb:(dS !=0)=true:=by simpa using hx
  go_wp2;go_ret;exact⟨rfl,dD.o _ _ _ a0.o⟩
 case pos=>
 subst hx
 have a4:Hid (R=if (PD.aq d O.Ac W aE).1≠0 then ((PD.aq d O.Ac W aE).1,{O with Ac:=(PD.aq d O.Ac W aE).2.1},(PD.aq d O.Ac W aE).2.2.2) else
  if (({O with Ac:=(PD.aq d O.Ac W aE).2.1}:Ar).an (PD.aq d O.Ac W aE).2.2.2 (PD.aq d O.Ac W aE).2.2.1).1≠0 then
   ({O with Ac:=(PD.aq d O.Ac W aE).2.1}:Ar).an (PD.aq d O.Ac W aE).2.2.2 (PD.aq d O.Ac W aE).2.2.1
  else (({O with Ac:=(PD.aq d O.Ac W aE).2.1}:Ar).an (PD.aq d O.Ac W aE).2.2.2 (PD.aq d O.Ac W aE).2.2.1).2.1.a8
   (({O with Ac:=(PD.aq d O.Ac W aE).2.1}:Ar).an (PD.aq d O.Ac W aE).2.2.2 (PD.aq d O.Ac W aE).2.2.1).2.2):=by unfold Hid;rw[b0.o,Af (by simp)]
 obtain⟨S,hS⟩:∃S,PD.aq d O.Ac W aE=S:=⟨_,rfl⟩;have eQ:=A1 hS;rw[hS]at a4;clear hS b0;have cN:=A1 <| Au aS.o λg hg=>a0.o.1.Al g (Aw aS.o hg) (a1.o g hg).1;go_wp2
 go_loopw [1,24] (λv iv wr=>∃(k:Nat) (I:gD Int) (aF:PD),iv=A0 k/\k<=d.length/\Hid (DT wr v I/\I.length=W.length+k/\(∀g,v.ownBlock=some g->(Value.slice ka W.length E).ownBlock=some g\/w.heap.size<=g)/\(∀x∈I,CK x)/\
  Ap w (λk=>FT k\/(Value.slice ka W.length E).ownBlock=some k) wr (λw' z=>AD w' ab b {O with Ac:=O.Ac+k} aF z/\∀g,v.ownBlock=some g->¬z g)/\Fit aF (a+k) (c+a+k) (m+17*Dm (d.take k)+4*k)/\S=PD.aq (d.drop k) (O.Ac+k) I aF)) (λ_ iv _=>d.length-(intOf iv).toNat)
 ·have⟨c1,aY,r1,l1,s1⟩:=a0.o;refine⟨0,W,aE,rfl,by omega,cN.o,rfl,λg hg=>.inl hg,bC.o.2.2.1,⟨c1.ai λ_ _ h=>.inl h,aY,⟨by simpa using r1,λg hg hx=>?_⟩,l1,λk hk=>(s1 k hk).imp .inl id⟩,by simpa[Dm] using b9.o,by simpa using eQ.o.symm⟩;rcases s1 g hx with h|h
  ·exact(a1.o g hg).1 h
  ·have:=Aw aS.o hg;omega
 ·obtain⟨k,I,aF,rfl,hk,hI⟩:=hrel;have⟨i1,i2,i3,i4,i5,i6,i7⟩:=hI.o;obtain⟨ap,cp,rfl,hcap1,bZ,-⟩:=B8 i1;unfold maxLen at bZ;by_cases aH:k<d.length
  ·(have aB:k<vs.length:=by have:=eN.o;omega);have dF:∀g,(Value.slice fa d.length b7).ownBlock=some g->g<w.heap.size/\¬(FT g\/(Value.slice ka W.length E).ownBlock=some g):=λg hg=>⟨Aw aZ.o hg,λh=>h.elim (dR.o g hg) (IY aZ.o aS.o (by decide) hg)⟩
   obtain⟨c1,aY,⟨r1,aW⟩,l1,s1⟩:=i5;obtain⟨g,rfl⟩:∃g,fa=some (A9 g 0):=by
    obtain⟨a',c',e,-,-,hz,-⟩:=B8 aZ.o;cases e;exact hz (by omega)
   have d0:=Bv aZ.o rfl (Dz aB);have d1:=c1.bJ d0 (dF g rfl).2;have aI:=Au (bO.o k aB aH) λg' hg=>c1.Al g' (Aw (bO.o k aB aH) hg) λh=>h.elim (dL.o _ (BV aB) g' hg) (IY (bO.o k aB aH) aS.o (by decide) hg);have a5:=dQ.o _ (BV aH);have bT:=Dq aH;have bW:=FK aH;have dP:=Rq d (k+1);obtain⟨xv,cV⟩:∃xv,(vs[k]'aB)=xv:=⟨_,rfl⟩;rw[cV]at d0 d1 aI;obtain⟨pl,cP⟩:∃pl,(d[k]'aH)=pl:=⟨_,rfl⟩;rw[cP]at aI a5 bT bW;obtain⟨pa,aP,rfl,pc1,eG,-⟩:=B8 aI;unfold maxLen at eG;obtain⟨L,a6⟩:∃L,O.Ac+(k:Int)=L:=⟨_,rfl⟩;(have hLr:0<=L/\L+1<=9223372036854775807:=by have:=eE.o;rw[<-a6,eS.o];omega);rw[a6]at r1 i7;rw[bW,cH.o]at i7;have⟨e0,e3,z3,hab,hFab⟩:=r1.bu;dsimp only at e3;(have ew:wrap64 (L+1)=L+1:=by unfold wrap64;omega);have ew2:IntKind.i64.wrap (L+1)=L+1:=Eo (by omega);have r5:=r1.gu (L+1);have aT:FT ab\/(Value.slice ka W.length E).ownBlock=some ab:=.inl dN.o;have c5:A4 (λk=>FT k\/(Value.slice ka W.length E).ownBlock=some k) w (wr.sC ab 3 (A0 (L+1))):=c1.bh (p:=(A9 ab 3)) (λ_=>aT) _;have bQ:=r5.ak (A4.C Aa (wr.sC ab 3 (A0 (L+1)))).aa;have a9:∀g',(Value.slice ap I.length cp).ownBlock=some g'->g'≠ab:=λg' hg=>r1.dh i1 hg;have k5:A4 (One ab) wr (wr.sC ab 3 (A0 (L+1))).drew:=((A4.C (One ab) wr).ao (b:=ab) rfl 3 _).aa;have bE:B1 (wr.sC ab 3 (A0 (L+1))).drew (.slice pa pl.length aP) pl:=Au aI λg' hg=>k5.Al g' (Aw aI hg) λe=>by
    obtain⟨xb,jb,sv,ov,lv,jo,Ft,hv,_⟩:=r1;have⟨c',hc'⟩:=Bb aI hg;exact BR hc' hv.Ae (by decide) e
   have a7:DT (wr.sC ab 3 (A0 (L+1))).drew (.slice ap I.length cp) I:=Au i1 λg' hg=>k5.Al g' (Aw i1 hg) (a9 g' hg);have l5:∀k,aY k->k<(wr.sC ab 3 (A0 (L+1))).drew.heap.size:=λk hk=>Bn (l1 k hk) k5.Ak;have cT:∀k,(FT k\/(Value.slice ka W.length E).ownBlock=some k)->B<=k:=λk hk=>hk.elim (cA.o k) λh=>(a1.o k h).2
   have cG:=eD.o.al c5.aa cT;have aU:CT (a+k+1) (c+a+k+1) (m+17*Dm (d.take k)+4*k):=by
    have:=aO.o;have h2:=Rq d k;exact⟨by have:=this.a;omega,by have:=this.c;omega,by have:=this.m;omega⟩
   have aM:=A1 (A4g _ bQ (L+1) _ pl i6 aU (Tf (by omega) (by omega)) cG bE.rd a5.1 a5.2);have bR:=A1 (i6.aK (L+1) pl);obtain⟨Y,hY⟩:∃Y,aF.aK (L+1) pl=Y:=⟨_,rfl⟩;rw[hY]at i7 aM bR;(have dK:Hid (17*Dm (d.take (k+1))+4*(k+1)=17*Dm (d.take k)+4*k+17*pl.length+4):=by unfold Hid;rw[bT,Mp];simp[Dm];omega);have dZ:=A1 a6;have dJ:=A1 i2;have eX:=A1 i3;have eW:=A1 i4;have dI:=A1 i7;have dH:=A1 c5.aa;have eF:Hid (∀k,aY k->(FT k\/(Value.slice ka W.length E).ownBlock=some k)\/w.heap.size<=k):=s1;have cB:=A1 aW;have bM:=A1 a7;(have cL:wr.heap.size=(wr.sC ab 3 (A0 (L+1))).drew.heap.size:=by show _=(wr.setCell _ _).heap.size;simp);have SZ5:=A1 cL;obtain⟨f0,f3,-,-,-⟩:=bQ.bu;dsimp only at f3;(have dV:(k:Int)<(d.length:Int):=by omega);have hk0:=BJ k;clear hI i1 i2 i3 i4 i6 i7 c1 r1 aW l1 s1 d0 aI a5 bT bW dP cV cP a6 r5 c5 bQ a9 k5 bE a7 l5 cT cG aU hY dF aB aT hFab cL;obtain⟨b2,a2⟩:=Y;dsimp only at aM dI bR
   have aD:Hid (∀w6,Ap (wr.sC ab 3 (A0 (L+1))).drew aY w6 (λw' z=>AD w' ab b {O with Ac:=L+1} a2 z)->
    (A8 w6 ab 0 (A5 b)/\A8 w6 ab 3 (A0 (L+1)))/\Ap w (λk=>FT k\/(Value.slice ka W.length E).ownBlock=some k) w6 (λw' z=>AD w' ab b {O with Ac:=L+1} a2 z)):=λw6 h6=>by
    obtain⟨_,cQ,bK,_⟩:=h6;exact⟨⟨bK.bu.1,bK.bu.2.1⟩,Ap.ba dH.o eF.o ⟨‹_›,cQ,bK,‹_›⟩⟩
   by_cases hy:b2=0
   case neg=>
    (have a3:S=(b2,L+1,I,a2):=by rw[dI.o,Ai hy]);(have aG:R=(b2,{O with Ac:=L+1},a2):=by rw[a4.o,a3,Ai hy]);subst aG;have aR:Hid (Ag 151 #[A5 b,A0 (L+1),.slice pa pl.length aP] (wr.sC ab 3 (A0 (L+1))).drew (Aj (.tuple #[.pointer none,A0 b2]) λw'=>Ap (wr.sC ab 3 (A0 (L+1))).drew aY w' (λw' z=>AD w' ab b {O with Ac:=L+1} a2 z))):=by
     refine aM.m ?_;rintro e w'⟨⟨_,h2⟩|⟨h1,_⟩,h3⟩
     ·exact⟨h2,h3⟩
     ·exact absurd h1 hy
    (have hyb:(b2 !=0)=true:=by simpa using hy);clear a3 aM;go_wp2;refine Br (λw'=>A8 w' ab 0 (A5 b)/\A8 w' ab 3 (A0 (L+1))) 14
     (Ba [0,1,2,3,4,5,6,7,8,9,10,11,12,13] [9]) ⟨f0,f3⟩ ?_
    iterate 9 refine B4 ?_
    refine Bf λK hK=>?_;go_simp;refine aR.k ?_;rintro w6 hI;refine hK _ _ (aD.o w6 hI).1 (λhS=>?_);have eV:=A1 (aD.o w6 hI).2;clear hK K hS hI aR aD
    iterate 4 refine B4 ?_
    refine Bo ?_;go_wp2;go_ret;exact⟨rfl,eV.o⟩
   case pos=>
    subst hy;(have eY:Hid (S=PD.aq (d.drop (k+1)) (L+1) (I++[L+1]) a2):=by unfold Hid;rw[dI.o,Af (by simp)]);have aR:Hid (Ag 151 #[A5 b,A0 (L+1),.slice pa pl.length aP] (wr.sC ab 3 (A0 (L+1))).drew λe w'=>∃gb,e=.returned (.tuple #[A5 gb,A0 0])/\Ap (wr.sC ab 3 (A0 (L+1))).drew aY w' (λw' z=>AD w' ab b {O with Ac:=L+1} a2 z)):=by
     refine aM.m ?_;rintro e w'⟨⟨h1,_⟩|⟨_,gb,h2⟩,h3⟩
     ·exact absurd rfl h1
     ·exact⟨gb,h2,h3⟩
    clear aM dI;go_wp2;refine Br (λw'=>A8 w' ab 0 (A5 b)/\A8 w' ab 3 (A0 (L+1))) 14
     (Ba [0,1,2,3,4,5,6,7,8,9,10,11,12,13] [9]) ⟨f0,f3⟩ ?_
    iterate 9 refine B4 ?_
    refine Bf λK hK=>?_;go_simp;refine aR.m ?_;rintro e w6⟨gb,rfl,hI⟩;refine hK _ _ (aD.o w6 hI).1 (λhS=>?_);have g63:=(aD.o w6 hI).1.2;have cD:=A1 hI;clear hK K hS hI aR aD
    iterate 4 refine B4 ?_
    refine Bo ?_;have bH:=A1 cD.o.1;have cZ:Hid (DT w6 (.slice ap I.length cp) I):=Au bM.o λg' hg=>bH.o.Al g' (Aw bM.o hg) (cB.o g' hg);have cS:Hid ((w6.aC #[A0 (L+1)] 3).ownsRow 0 3 1 (.slice ap I.length cp) I.length (E8 I)):=Au cZ.o λg' hg=>((A4.C Aa w6).aj _).Al g' (Aw cZ.o hg) (λh=>h)
    have eI:=A1 (Src.bc (size:=1) (B:=w6.heap.size) Hk w6 #[A0 (L+1)] 3 (by simp) 1 1 rfl (Ko [L+1]));go_wp2_with (at_builtin;refine CU rfl (.tmp 51) (.tmp 56) 26 26 rfl 3 i0 _ 1 8 Hk hi dW eM eC rfl (by decide) (.slice ap I.length cp) I.length (E8 I) (by rfl) cS.o _ 1 _ (by rfl) eI.o (by have:=dJ.o;have:=cY.o;omega) ?_;intro a8 dG w8 hA;have eT:=A1 hA;clear hA);go_roundw
    ·have hA:=eT.o;have k7:A4 Aa w6 (w6.aC #[A0 (L+1)] 3):=(A4.C _ w6).aj _;have aL:=hA.Am (S:=λk=>(Value.slice ap I.length cp).ownBlock=some k) λ_ h=>h;have k8:A4 (λk=>(Value.slice ap I.length cp).ownBlock=some k) w6 w8:=(k7.aT).tr aL;have⟨_,cQ,r2,l2,s2⟩:=cD.o;have bF:∀g',(Value.slice ap I.length cp).ownBlock=some g'->¬cQ g':=λg' hg hx=>by
      rcases s2 g' hx with h|h
      ·exact cB.o g' hg h
      ·have:=Aw bM.o hg;omega
     have r8:AD w8 ab b {O with Ac:=L+1} a2 cQ:=r2.aM (k8.aw l2 λk hk hx=>bF k hx hk) k8.Ak;have bD:∀g',(Value.slice a8 (I.length+1) dG).ownBlock=some g'->(Value.slice ap I.length cp).ownBlock=some g'\/w6.heap.size<=g':=λg' hg=>by
      rcases hA.BY with h|h
      ·rw[h]at hg;exact .inl hg
      ·rw[h]at hg;cases hg;exact .inr k7.Ak
     have eO:A4 (λk=>aY k\/(Value.slice ap I.length cp).ownBlock=some k) (wr.sC ab 3 (A0 (L+1))).drew w8:=(bH.o.ai λ_ _ h=>.inl h).AH k8 λ_ h _=>.inr h;have bB:∀g',(Value.slice ap I.length cp).ownBlock=some g'->(Value.slice ka W.length E).ownBlock=some g'\/w.heap.size<=g':=eX.o;have c8:A4 (λk=>FT k\/(Value.slice ka W.length E).ownBlock=some k) w w8:=dH.o.AH eO λx hx hlt=>by
      rcases hx with hx|hx
      ·exact(eF.o x hx).resolve_right (by omega)
      ·exact .inr ((bB x hx).resolve_right (by omega))
     (have eL:O.Ac+((k+1:Nat):Int)=L+1:=by have:=dZ.o;omega);refine⟨k+1,I++[L+1],a2,by go_num,by omega,?_,by have:=dJ.o;simp;omega,λg' hg=>?_,λx hx=>?_,⟨c8,cQ,⟨by rw[eL];exact r8,λg' hg hx=>?_⟩,λk hk=>Bn (l2 k hk) k8.Ak,λk hk=>?_⟩,?_,by rw[eL];exact eY.o⟩
     ·(have e:(I++[L+1]).length=I.length+1:=by simp);unfold DT;rw[Lv,e];exact hA.AB
     ·rcases bD g' hg with h|h
      ·exact bB g' h
      ·have:=c8.Ak;have:=dH.o.Ak;have:=bH.o.Ak;exact .inr (by omega)
     ·rcases AX.1 hx with hx|hx
      ·exact eW.o x hx
      ·simp at hx;subst hx;exact Tf (by omega) (by omega)
     ·rcases bD g' hg with h|h
      ·exact bF g' h hx
      ·have:=l2 g' hx;omega
     ·rcases s2 k hk with h|h
      ·exact eF.o k h
      ·have:=dH.o.Ak;exact .inr (by omega)
     ·have h1:=bR.o;have h2:=dK.o;exact h1.ai (by omega) (by omega) (by omega)
    ·simp[intOf];omega
  ·(obtain rfl:k=d.length:=by omega);rw[GX]at i7;rw[C5]at i6;have a3:S=(0,O.Ac+(d.length:Int),I,aF):=i7;subst a3;have aN:Hid (R=if (({O with Ac:=O.Ac+(d.length:Int)}:Ar).an aF I).1≠0 then ({O with Ac:=O.Ac+(d.length:Int)}:Ar).an aF I else (({O with Ac:=O.Ac+(d.length:Int)}:Ar).an aF I).2.1.a8 (({O with Ac:=O.Ac+(d.length:Int)}:Ar).an aF I).2.2):=by
    unfold Hid;rw[a4.o,Af (by simp)]
   obtain⟨aX,aL⟩:∃aX:Ar,({O with Ac:=O.Ac+(d.length:Int)}:Ar)=aX:=⟨_,rfl⟩;(have b6:aX.ix=A.ix:=by rw[<-aL];exact eZ.o);(have ej:aX.j=A.j:=by rw[<-aL];exact e1.o);rw[aL]at aN i5;obtain⟨c1,aY,⟨r1,aW⟩,l1,s1⟩:=i5;have⟨n1,n2,n3,n4,n5,n6⟩:=bC.o;have bG:∀k,(FT k\/(Value.slice ka W.length E).ownBlock=some k)->B<=k:=λk hk=>hk.elim (cA.o k) λh=>(a1.o k h).2
   have dA:=eD.o.al c1 bG;have aA:=aO.o;(have bA:I.length<=134217728:=by have:=cY.o;omega);have b5:=A1 (A3L wr r1 (.slice ap I.length cp) I (DT.rd i1) (λg hg=>aW g hg) (by rw[ej];exact n6) (λx hx=>by have:=i4 x hx;exact⟨by have:=this.1;omega,this.2.1⟩) bA i6 ⟨by have:=aA.a;omega,by have:=aA.c;omega,by have:=aA.m;omega⟩ dA);have aV:Hid (Fit (aX.an aF I).2.2 (a+d.length+2) (c+a+d.length+2) (m+17*Dm d+4*d.length+12+8*I.length)):=i6.cD I;have bX:=A3R aX aF I;have aJ:Hid ((∀n∈(aX.an aF I).2.1.ix.sd,CK n)/\(aX.an aF I).2.1.ix.sd.length<=1073741824):=by
    rcases bX.1 with h|h
    ·rw[h,b6];exact⟨n1,n4⟩
    ·rw[h];exact⟨i4,by omega⟩
   have aK:Hid ((∀n∈(aX.an aF I).2.1.j.An,CK n)/\(aX.an aF I).2.1.j.An.length<=1073741824):=by
    rcases bX.2 with h|h
    ·rw[h,ej];exact⟨n2,n5⟩
    ·rw[h];exact⟨λn hn=>by simp at hn,by simp⟩
   obtain⟨T,hT⟩:∃T,aX.an aF I=T:=⟨_,rfl⟩;rw[hT]at aN b5 aV aJ aK;have aD:Hid (∀w2 bP bY,Ap wr (λk=>aY k\/(Value.slice ap I.length cp).ownBlock=some k) w2 (λw' z=>AD w' ab b bP bY z)->Ap w (λk=>FT k\/(Value.slice ka W.length E).ownBlock=some k) w2 (λw' z=>AD w' ab b bP bY z)):=λw2 bP bY h2=>
    Ap.ba c1 (λk hk=>hk.elim (λh=>s1 k h) λh=>(i3 k h).imp (λh=>.inr h) id) h2
   have dU:Hid (∀w2,A4 (λk=>FT k\/(Value.slice ka W.length E).ownBlock=some k) w w2->Lets B w2):=λw2 h2=>eD.o.al h2 bG;have dJ:=A1 i2;(have dV:¬((d.length:Int)<(d.length:Int)):=by omega);obtain⟨eJ,eR,eP⟩:=T;dsimp only at aN b5 aV aJ aK;clear hI i1 i2 i3 i4 i6 i7 aL b6 ej c1 r1 aW l1 s1 n1 n2 n3 n4 n5 n6 bG dA aA bX hT a4 eQ cH bA;by_cases ht:eJ=0
   case neg=>
    (have aG:R=(eJ,eR,eP):=by rw[aN.o,Ai ht]);subst aG;(have htb:(eJ !=0)=true:=by simpa using ht);go_wp2_with (go_at_call 152;refine b5.k ?_;rintro w6 cJ;have dT:=A1 (aD.o w6 _ _ cJ);clear cJ);go_ret;exact⟨rfl,dT.o⟩
   case pos=>
    subst ht;(have aG:R=eR.a8 eP:=by rw[aN.o,Af (by simp)]);have cE:=A1 aG;clear aG aN;go_wp2_with (fail);refine b5.k ?_;rintro w6 dE;have dY:=aD.o w6 _ _ dE;obtain⟨c6,eU,r6,l6,s6⟩:=dY;have k7:A4 Aa w6 (w6.aC #[.func (Fn.func 150) #[A5 ab] #[],.func (Fn.func 86) #[A5 b] #[]] 50):=(A4.C _ w6).aj _;have aA:=aO.o;have dX:=A1 (A3c _ w6.heap.size (r6.ak k7) (λk hk=>Bn (l6 k hk) k7.Ak) (λhx=>Gs _ (l6 _ hx)) (by simp) (Bl w6 _) aV.o ⟨by have:=aA.a;omega,by have:=aA.c;omega,by have:=aA.m;have:=dJ.o;omega⟩ aJ.o.1 aK.o.1 aJ.o.2 aK.o.2 ((dU.o w6 c6).aL k7));rw[<-cE.o]at dX;have g0:=r6.bu.1;have cO:Hid (∀w9,Ap (w6.aC #[.func (Fn.func 150) #[A5 ab] #[],.func (Fn.func 86) #[A5 b] #[]] 50) eU w9 (λw' z=>AD w' ab b R.2.1 R.2.2 z)->Ap w (λk=>FT k\/(Value.slice ka W.length E).ownBlock=some k) w9 (λw' z=>AD w' ab b R.2.1 R.2.2 z)):=λw9 h9=>Ap.ba c6 s6 (h9.a1 k7);clear cE;obtain⟨Z1,Z2,Z3⟩:=R;dsimp only at dX cO ⊢;clear dE c6 r6 l6 s6 k7 aA b5 aD;go_wp2_with (go_at_call 117;refine dX.k ?_;rintro w9 cF;have dM:=A1 (cO.o w9 cF);clear cF);go_ret;exact⟨rfl,dM.o⟩
end
section
variable{w w':gx}{ab b xb jb B:Nat}{sv ov lv jo:gy}{A:Ar}{P P':PD}{Ft FT:Nat->Prop}{a c m:Nat}{J':Jn}
def Ct.jd(h:Ct w ab b xb jb sv ov lv jo A P Ft):JD w jb b A.j P (λk=>Ft k\/Dr jb lv jo k):=
 ⟨lv,jo,Ft,h.jn,h.dk,h.lt,λk d=>h.Dn k (.inr (.inr (.inr (.inr d)))),λ_ h=>h⟩
def Ct.eG(h:Ct w ab b xb jb sv ov lv jo A P Ft)(E:∀k,Ft k\/FM ab xb jb sv ov lv jo k->FT k)(hI:Ap w (λk=>Ft k\/Dr jb lv jo k) w' (λw' O=>JD w' jb b J' P' O)):Ap w FT w' (λw' O=>AD w' ab b {A with j:=J'} P' O):=by
 obtain⟨hc,F2,⟨lv',aA,W,h1,h2,h3,h4,h5⟩,hl,hs⟩:=hI;have z:∀k,(k=ab\/k=xb\/sv.ownBlock=some k\/ov.ownBlock=some k)->k<w.heap.size/\¬Ft k/\¬Dr jb lv jo k:=λk d=>by
  rcases d with rfl|rfl|d|d
  ·exact⟨h.Ae.lt,h.Dn _ (.inl rfl),λL=>(h.G8 _ L).1 rfl⟩
  ·exact⟨h.ix.lt,h.Dn _ (.inr (.inl rfl)),λL=>(h.G8 _ L).2 rfl⟩
  ·exact⟨h.sd.lt d,h.Dn k (.inr (.inr (.inl d))),(h.FP k d).2.2⟩
  ·exact⟨h.AR.lt d,h.Dn k (.inr (.inr (.inr (.inl d)))),(h.Gx k d).2.2⟩
 have keep:∀k,(k=ab\/k=xb\/sv.ownBlock=some k\/ov.ownBlock=some k)->w'.heap[k]?=w.heap[k]?:=λk d=>hc.Al k (z k d).1 λL=>L.elim (z k d).2.1 (z k d).2.2;have out:∀k,(k=ab\/k=xb\/sv.ownBlock=some k\/ov.ownBlock=some k)->¬W k/\¬Dr jb lv' aA k:=λk d=>
  ⟨λL=>(hs k (h5 k (.inl L))).elim (λY=>Y.elim (z k d).2.1 (z k d).2.2) λY=>by have:=(z k d).1;omega,
   λL=>(hs k (h5 k (.inr L))).elim (λY=>Y.elim (z k d).2.1 (z k d).2.2) λY=>by have:=(z k d).1;omega⟩
 have X:Ct w' ab b xb jb sv ov lv' aA {A with j:=J'} P' W:=by
  refine⟨(keep ab (.inl rfl)).trans h.Ae,(keep xb (.inr (.inl rfl))).trans h.ix,h.sd.aM λg I=>keep g (.inr (.inr (.inl I))),h.AR.aM λg I=>keep g (.inr (.inr (.inr I))),h1,h2,h3,λk d=>?_,λg I=>?_,λg I=>?_,λk d=>?_⟩
  ·rcases d with d|d|d|d|d
   ·exact(out k (.inl d)).1
   ·exact(out k (.inr (.inl d))).1
   ·exact(out k (.inr (.inr (.inl d)))).1
   ·exact(out k (.inr (.inr (.inr d)))).1
   ·exact h4 k d
  ·exact⟨(h.FP g I).1,(h.FP g I).2.1,(out g (.inr (.inr (.inl I)))).2⟩
  ·exact⟨(h.Gx g I).1,(h.Gx g I).2.1,(out g (.inr (.inr (.inr I)))).2⟩
  ·exact⟨λe=>(out ab (.inl rfl)).2 (e ▸ d),λe=>(out xb (.inr (.inl rfl))).2 (e ▸ d)⟩
 have sub:∀k,(Ft k\/Dr jb lv jo k)->FT k:=λk d=>d.elim (λh=>E k (.inl h)) λh=>E k (.inr (.inr (.inr (.inr (.inr h)))));refine X.bR hc (λk _ d=>sub k d) (λk d=>(hs k (h5 k (.inl d))).imp (sub k) id) λk d=>?_;rcases d with d|d|d|d|d
 ·exact .inl (E k (.inr (.inl d)))
 ·exact .inl (E k (.inr (.inr (.inl d))))
 ·exact .inl (E k (.inr (.inr (.inr (.inl d)))))
 ·exact .inl (E k (.inr (.inr (.inr (.inr (.inl d))))))
 ·exact(hs k (h5 k (.inr d))).imp (sub k) id
def A3P(w:gx)(p:Pu)(h:AD w ab b A P FT)(aR:∀k,FT k->k<w.heap.size)(hp:Bm p)(hn:A.j.AB=none->CK (A.j.Ac+1)/\Ay (A.j.Ac+1)/\Ay A.j.pd)(aQ:A.j.An.length<=1073741824)(hL:Lets B w)(aI:∀k,FT k->B<=k)(hF:Fit P a c m)(hl:CT (a+1) (c+1) (m+33)):
 Ag 105 #[A5 ab,DK p] w (Aj (.tuple #[.bool (A.af P p).1,A0 (A.af P p).2.1]) λw'=>Ap w FT w' (λw' I=>AD w' ab b (A.af P p).2.2.1 (A.af P p).2.2.2 I)):=by
 obtain⟨E,z,d⟩:=p;unfold DK;dsimp only
 have⟨s1,s2,s3⟩:=Od A P;have aP:Ce (w.aC #[A0 E,A0 z,A0 d] 113) w.heap.size E z d:=Bl w _;have k0:A4 Aa w (w.aC #[A0 E,A0 z,A0 d] 113):=(A4.C _ w).aj _;have ST:=A1 (RD _ (h.ak k0))
 have aH:Hid (A.af P (E,z,d)=if (A.I P).1≠0 then (false,(A.I P).1,(A.I P).2.1,(A.I P).2.2) else
  (((A.I P).2.1.j.af (A.I P).2.2 (E,z,d)).1,((A.I P).2.1.j.af (A.I P).2.2 (E,z,d)).2.1,{ (A.I P).2.1 with j:=((A.I P).2.1.j.af (A.I P).2.2 (E,z,d)).2.2.1},((A.I P).2.1.j.af (A.I P).2.2 (E,z,d)).2.2.2)):=rfl
 have aE:=hF.I (A:=A);generalize hR:A.af P (E,z,d)=R at aH ⊢;generalize hX:A.I P=X at aH ST s1 s2 s3 aE;obtain⟨aJ,O,aB⟩:=X;dsimp only at aH ST s1 s2 s3 aE;have sz:w.heap.size<(w.aC #[A0 E,A0 z,A0 d] 113).heap.size:=by simp
 have aM:Hid (∀w2,Ap (w.aC #[A0 E,A0 z,A0 d] 113) FT w2 (λw' I=>AD w' ab b O aB I)->∃jb,A8 w2 ab 2 (A5 jb)/\Ce w2 w.heap.size E z d/\
  Ag 148 #[A5 jb,.agg #[A0 E,A0 z,A0 d]] w2.drew (Aj (.tuple #[.bool (O.j.af aB (E,z,d)).1,A0 (O.j.af aB (E,z,d)).2.1]) λw'=>
   (A8 w' ab 2 (A5 jb)/\Ce w' w.heap.size E z d)/\Ap w FT w' (λw' I=>AD w' ab b {O with j:=(O.j.af aB (E,z,d)).2.2.1} (O.j.af aB (E,z,d)).2.2.2 I))):=λw2 h2=>by
  obtain⟨c2,aU,⟨xb,jb,sv,ov,lv,jo,Ft,hv,aA⟩,l2,q2⟩:=h2;have kd:A4 Aa w2 w2.drew:=(A4.C _ w2).aa;have aG:=hv.ak kd;have np:¬FT w.heap.size:=λL=>Gs _ (aR _ L);have aT:¬aU w.heap.size:=λL=>by rcases q2 _ L with h|h;exact np h;omega
  have W:=aP.al c2 np;refine⟨jb,hv.Ae.c2,W,(A08 w2.drew (E,z,d) aG.jd hp (by rw[s2];exact hn) (by rw[s2];exact aQ) (((hL.aL k0).al c2 aI).aL kd) aE hl).mono ?_⟩;rintro e w'⟨rfl,hI⟩;have aF:∀k,(Ft k\/Dr jb lv jo k)->aU k:=λk hk=>hk.elim (λh=>aA k (.inl h)) λh=>aA k (.inr (.inr (.inr (.inr (.inr h)))));refine⟨rfl,⟨(aG.Ae.al hI.1 λL=>L.elim (hv.Dn _ (.inl rfl)) λL=>(hv.G8 _ L).1 rfl).c2,W.aa.al hI.1 λL=>aT (aF _ L)⟩,?_⟩;exact((Ap.ba (c2.aa) q2 (aG.eG aA hI)).a1 k0)
 have aK:Hid (∀wx aL aS,Ap (w.aC #[A0 E,A0 z,A0 d] 113) FT wx (λw' I=>AD w' ab b aL aS I)->Ap w FT wx (λw' I=>AD w' ab b aL aS I)):=λwx aL aS L=>L.a1 k0;by_cases L:aJ=0
 case neg=>
  have aD:R=(false,aJ,O,aB):=by rw[aH.o,Ai L]
  subst aD;have hxb:(aJ !=0)=true:=by simpa using L
  go_enter func105,ntmps105
  go_wp2_with (go_at_call 118;refine ST.k ?_;rintro w2 hI;have aN:=A1 (aK.o _ _ _ hI));go_ret2;exact⟨rfl,aN.o⟩
 case pos=>
  subst L;have aD:R=((O.j.af aB (E,z,d)).1,(O.j.af aB (E,z,d)).2.1,{O with j:=(O.j.af aB (E,z,d)).2.2.1},(O.j.af aB (E,z,d)).2.2.2):=by rw[aH.o,Af (by simp)]
  generalize hY:O.j.af aB (E,z,d)=Y at aM aD;obtain⟨Y0,Y1,Y2,Y3⟩:=Y;dsimp only at aM aD;subst aD
  go_enter func105,ntmps105
  go_wp2_with (fail);refine ST.k ?_;rintro w2 hI;have⟨jb,c22,W,AL⟩:=aM.o w2 hI;have aO:=A1 AL;have d2:A8 w2.drew ab 2 (A5 jb):=c22;have e0:=W.aa.c0;have e1:=W.aa.c1;have e2:=W.aa.c2;go_wp2;refine Br (λw'=>A8 w' ab 2 (A5 jb)/\A8 w' w.heap.size 0 (A0 E)/\A8 w' w.heap.size 1 (A0 z)/\A8 w' w.heap.size 2 (A0 d)) 8
   (Ba [0,1,2,3,4,5,6,7] [5]) ⟨d2,e0,e1,e2⟩ ?_
  iterate 5 refine B4 ?_
  refine Bf λK hK=>?_;go_simp;refine aO.k ?_;rintro w3⟨⟨e4,eb⟩,hI⟩;refine hK _ _ ⟨e4,eb.c0,eb.c1,eb.c2⟩ (λhS=>?_);have aN:=A1 hI
  iterate 2 refine B4 ?_
  refine Bo ?_;go_wp2;go_ret2;exact⟨rfl,aN.o⟩
def Xm(w:gx)(g:Nat)(h:AD w ab b A P FT)(hg:¬FT g)(X:g<w.heap.size)(Y:w.cell? ⟨ab,2,none⟩=some (.pointer (some ⟨jb,0,none⟩)))(hb:w.heap[g]?=some (.cells #[.func (Fn.func 118) #[.pointer (some ⟨ab,0,none⟩)] #[],.func (Fn.func 119) #[.pointer (some ⟨jb,0,none⟩)] #[],.func (Fn.func 86) #[.pointer (some ⟨b,0,none⟩)] #[]] 50 (0,0))):
 Calls Tryz.prog 117 #[.slice (some ⟨g,0,none⟩) 3 3] w λe w'=>e=.returned (.int .i64 (A.ad P).1)/\Ap w FT w' (λw' d=>AD w' ab b (A.ad P).2.1 (A.ad P).2.2 d):=by
 refine(A1G w g ab jb b (λn w'=>n=(A.I P).1/\Ap w FT w' (λw' d=>AD w' ab b (A.I P).2.1 (A.I P).2.2 d)/\w'.cell? ⟨ab,2,none⟩=w.cell? ⟨ab,2,none⟩)
  (λn w'=>(A.I P).1=0/\n=((A.I P).2.1.j.ad (A.I P).2.2).1/\Ap w FT w' (λw' d=>AD w' ab b (A.I P).2.1 ((A.I P).2.1.j.ad (A.I P).2.2).2 d))
  (λn w'=>(A.I P).1=0/\((A.I P).2.1.j.ad (A.I P).2.2).1=0/\n=((A.I P).2.1.j.ad (A.I P).2.2).2.aJ.1/\Ap w FT w' (λw' d=>AD w' ab b (A.I P).2.1 ((A.I P).2.1.j.ad (A.I P).2.2).2.aJ.2 d)) hb ?_ ?_ ?_).mono ?_
 ·refine(RC w h).mono ?_;rintro e w'⟨L,z,E⟩;exact⟨_,L,⟨rfl,z,E⟩,z.1.Al g X hg⟩
 ·rintro w1⟨h0,⟨c1,aD,⟨xb,aA,sv,ov,lv,jo,Ft,hv,W⟩,E,I⟩,hc⟩ hk;have e:aA=jb:=by have:=hv.Ae.c2.symm.trans (hc.trans Y);simpa using this
  subst e;refine(A06 w1 hv.jd).mono ?_;rintro e w'⟨O,h6⟩;have hI:=Ap.ba c1 I (hv.eG W h6);exact⟨_,O,⟨h0.symm,rfl,hI⟩,hI.1.Al g X hg⟩
 ·rintro w1⟨h0,aB,c1,aD,z,E,I⟩ -;refine(VA z).mono ?_;rintro e w'⟨O,h6⟩;exact⟨_,O,h0,aB.symm,rfl,Ap.ba c1 I h6⟩
 ·rintro e w'⟨n,rfl,⟨L,z,E,_⟩|⟨L,z,E,I⟩|⟨z,E,I,O⟩⟩
  ·subst z;unfold Ar.ad;rw[Ai L];exact⟨rfl,E⟩
  ·subst E;unfold Ar.ad;rw[Af (by simp[z]),Ai L];exact⟨rfl,I⟩
  ·subst I;unfold Ar.ad;rw[Af (by simp[z]),Af (by simp[E])];exact⟨rfl,O⟩
def A3M(w:gx)(h:AD w ab b A P FT)(O:∀k,FT k->k<w.heap.size):
 Ag 74 #[A5 ab] w (Aj (A0 (A.ad P).1) λw'=>Ap w FT w' (λw' d=>AD w' ab b (A.ad P).2.1 (A.ad P).2.2 d)):=by
 obtain⟨jb,c2⟩:∃jb,A8 w ab 2 (A5 jb):=by
  obtain⟨xb,jb,sv,ov,lv,jo,Ft,hv,_⟩:=h;exact⟨jb,hv.Ae.c2⟩
 have c0:=h.bu.1;have z:A4 Aa w (w.aC #[.func (Fn.func 118) #[A5 ab] #[],.func (Fn.func 119) #[A5 jb] #[],.func (Fn.func 86) #[A5 b] #[]] 50).drew:=((A4.C _ w).aj _).aa;have L:=A1 (Xm _ w.heap.size (h.ak z) (λX=>Gs _ (O _ X)) (by show w.heap.size<(w.alloc _).heap.size;simp) (z.ah c2) (Bl w _));have aB:=A1 z;have d0:A8 w.drew ab 0 (A5 b):=c0;have d2:A8 w.drew ab 2 (A5 jb):=c2;have e0:=z.ah c0;have e2:=z.ah c2;have E:Hid (∀w' W Y,Ap (w.aC #[.func (Fn.func 118) #[A5 ab] #[],.func (Fn.func 119) #[A5 jb] #[],.func (Fn.func 86) #[A5 b] #[]] 50).drew FT w' (λw' d=>AD w' ab b W Y d)->Ap w FT w' (λw' d=>AD w' ab b W Y d)/\A8 w' ab 0 (A5 b)):=λw' W Y X=>by
  obtain⟨c,F,r,l,s⟩:=X;exact⟨Ap.a1 ⟨c,F,r,l,s⟩ aB.o,r.bu.1⟩
 generalize hR:A.ad P=R at L ⊢;obtain⟨R1,R2,R3⟩:=R;dsimp only at L ⊢
 go_enter func74,ntmps74
 go_wp2;refine Br (λw'=>A8 w' ab 0 (A5 b)/\A8 w' ab 2 (A5 jb)) 13
  (Ba [0,1,2,3,4,5,6,7,8,9,10,11,12] [12]) ⟨d0,d2⟩ ?_
 iterate 12 refine B4 ?_
 refine Bf λK hK=>?_;go_simp;refine hK _ _ ⟨e0,e2⟩ (λhS=>?_);refine Bo ?_;go_wp2_with (go_at_call 117;refine L.k ?_;rintro w6 aA;have I:=A1 (E.o _ _ _ aA).1);go_ret;exact⟨rfl,I.o⟩
end
def Hh(len:Int)(p q:Pu):Int:=Kh (Cr (BH p.2.1 len) (BH q.2.1 len)) (Cw p q)
def PY{x y:Int}:Cr x y<0↔x<y:=by
 unfold Cr;split
 ·simp_all
 ·split<;>simp_all
def Na{x y:Int}:Cr x y=0↔x=y:=by
 unfold Cr;split
 ·constructor<;>intro h<;>omega
 ·split
  ·constructor<;>intro h<;>omega
  ·constructor<;>intro h<;>omega
def A3a{p q:Pu}:Cw p q<0↔(p.1<q.1\/p.1=q.1/\p.2.1<q.2.1):=by
 unfold Cw;by_cases h:Cr p.1 q.1=0
 ·rw[Af (by simpa using h),PY];have:=Na.1 h;constructor
  ·exact λd=>.inr ⟨this,d⟩
  ·rintro (d|⟨_,d⟩)
   ·omega
   ·exact d
 ·rw[Ai h,PY];have:¬p.1=q.1:=λe=>h (Na.2 e);constructor
  ·exact λd=>.inl d
  ·rintro (d|⟨d,_⟩)
   ·exact d
   ·exact absurd d this
def N8{len:Int}{p q:Pu}:Hh len p q<0↔AE len p q=true:=by
 unfold Hh Kh AE;rw[decide_eq_true_iff];by_cases h:Cr (BH p.2.1 len) (BH q.2.1 len)=0
 ·rw[Af (by simpa using h),A3a];have:=Na.1 h;constructor
  ·exact λd=>.inr ⟨this,d⟩
  ·rintro (d|⟨_,d⟩)
   ·omega
   ·exact d
 ·rw[Ai h,PY];have:¬BH p.2.1 len=BH q.2.1 len:=λe=>h (Na.2 e);constructor
  ·exact λd=>.inl d
  ·rintro (d|⟨d,_⟩)
   ·exact d
   ·exact absurd d this
def Ga(len:Int):BZ (AE len):=by
 refine⟨λx=>?_,λx y z=>?_,λx y z=>?_⟩
 ·unfold AE;simp
 ·unfold AE;simp only[E2];omega
 ·unfold AE;simp only[E2];omega
def A27(len:Int)(p q:Pu):Hh len p q = -1\/Hh len p q=0\/Hh len p q=1:=by
 unfold Hh Kh;split
 ·exact PW _ _
 ·exact V4 _ _
def N9(w:gx)(wb:Nat)(len:Int)(p q:Pu)(hp:Ay p.2.1)(hq:Ay q.2.1)(hl:1<=len/\len<=4611686018427387904)(hw:A8 w wb 0 (A0 len)):
 Ag 155 #[DK p,DK q,A5 wb] w (Aj (A0 (Hh len p q)) λw'=>A4 Aa w w'):=by
 obtain⟨X,z,I⟩:=p;obtain⟨L,E,W⟩:=q;unfold Hh DK;dsimp only at hp hq ⊢;have aN:=A1 (PU);have OR:=A1 (T8);have aK:=A1 (λd t (ht:Ay t)=>NX d t len ht hl);have aE:=A1 (λd=>OC d (X,z,I) (L,E,W));unfold DK at aE;dsimp only at aE;obtain⟨x,hx⟩:∃x,BH z len=x:=⟨_,rfl⟩;obtain⟨y,hy⟩:∃y,BH E len=y:=⟨_,rfl⟩;have aD:=A1 (λd=>aK.o d z hp);have aA:=A1 (λd=>aK.o d E hq);rw[hx]at aD;rw[hy]at aA;rw[hx,hy];obtain⟨r,hr⟩:∃r,Cr x y=r:=⟨_,rfl⟩;obtain⟨s,hs⟩:∃s,Cw (X,z,I) (L,E,W)=s:=⟨_,rfl⟩;have aB:=A1 (λd=>aN.o d x y);rw[hr]at aB;rw[hs]at aE;rw[hr,hs];have b1:Ce ((w.alloc (.cells #[A0 X,A0 z,A0 I] 113)).alloc (.cells #[A0 L,A0 E,A0 W] 113)) w.heap.size X z I:=(CY _ _ _ (by simp)).trans (Bl w _);have b2:Ce ((w.alloc (.cells #[A0 X,A0 z,A0 I] 113)).alloc (.cells #[A0 L,A0 E,A0 W] 113)) (w.heap.size+1) L E W:=by
  have:=Bl (w.alloc (.cells #[A0 X,A0 z,A0 I] 113)) (.cells #[A0 L,A0 E,A0 W] 113);simpa[Ce] using this
 have k2:A4 Aa w ((w.alloc (.cells #[A0 X,A0 z,A0 I] 113)).alloc (.cells #[A0 L,A0 E,A0 W] 113)):=((A4.C _ w).aj _).aj _;have sz:((w.alloc (.cells #[A0 X,A0 z,A0 I] 113)).alloc (.cells #[A0 L,A0 E,A0 W] 113)).heap.size=w.heap.size+2:=by simp
 have aL:=A1 b1;have aH:=A1 b2;have aI:=A1 k2;have aO:=A1 sz;have aM:=A1 (k2.ah hw)
 go_enter func155,ntmps155
 go_wp2;generalize ((w.alloc (.cells #[A0 X,A0 z,A0 I] 113)).alloc (.cells #[A0 L,A0 E,A0 W] 113))=w2 at aL aH aI aO aM ⊢;have aF:Hid (∀d,A4 Aa w2 d->A8 d w.heap.size 0 (A0 X)/\A8 d w.heap.size 1 (A0 z)/\A8 d w.heap.size 2 (A0 I)/\A8 d (w.heap.size+1) 0 (A0 L)/\A8 d (w.heap.size+1) 1 (A0 E)/\A8 d (w.heap.size+1) 2 (A0 W)/\A8 d wb 0 (A0 len)):=λd hx=>by
  have e1:=aL.o.al hx (λh=>h);have e2:=aH.o.al hx (λh=>h);exact⟨e1.c0,e1.c1,e1.c2,e2.c0,e2.c1,e2.c2,hx.ah aM.o⟩
 have Y:=aF.o w2.drew (A4.C _ w2).aa;refine Br (λw'=>A8 w' w.heap.size 0 (A0 X)/\A8 w' w.heap.size 1 (A0 z)/\A8 w' w.heap.size 2 (A0 I)/\A8 w' (w.heap.size+1) 0 (A0 L)/\A8 w' (w.heap.size+1) 1 (A0 E)/\A8 w' (w.heap.size+1) 2 (A0 W)/\A8 w' wb 0 (A0 len)) 16
  (Ba [0,1,2,3,5,6,7,8,11,12,4,9,10,13,14,15] [4,9,10,13,14,15]) Y ?_
 iterate 10 refine B4 ?_
 refine Bf λK O=>?_;go_simp;refine(aD.o _).k ?_;rintro w3 rfl;refine O _ _ Y (λhS=>?_);refine Bf λK O=>?_;go_simp;refine(aA.o _).k ?_;rintro w3 rfl;refine O _ _ Y (λhS=>?_);refine Bf λK O=>?_;go_simp;refine(aB.o _).k ?_;rintro w3 rfl;refine O _ _ Y (λhS=>?_);refine Bf λK O=>?_;go_simp;refine(aE.o _).k ?_;rintro w4 aG;have k4:A4 Aa w2 w4:=((A4.C Aa w2).aa).tr aG;refine O _ _ (aF.o w4 k4) (λhS=>?_);have aP:=A1 k4;refine Bf λK O=>?_;go_simp;have hb:(w4.alloc (.cells #[A0 r,A0 s] 3)).heap[w4.heap.size]?=some (.cells #[A0 r,A0 s] 3):=Bl w4 _;have k5:A4 Aa w2 (w4.alloc (.cells #[A0 r,A0 s] 3)):=aP.o.aj _;refine O _ _ (aF.o _ k5) (λhS=>?_);have aJ:=A1 k5;have EP:=A1 (OR.o (w4.alloc (.cells #[A0 r,A0 s] 3)) w4.heap.size r s (by simp only[A8,World.cell?,hb];rfl) (by simp only[A8,World.cell?,hb];rfl));refine Bf λK O=>?_;go_simp;refine EP.k ?_;rintro w5 rfl;refine O _ _ (aF.o _ aJ.o) (λhS=>?_);refine Bo ?_;go_wp2;go_ret;exact⟨rfl,aI.o.tr aJ.o⟩
end
section
open Go
section
variable{P:Program}{ops:Array Oper}{md:Region.Mode}{Q:Exit->Act->gx->Prop}
def SB(aA:Nat)(S:gx->Prop)(d:Array Bool)(w:gx):Prop:=d.getD aA false=true\/S w
def SB.bx{aA i:Nat}{S:gx->Prop}{d:Array Bool}{w:gx}(h:i≠aA):SB aA S (d.setIfInBounds i true) w↔SB aA S d w:=by
 unfold SB;have:(d.setIfInBounds i true).getD aA false=d.getD aA false:=by simp[Array.getD_eq_getD_getElem?,Array.getElem?_setIfInBounds_ne h]
 rw[this]
def wpAnyL(P:Program)(md:Region.Mode)(ops:Array Oper)(Q:Exit->Act->gx->Prop)(S:Array Bool->gx->Prop)(n:Nat)(L:Array Bool->Act->gx->Prop):Nat->Array Bool->Act->gx->Prop
 | 0,lf,a,w=>L lf a w
 | f+1,lf,a,w=>Region.ready md ops lf≠[]/\∀i∈Region.ready md ops lf,i<n/\wpOp P ops Q i (λa' w'=>S (lf.setIfInBounds i true) w'/\wpAnyL P md ops Q S n L f (lf.setIfInBounds i true) a' w') a w
def QP{S:Array Bool->gx->Prop}{n g:Nat}{L:Array Bool->Act->gx->Prop}(z:∀d a w,L d a w->wpAny P md ops Q g d a w):
 ∀(f:Nat) (d:Array Bool) (a:Act) (w:gx),wpAnyL P md ops Q S n L f d a w->wpAny P md ops Q (f+g) d a w
 | 0,d,a,w,h=>by rw[Ha];exact z _ _ _ h
 | f+1,d,a,w,h=>by
  rw[show f+1+g=(f+g)+1 from by omega];exact⟨λI=>absurd I h.1,λi O=>KW (λa' w' E=>QP z f _ a' w' E.2) (h.2 i O).2⟩
def wpAnyL_first{aJ:gx->Prop}{aN:gx->Prop}{aA n i:Nat}{oi:Oper}{v:gy}{L:Array Bool->Act->gx->Prop}(aD:i≠aA)(hi:ops[i]?=some oi)(aB:∀(j:Nat) (o:Oper) cs b,ops[j]?=some o->o.op≠.select cs b)(hQ:∀c a w,Q (.panic c) (a.put oi.dst v) w->Q (.panic c) a w)(hs:Region.sinkB md ops n=true)(hc:Region.chainB md ops n=true)(hn:n<ops.size)(aI:i<n)(aF:∀z w,HeadInv md ops n z->i∈Region.ready md ops z->SB aA aJ z w->aN w)(aE:∀z a w,L z a w->∀j∈Region.ready md ops z,n<=j):
 ∀(f:Nat) (z:Array Bool) (a:Act) (w:gx),HeadInv md ops n z->
  (∀j oj,ops[j]?=some oj->j≠i->z.getD j true=false->(∀e∈oj.after,Region.binds md e=true->e.on≠i)->oi.apart ops oj=true)->
  i∈Region.ready md ops z->YieldsIf P ops aN oi v a->SB aA aJ z w->
  wpAnyL P md ops Q (SB aA aJ) n L f (z.setIfInBounds i true) (a.put oi.dst v) w->wpAnyL P md ops Q (SB aA aJ) n L (f+1) z a w:=by
 intro f
 induction f with
 | zero=>
  intro z a w I _ W hy hS H;have E:=(IM.1 W).1;refine⟨λh=>(by rw[h]at W;cases W),λj hj=>?_⟩;have Y:j<n:=by
   rcases F9 j n with h|h
   ·exact h
   ·exact absurd hj (Mn hs hc hn I _ i rfl aI E j h)
  refine⟨Y,?_⟩;by_cases d:j=i
  ·subst d;exact hy.wpOp hi (aF _ _ I W hS) ⟨(SB.bx aD).2 hS,H⟩
  ·have:=aE _ _ _ H j (L9 hj d);omega
 | succ f ih=>
  intro z a w I O W hy hS H;have E:=(IM.1 W).1;refine⟨λh=>(by rw[h]at W;cases W),λj hj=>?_⟩;have Y:j<n:=by
   rcases F9 j n with h|h
   ·exact h
   ·exact absurd hj (Mn hs hc hn I _ i rfl aI E j h)
  refine⟨Y,?_⟩;by_cases d:j=i
  ·subst d;exact hy.wpOp hi (aF _ _ I W hS) ⟨(SB.bx aD).2 hS,H⟩
  ·have h1:=(H.2 j (L9 hj d)).2;have⟨hjun,oj,hoj,hall⟩:=IM.1 hj;have aH:∀e∈oj.after,Region.binds md e=true->e.on≠i:=λe he hb aM=>by
    have h1:=hall e he hb;rw[aM,getD_both E]at h1;cases h1
   have h2:=wpOp_putIf hoj (O j oj hoj d hjun aH) (λcs b=>aB i oi cs b hi) (λcs b=>aB j oj cs b hoj) hQ hy h1;have X:∀k ok,ops[k]?=some ok->k≠i->(z.setIfInBounds j true).getD k true=false->
    (∀e∈ok.after,Region.binds md e=true->e.on≠i)->oi.apart ops ok=true:=λk ok hk aL E aK=>by
    refine O k ok hk aL ?_ aK;by_cases aG:j=k
    ·subst aG;exact hjun
    ·rw[MW true aG]at E;exact E
   refine KW (λa' w' h3=>?_) h2;have h4:=h3.2.1;rw[Wp _ _ (Qd d)]at h4;have h5:=(SB.bx aD).1 h4;refine⟨h5,ih (z.setIfInBounds j true) a' w' (I.set hj Y) X (L9 W (Qd d)) h3.1 h5 ?_⟩;rw[Wp _ _ d];exact h3.2.2
def Fb(P:Program)(ops:Array Oper)(Q:Exit->Act->gx->Prop)(aA:Nat)(S:gx->Prop)(T:Act->gx->Prop):gD (Nat×Nat)->Act->gx->Prop
 | [],a,w=>T a w
 | (i,0):: r,a,w=>wpOp P ops Q i (λa' w'=>(i=aA\/S w')/\Fb P ops Q aA S T r a' w') a w
 | (i,1):: r,a,w=>∃o v,ops[i]?=some o/\YieldsIf P ops S o v a/\Fb P ops Q aA S T r (a.put o.dst v) w
 | (i,_+2):: r,a,w=>∃o v,ops[i]?=some o/\YieldsIf P ops (λ_=>True) o v a/\Fb P ops Q aA S T r (a.put o.dst v) w
def NY(md:Region.Mode)(ops:Array Oper)(aA i:Nat):Bool:=match ops[aA]? with
 | some o=>o.after.any λe=>Region.binds md e&&decide (e.on=i)
 | none=>false
def ID(md:Region.Mode)(ops:Array Oper)(aA n:Nat):gD (Nat×Nat)->Array Bool->Bool
 | [],lf=>Region.seqB md ops (ops.size-n) n lf
 | (i,0):: r,lf=>decide (i<n)&&decide (Region.ready md ops lf=[i])&&ID md ops aA n r (lf.setIfInBounds i true)
 | (i,1):: r,lf=>decide (i<n)&&((Region.ready md ops lf).contains i&&Region.free md ops lf i)&&(decide (i≠aA)&&NY md ops aA i)&&ID md ops aA n r (lf.setIfInBounds i true)
 | (i,_+2):: r,lf=>decide (i<n)&&((Region.ready md ops lf).contains i&&Region.free md ops lf i)&&decide (i≠aA)&&ID md ops aA n r (lf.setIfInBounds i true)
def Oh(ops:Array Oper)(aA n:Nat)(d:gD (Nat×Nat)):Bool:=
 Region.noSelect ops&&decide (n<ops.size)&&decide (d.length=n)&&Region.sinkB .any ops n&&Region.chainB .any ops n&&ID .any ops aA n d (Array.replicate ops.size false)
def WW{aA i n:Nat}{S:gx->Prop}{E:Array Bool}{w:gx}(h:NY md ops aA i=true)(z:HeadInv md ops n E)(I:i∈Region.ready md ops E)(d:SB aA S E w):S w:=by
 rcases d with L|d
 ·unfold NY at h;cases ho:ops[aA]? with
  | none=>rw[ho]at h;cases h
  | some o=>
   rw[ho]at h;have⟨e,he,h2⟩:=Array.any_eq_true'.1 h;simp only[G3,E2]at h2;have:=z.closed aA o ho L e he h2.1;rw[h2.2,getD_both (IM.1 I).1]at this;cases this
 ·exact d
def Mk{aA n:Nat}{S:gx->Prop}{T:Act->gx->Prop}(z:Region.noSelect ops=true)(hs:Region.sinkB md ops n=true)(hc:Region.chainB md ops n=true)(hn:n<ops.size)(hQ:∀c a t v w,Q (.panic c) (Act.put a (some t) v) w->Q (.panic c) a w):
 ∀(aD:gD (Nat×Nat)) (L:Array Bool) (a:Act) (w:gx),HeadInv md ops n L->ID md ops aA n aD L=true->SB aA S L w->Fb P ops Q aA S T aD a w->
 wpAnyL P md ops Q (SB aA S) n (λaB a' w'=>Region.seqB md ops (ops.size-n) n aB=true/\T a' w') aD.length L a w
 | [],L,a,w,_,hB,_,h=>⟨hB,h⟩
 | (i,0):: r,L,a,w,d,hB,Y,h=>by
  simp only[ID,G3,E2]at hB;obtain⟨⟨E,X⟩,W⟩:=hB;refine⟨by rw[X];simp,λj hj=>?_⟩;have I:i∈Region.ready md ops L:=by rw[X];simp
  rw[X]at hj;have:j=i:=by simpa using hj
  subst this;refine⟨E,KW (λa' w' h'=>?_) h⟩;have aE:SB aA S (L.setIfInBounds j true) w':=by
   rcases h'.1 with rfl|h1
   ·refine .inl ?_;(have:j<L.size:=by rw[d.size];omega);simp[this]
   ·exact .inr h1
  exact⟨aE,Mk z hs hc hn hQ r _ a' w' (d.set I E) W aE h'.2⟩
 | (i,1):: r,L,a,w,d,hB,Y,h=>by
  simp only[ID,G3,E2]at hB;obtain⟨⟨⟨E,X,hf⟩,O,aF⟩,W⟩:=hB;obtain⟨o,v,h0,hy,hK⟩:=h;have I:i∈Region.ready md ops L:=by simpa using X
  exact wpAnyL_first O h0 (VD z) (λc a w=>by cases o.dst with|none=>exact id|some t=>exact hQ c a t v w) hs hc hn E (λl w d X Y=>WW aF d X Y) (λaB a' w' hL=>RE hL.1) r.length L a w d (VE h0 hf) I hy Y
   (Mk z hs hc hn hQ r _ _ w (d.set I E) W ((SB.bx O).2 Y) hK)
 | (i,k+2):: r,L,a,w,d,hB,Y,h=>by
  simp only[ID,G3,E2]at hB;obtain⟨⟨⟨E,X,hf⟩,O⟩,W⟩:=hB;obtain⟨o,v,h0,hy,hK⟩:=h;have I:i∈Region.ready md ops L:=by simpa using X
  exact wpAnyL_first O h0 (VD z) (λc a w=>by cases o.dst with|none=>exact id|some t=>exact hQ c a t v w) hs hc hn E (λ_ _ _ _ _=>trivial) (λaB a' w' hL=>RE hL.1) r.length L a w d (VE h0 hf) I hy Y
   (Mk z hs hc hn hQ r _ _ w (d.set I E) W ((SB.bx O).2 Y) hK)
end
section
variable{P:Program}{ops:Array Oper}{Q:Exit->Act->gx->Prop}{aA:Nat}{S:gx->Prop}{T:Act->gx->Prop}
def Wz{id:Nat}{a:Act}{w:gx}{l:gD Oper}(aA:Nat)(S:gx->Prop)(n:Nat)(d:gD (Nat×Nat))(hm:P.follows .mixedOrders=true)(O:Oh l.toArray aA n d=true)(X:∀c a t v w,Q (.panic c) (Act.put a (some t) v) w->Q (.panic c) a w)(hS:S w.drew)(h:Fb P l.toArray Q aA S (λa w=>wpList P l.toArray Q (l.drop n) a w) d a w.drew):(Code.region id l.toArray true).wp P Q a w:=by
 simp only[Oh,G3,E2]at O;obtain⟨⟨⟨⟨⟨hsel,hn⟩,hsl⟩,hs⟩,hc⟩,hgo⟩:=O;have E:(l.drop n).length=l.toArray.size-n:=by simp
 have z:HeadInv .any l.toArray n (Array.replicate l.toArray.size false):=
  ⟨by simp,λj oj _ L=>(by rw[Kr]at L;cases L),λt _ W=>getD_in (by simpa using W) (Kr _ _)⟩
 have H:=Mk (md:=.any) (T:=λa w=>wpList P l.toArray Q (l.drop n) a w) hsel hs hc hn X d _ a w.drew z hgo (.inr hS) h;refine QM hm ?_
 have:=QP (Q:=Q) (g:=l.toArray.size-n) (λY a' w' I=>by
  have:=QN (md:=.any) (Q':=Q) (l.drop n) n Y a' w' (λj=>by simp[List.getElem?_drop]) (by rw[E];exact I.1) I.2
  rwa [E]at this) _ _ _ _ H
 rw[hsl,show n+(l.toArray.size-n)=l.toArray.size from by omega]at this;exact this
def WB{i:Nat}{o:Oper}{v:gy}{r:gD (Nat×Nat)}{a:Act}{w:gx}(z:ops[i]?=some o)(d:Region.wanted o (yielded ops a.tmps)=true)(E:∀w,S w->(execOp a.eval o).run P w=.ok (.value v) w)(h:Fb P ops Q aA S T r (a.put o.dst v) w):Fb P ops Q aA S T ((i,1):: r) a w:=
 ⟨o,v,z,.inl ⟨d,E⟩,h⟩
def WC{i:Nat}{o:Oper}{v:gy}{r:gD (Nat×Nat)}{a:Act}{w:gx}(z:ops[i]?=some o)(d:Region.wanted o (yielded ops a.tmps)=true)(E:∀w,(execOp a.eval o).run P w=.ok (.value v) w)(h:Fb P ops Q aA S T r (a.put o.dst v) w):Fb P ops Q aA S T ((i,2):: r) a w:=
 ⟨o,v,z,.inl ⟨d,λw _=>E w⟩,h⟩
def WD{o:Oper}{r:gD (Nat×Nat)}{a:Act}{w:gx}(E:ops[aA]?=some o)(d:Region.wanted o (yielded ops a.tmps)=true)(h:∀K:Act->gx->Prop,(∀a w,Fb P ops Q aA S T r a w->K a w)->o.wp P a w K Q):Fb P ops Q aA S T ((aA,0):: r) a w:=by
 show wpOp P ops Q aA _ a w;unfold wpOp;simp only[E,d,Cq];exact .inl (h _ λa w z=>⟨by simp,z⟩)
def IB{i:Nat}{o:Oper}{v:gy}{r:gD (Nat×Nat)}{a d:Act}{w:gx}(h:Fb P ops Q aA S T r d w)(E:ops[i]?=some o:=by rfl)(z:Region.wanted o (yielded ops a.tmps)=true:=by rfl)(I:∀w,S w->(execOp a.eval o).run P w=.ok (.value v) w:=by intro w' O;(try dsimp only at O);go_simp;try with_reducible rfl)(L:a.put o.dst v=d:=by simp only[BO];rfl):Fb P ops Q aA S T ((i,1):: r) a w:=WB E z I (L ▸ h)
def IC{i:Nat}{o:Oper}{v:gy}{r:gD (Nat×Nat)}{a d:Act}{w:gx}(h:Fb P ops Q aA S T r d w)(E:ops[i]?=some o:=by rfl)(z:Region.wanted o (yielded ops a.tmps)=true:=by rfl)(I:∀w,(execOp a.eval o).run P w=.ok (.value v) w:=by intro w';go_simp;try with_reducible rfl)(L:a.put o.dst v=d:=by simp only[BO];rfl):Fb P ops Q aA S T ((i,2):: r) a w:=WC E z I (L ▸ h)
def Mi{o:Oper}{r:gD (Nat×Nat)}{a:Act}{w:gx}(h:∀K:Act->gx->Prop,(∀a w,Fb P ops Q aA S T r a w->K a w)->o.wp P a w K Q)(z:ops[aA]?=some o:=by rfl)(d:Region.wanted o (yielded ops a.tmps)=true:=by rfl):
 Fb P ops Q aA S T ((aA,0):: r) a w:=WD z d h
def Mh{a:Act}{w:gx}{l d:gD Oper}{n:Nat}(h:wpList P l.toArray Q d a w)(z:l.drop n=d:=by simp only[D0b,D0a];rfl):Fb P l.toArray Q aA S (λa w=>wpList P l.toArray Q (l.drop n) a w) [] a w:=by subst z;exact h
def Mg{id:Nat}{a:Act}{w:gx}{l:gD Oper}(aA:Nat)(S:gx->Prop)(n:Nat)(d:gD (Nat×Nat))(E:S w.drew)(h:Fb P l.toArray Q aA S (λa w=>wpList P l.toArray Q (l.drop n) a w) d a w.drew)(z:P.follows .mixedOrders=true:=by kernel_rfl)(I:Oh l.toArray aA n d=true:=by kernel_rfl)(L:∀c a t v w,Q (.panic c) (Act.put a (some t) v) w->Q (.panic c) a w:=by exact λ_ _ _ _ _ h=>h):(Code.region id l.toArray true).wp P Q a w:=Wz aA S n d z I L E h
end
end
end Go.Proofs.YtodcnkbblippnaaGreatDoor
