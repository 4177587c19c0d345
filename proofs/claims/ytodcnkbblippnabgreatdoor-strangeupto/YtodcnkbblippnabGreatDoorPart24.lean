/- Part 24 of a proof: walks of the program. -/
import Derived.Test.YtodcnkbblippnabGreatDoorPart23
namespace Go.Proofs.YtodcnkbblippnabGreatDoor
set_option maxRecDepth 100000
set_option maxHeartbeats 32000000
set_option linter.defProp false
open Go.Proofs.Tryz
section
open Go.RowKit
attribute [local go_sem ↓] Cz
def KH{lt nm:Bs}{v:Int}(h:Du lt nm=some v):(1<=v/\v<=4611686018427387904)/\E0 lt v=nm:=by
 unfold Du at h;cases hx:Lib.atoiAll (Lib.trimPrefix nm lt) with
 | ok x=>
  rw[hx]at h;dsimp only at h;split at h
  ·rename_i z;cases h;exact⟨⟨by omega,z.2.1⟩,z.2.2⟩
  ·cases h
 | «syntax»=>rw[hx]at h;cases h
 | range=>rw[hx]at h;cases h
def SM{nm:Bs}:(Gx nm).1≠1/\(Gx nm).1≠2:=by
 unfold Gx Hg;split
 ·simp
 ·split<;>simp
def LU{nm:Bs}(h:(Bc nm).1=1):(1<=(Bc nm).2/\(Bc nm).2<=4611686018427387904)/\Af (Bc nm).2=nm:=by
 unfold Bc at h ⊢;cases hx:Du [108] nm with
 | some v=>exact KH hx
 | none=>
  rw[hx]at h;dsimp only at h;unfold Gy at h;cases hy:Du [115] nm with
  | some v=>rw[hy]at h;cases h
  | none=>rw[hy]at h;exact absurd h SM.1
def LR{nm:Bs}(h:(Bc nm).1=2):(1<=(Bc nm).2/\(Bc nm).2<=4611686018427387904)/\Aw (Bc nm).2=nm:=by
 unfold Bc at h ⊢;cases hx:Du [108] nm with
 | some v=>rw[hx]at h;cases h
 | none=>
  rw[hx]at h;dsimp only at h ⊢;unfold Gy at h ⊢;cases hy:Du [115] nm with
  | some v=>exact KH hy
  | none=>rw[hy]at h;exact absurd h SM.2
def SA(nm:Bs):AY (Bc nm).2:=by
 unfold Bc;cases hx:Du [108] nm with
 | some v=>have:=(KH hx).1;unfold AY;dsimp only;omega
 | none=>
  dsimp only
  unfold Gy;cases hy:Du [115] nm with
  | some v=>have:=(KH hy).1;unfold AY;dsimp only;omega
  | none=>dsimp only;unfold Gx Hg AY;split<;>(try split)<;>simp
def Zg(first:Int)(l l':List Bs):Bv first (l++l')=Bv first l++Bv first l':=by simp[Bv]
def IS(first:Int)(l:List Bs):(Bv first l).length<=l.length:=List.length_filterMap_le _ _
def O6{first n:Int}{l:List Bs}(h:n∈Bv first l):first<=n/\(1<=n/\n<=4611686018427387904)/\Af n∈l:=by
 have⟨nm,h1,h2⟩:=HQ.1 h;split at h2
 ·rename_i z;cases h2;have⟨k1,k2⟩:=LU z.1;exact⟨z.2,k1,by rw[k2];exact h1⟩
 ·cases h2
def GL(P:PD):P.Av.length=P.D.A6.length:=by
 unfold PD.Av dList;rw[H9,Mp _ _ (Aq _)]
def TD(l:List Int)(x d:Int):(l++[x]).getLastD d=x:=by
 rw[Ka];simp
def O9{w:World}{b:Nat}{P:PD}{Ft:Nat->Prop}{a c m:Nat}(h:Bh w b P Ft)(O:Fit P a c m)(W:CN a c m):
 Calls Tryz.prog 48 #[.pointer (some ⟨b,0,none⟩)] w λe w'=>∃v,e=.returned v/\Dq w' v P.Av/\A5 (λ_=>False) w w'/\(∀g,v.ownBlock=some g->w.heap.size<=g):=by
 refine(Zp h (by have:=O.A6;have:=W.a;omega)).mono ?_;rintro e w'⟨v,I,z,X,H⟩;refine⟨v,I,?_,X,H⟩;have Y:=GL P;unfold Dq;rw[Y];rw[WH]at z;exact z
section
variable{w:World}{b B:Nat}{P:PD}{Ft:Nat->Prop}{a c m:Nat}{first:Int}
def ZU(w:World)(h:Bh w b P Ft)(aD:∀k,Ft k->k<w.heap.size)(hF:Fit P a c m)(hl:CN a c m)(bI:a*m<=70368744177664)(hf:1<=first/\first<=4611686018427387904)(hL:Lets B w)(hE:HV w)(bP:∀nm∈P.Av,nm.length<=281474976710656):
 Aj 51 #[A7 b,A0 first] w λe w'=>
  ((P.puts (Bv first P.Av)).2≠0/\e=.returned (.tuple #[.pointer none,.slice none 0 0,A0 (P.puts (Bv first P.Av)).2])/\A5 Ab w w')\/
  ((P.puts (Bv first P.Av)).2=0/\∃z lv v,e=.returned (.tuple #[A7 z,v,A0 0])/\DE w' z b lv (.pointer none) (P.bP first)/\AZ w' v (P.puts (Bv first P.Av)).1/\(∀k,Dk z lv (.pointer none) k->w.heap.size<=k)/\(∀g,v.ownBlock=some g->w.heap.size<=g)/\A5 Ab w w'):=by
 obtain⟨i0,hi,bG,bO,bL⟩:∃i0,Tryz.prog.info? 3=some i0/\i0.zero=some (A0 0)/\i0.size=1/\i0.bytes=8:=by
  have h:=Tryz.cO;cases hx:Tryz.prog.info? 3 with
  | none=>rw[hx]at h;cases h
  | some i=>rw[hx]at h;simp at h;exact⟨i,rfl,h.1,h.2.1,h.2.2⟩
 have bZ:Hid (∀W,A5 Ab w W->Aj 48 #[A7 b] W λe w'=>∃v,e=.returned v/\Dq w' v P.Av/\A5 Ab W w'/\(∀g,v.ownBlock=some g->W.heap.size<=g)):=λW hc=>O9 (B5.az h aD hc) hF hl;have bY:Hid (∀W,A5 Ab w W->∀nm∈P.Av,Aj 49 #[.string ⟨nm.toArray⟩] W λe w'=>e=.returned (.tuple #[A0 (Bc nm).1,A0 (Bc nm).2])/\A5 Ab W w'):=λW hc nm hm=>Sz W nm (bP nm hm) (hE.aP hc) (hL.aP hc);have aG:P.Av.length<=a:=by rw[GL];exact hF.A6
 have bV:Hid (∀W z lv last,A5 Ab w W->DE W z b lv (.pointer none) ⟨Bv first P.Av,last,0,none⟩->Aj 58 #[A7 z] W λe w'=>∃v,e=.returned (.tuple #[v,A0 (P.puts (Bv first P.Av)).2])/\AZ w' v (P.puts (Bv first P.Av)).1/\(∀g,v.ownBlock=some g->W.heap.size<=g)/\A5 Ab W w'):=λW z lv last hc hJ=>
  NB W (B5.az h aD hc) (λk hk=>Bm (aD k hk) hc.Am) hJ hF hl (AH (HM m (AH (IS first P.Av) aG)) bI) (λn hn=>by have⟨_,h2,_⟩:=O6 hn;exact HF (by omega) h2.2) (hL.aP hc)
 have hnl2:P.Av.length<=1073741824:=AH aG hl.a;have a7:Hid (P.bP first=⟨Bv first P.Av,(Bv first P.Av).getLastD (first-1),(P.puts (Bv first P.Av)).1.length,none⟩):=rfl;generalize hZ:P.bP first=Z at a7 ⊢
 generalize hR:P.puts (Bv first P.Av)=R at bV a7 ⊢;generalize P.Av=ns at *;obtain⟨f1,f2⟩:=hf;have ew:IntKind.i64.wrap (first-1)=first-1:=GN (by omega)
 have aP:Cw (w.alloc (.cells #[A7 b,.slice none 0 0,A0 (first-1),A0 0,.pointer none] 167)) w.heap.size b (.slice none 0 0) (first-1) 0 (.pointer none):=BN w _;have bX:Hid (A5 Ab w (w.alloc (.cells #[A7 b,.slice none 0 0,A0 (first-1),A0 0,.pointer none] 167))):=(A5.C _ w).aj _;have bN:=A4 (bZ.o _ bX.o);have a9:=A4 aP;have bW:Hid (w.heap.size<(w.alloc (.cells #[A7 b,.slice none 0 0,A0 (first-1),A0 0,.pointer none] 167)).heap.size):=by unfold Hid;simp
 go_enter func51,ntmps51
 go_wp2_with (fail);refine bN.o.mono ?_;rintro e W⟨v,rfl,hv,aV,aR⟩;obtain⟨na,a5,rfl,nc1,bB⟩:=(Dq.rd hv).BV;unfold maxLen at bB;have b1:=A4 (Dq.rd hv);have bT:=A4 (a9.o.ak aV (λh=>h));have b0:Hid (A5 Ab w W):=bX.o.tr aV;have aA:Hid (w.heap.size<W.heap.size):=Bm bW.o aV.Am;have bD:Hid (∀g,(Value.slice na ns.length a5).ownBlock=some g->w.heap.size<g):=λg I=>Bm bW.o (aR g I);generalize aP:w.heap.size=z at bT aA ⊢;have aT:=A4 aP;go_wp2;go_loopw [22] (λiv wr=>∃k:Nat,iv=A0 k/\k<=ns.length/\Hid (∃lv,Cw wr z b lv ((Bv first (ns.take k)).getLastD (first-1)) 0 (.pointer none)/\DF wr lv (Bv first (ns.take k))/\(∀g,lv.ownBlock=some g->W.heap.size<=g)/\A5 Ab w wr/\A5 (One z) W wr)) (λiv _=>ns.length-(intOf iv).toNat)
 ·exact⟨0,rfl,by omega,_,bT.o,CL _ _ _ _,λg I=>by simp[Value.ownBlock]at I,b0.o,A5.C _ _⟩
 ·obtain⟨k,rfl,hk,hI⟩:=hrel;have⟨lv,i1,i2,i3,i4,i5⟩:=hI.o;by_cases aF:k<ns.length
  ·obtain⟨g,o,rfl,d1⟩:=GB.at b1.o k aF;have aL:=BS aF;have a4:ns.take (k+1)=ns.take k++[ns[k]'aF]:=Dz aF;generalize hne:(ns[k]'aF)=nm at d1 aL a4;(have hgj:z<g:=by have:=bD.o g rfl;have:=aT.o;omega);have e1:=i5.bB d1 (λh=>by have h':g=z:=h;omega);have aI:=A4 (bY.o wr i4 nm aL);have aS:=SA nm;have aE:Hid (Bv first (ns.take (k+1))=Bv first (ns.take k)++(if (Bc nm).1=1/\first<=(Bc nm).2 then [(Bc nm).2] else [])):=by
    unfold Hid;rw[a4,Zg]
    congr 1
    unfold Bv;by_cases hc:(Bc nm).1=1/\first<=(Bc nm).2<;>simp[hc]
   generalize hX:Bc nm=X at aI aE aS;obtain⟨s,n⟩:=X;dsimp only at aI aE aS;obtain⟨r1,r2⟩:=aS;have aN:Hid ((Bv first (ns.take k)).length<=ns.length):=AH (IS _ _) (by rw[BU];omega);have aW:=A4 i1;have aH:=A4 i2;have aJ:=A4 i3;have aM:=A4 i4;have aX:=A4 i5;(have bE:(k:Int)<(ns.length:Int):=by omega);have hk0:(0:Int)<=(k:Int):=Gn _;generalize hlg:Bv first (ns.take k)=lg at aE aN aW aH
   by_cases hc:s=1/\first<=n
   case neg=>
    (have Y:Hid (Bv first (ns.take (k+1))=lg):=by rw[aE.o,Ae hc,Fz];rfl);by_cases hs:s=1
    ·subst hs;have bM:¬first<=n:=λh=>hc ⟨rfl,h⟩
     go_wp2_with (go_at_call 49;refine aI.k ?_;rintro w6 O;have H:=A4 O);go_roundw
     ·exact⟨k+1,by go_num,by omega,lv,by rw[Y.o];exact aW.o.ak H.o (λh=>h),by rw[Y.o];exact AA aH.o λg I=>H.o.Ao g (AG aH.o I) (λh=>h),aJ.o,aM.o.tr H.o,aX.o.b0 H.o⟩
     ·simp[intOf];omega
    ·(have hsb:(s==1)=false:=by simpa using hs);go_wp2_with (go_at_call 49;refine aI.k ?_;rintro w6 O;have H:=A4 O);go_roundw
     ·exact⟨k+1,by go_num,by omega,lv,by rw[Y.o];exact aW.o.ak H.o (λh=>h),by rw[Y.o];exact AA aH.o λg I=>H.o.Ao g (AG aH.o I) (λh=>h),aJ.o,aM.o.tr H.o,aX.o.b0 H.o⟩
     ·simp[intOf];omega
   case pos=>
    (have Y:Hid (Bv first (ns.take (k+1))=lg++[n]):=by rw[aE.o,Ah hc];rfl);obtain⟨rfl,bM⟩:=hc;obtain⟨ap,cp,rfl,hcap1,aU,-⟩:=Bb aH.o;unfold maxLen at aU;go_wp2_with (fail);refine aI.k ?_;rintro w6 O;have aY:=aW.o.ak O (λh=>h);have g1:=aY.c1;have a0:Hid ((w6.alloc (.cells #[A0 n] 3)).ownsRow 0 3 1 (.slice ap lg.length cp) lg.length (DR lg)):=AA aH.o λg I=>(O.aj _).Ao g (AG aH.o I) (λh=>h)
    have bA:=A4 (Src.ba (size:=1) (B:=w6.heap.size) underlying120 w6 #[A0 n] 3 (by simp) 1 1 rfl (JJ [n]));have a6:=A4 (aY.ak ((A5.C Ab w6).aj (.cells #[A0 n] 3)) (λh=>h));have bU:Hid (A5 Ab wr (w6.alloc (.cells #[A0 n] 3))):=O.aj _;have c71:=a6.o.c1;go_wp2_with (at_builtin;refine De rfl (.tmp 42) (.tmp 44) 120 120 rfl 3 i0 _ 1 8 underlying120 hi bG bO bL rfl (by decide) (.slice ap lg.length cp) lg.length (DR lg) (by rfl) a0.o _ 1 _ (by rfl) bA.o (by have:=aN.o;omega) ?_;intro a8 aB w8 hA;have aZ:=A4 (hA.An (S:=λk=>(Value.slice ap lg.length cp).ownBlock=some k) λ_ h=>h);have bK:=a6.o.ak aZ.o (λh=>by have:=aJ.o _ h;have:=aA.o;omega);have g81:=bK.c1;have f81:=bK.fz 1;have bJ:=bK.s1 (.slice a8 (lg.length+1) aB);have g82:=bJ.c2;have f82:=bJ.fz 2;have a3:=A4 (bJ.s2 n);have a1:=A4 hA.AP;have bH:=A4 hA.Cu);go_roundw
    ·(have e:(lg++[n]).length=lg.length+1:=by simp);have aO:∀g,(Value.slice a8 (lg.length+1) aB).ownBlock=some g->W.heap.size<=g:=λg I=>by
      rcases bH.o with h|h
      ·rw[h]at I;exact aJ.o g I
      ·rw[h]at I;cases I;have:=aX.o.Am;have:=bU.o.Am;omega
     have k8:A5 (λk=>(Value.slice ap lg.length cp).ownBlock=some k) wr w8:=(bU.o.aZ).tr aZ.o;have a2:A5 (λk=>k=z\/(Value.slice ap lg.length cp).ownBlock=some k) wr ((w8.setCell (Ad z 1) (.slice a8 (lg.length+1) aB)).setCell (Ad z 2) (A0 n)):=
      ((k8.ae λ_ _ h=>.inr h).ao (b:=z) (.inl rfl) 1 _).ao (b:=z) (.inl rfl) 2 _
     refine⟨k+1,by go_num,by omega,.slice a8 (lg.length+1) aB,by rw[Y.o,TD];exact a3.o,?_,aO,?_,?_⟩
     ·rw[Y.o];unfold DF;rw[KK,e];exact AA a1.o λg I=>by
       have h1:=aO g I;have h2:=aA.o;rw[GY _ _ _ _ (λe=>by have e':g=z:=e;omega),GY _ _ _ _ (λe=>by have e':g=z:=e;omega)]
     ·exact aM.o.AJ a2 λx hx aD=>by
       have h2:=aT.o;rcases hx with rfl|hx
       ·omega
       ·have:=aJ.o x hx;have:=aA.o;omega
     ·exact aX.o.AJ a2 λx hx aD=>by
       rcases hx with rfl|hx
       ·rfl
       ·have:=aJ.o x hx;omega
    ·simp[intOf];omega
  ·(obtain rfl:k=ns.length:=by omega);rw[Cj]at i1 i2;(have bE:¬((ns.length:Int)<(ns.length:Int)):=by omega);have aQ:=A4 (bV.o wr z lv _ i4 ⟨i1,i2,.inl ⟨rfl,rfl⟩⟩);obtain⟨bS,bR⟩:=R;dsimp only at aQ a7;have aW:=A4 i1;have aH:=A4 i2;have aJ:=A4 i3;have aM:=A4 i4;have aX:=A4 i5;by_cases hr:bR=0
   case neg=>
    (have hrb:(bR !=0)=true:=by simpa using hr);go_wp2_with (go_at_call 58;refine aQ.o.mono ?_;rintro e w6⟨v,rfl,-,-,O⟩;have H:=A4 O);go_ret3;exact⟨rfl,aM.o.tr H.o⟩
   case pos=>
    subst hr;go_wp2_with (fail);refine aQ.o.mono ?_;rintro e w6⟨v,rfl,hv,aR,O⟩;obtain⟨va,vcap,rfl,vc1,bF,-⟩:=Bb hv;unfold maxLen at bF;have aY:=aW.o.ak O (λh=>h);have g63:=aY.c3;have f63:=aY.fz 3;have a6:=A4 (aY.s3 bS.length);have bC:=A4 hv;have aK:=A4 aR;have H:=A4 O;go_wp2;go_ret3;(have bQ:∀g,lv.ownBlock=some g->g≠z:=λg I e=>by have:=aJ.o g I;have:=aA.o;omega);have h2:=aT.o;have k7:A5 (One z) wr (w6.setCell (Ad z 3) (A0 bS.length)):=(H.o.aZ (S:=One z)).ao (b:=z) rfl 3 _;refine⟨z,lv,_,rfl,?_,?_,λx hx=>?_,λg I=>?_,?_⟩
    ·rw[a7.o];exact⟨a6.o,AA aH.o λg I=>k7.Ao g (AG aH.o I) (bQ g I),.inl ⟨rfl,rfl⟩⟩
    ·exact AA bC.o λg I=>GY _ _ _ _ (λe=>by
      have e':g=z:=e;have:=aK.o g I;have:=aM.o.Am;have:=aX.o.Am;have:=aA.o
      omega)
    ·rcases hx with rfl|hx|hx
     ·omega
     ·have:=aJ.o x hx;have:=aA.o;omega
     ·cases hx
    ·have:=aK.o g I;have:=aM.o.Am;omega
    ·exact aM.o.AJ k7 λx hx aD=>by have e':x=z:=hx;omega
end
def JD(w:World)(jb b:Nat)(J:Jn)(P:PD)(FT:Nat->Prop):Prop:=
 ∃lv ov Ft,DE w jb b lv ov J/\Bh w b P Ft/\(∀k,Ft k->k<w.heap.size)/\(∀k,Dk jb lv ov k->¬Ft k)/\∀k,Ft k\/Dk jb lv ov k->FT k
def JD.aM{w w':World}{jb b:Nat}{J:Jn}{P:PD}{FT:Nat->Prop}(h:JD w jb b J P FT)(I:G3 FT w w')(Y:w.heap.size<=w'.heap.size):JD w' jb b J P FT:=by
 obtain⟨lv,ov,Ft,X,O,h3,W,H⟩:=h;exact⟨lv,ov,Ft,X.aM λk z=>I k (H k (.inr z)),O.aM λk z=>I k (H k (.inl z)),λk z=>Bm (h3 k z) Y,W,H⟩
def Ax.jd{w w':World}{jb b:Nat}{J:Jn}{P:PD}{FT S:Nat->Prop}{lv ov:Value}{Ft:Nat->Prop}(hc:A5 S w w')(hS:∀k,k<w.heap.size->S k->FT k)(I:DE w' jb b lv ov J)(W:Bh w' b P Ft)(O:∀k,Ft k->k<w'.heap.size)(X:∀k,Dk jb lv ov k->¬Ft k)(Y:∀k,Ft k->FT k\/w.heap.size<=k)(h6:∀k,Dk jb lv ov k->FT k\/w.heap.size<=k):
 Ax w FT w' (λw' z=>JD w' jb b J P z):=
 ⟨hc.ae hS,λk=>Ft k\/Dk jb lv ov k,⟨lv,ov,Ft,I,W,O,X,λ_ h=>h⟩,λk H=>H.elim (O k) λh=>I.lt h,λk H=>H.elim (Y k) (h6 k)⟩
def DE.ne{w:World}{jb b:Nat}{lv ov:Value}{J:Jn}(h:DE w jb b lv ov J){g:Nat}(z:lv.ownBlock=some g):g≠jb:=by
 have⟨c,hc⟩:=Bd h.Al z;exact BP hc h.Ai (by decide)
def Be.cN{w:World}{lb:Nat}{p:Value}{name:ByteArray}{s n:Nat}{v:Value}{xs:List Value}(h:Be w lb 196 p name s)(z:w.ownsRow 0 3 1 v n xs){g:Nat}(H:v.ownBlock=some g):g≠lb:=by
 have⟨c,hc⟩:=Bd z H;exact BP hc h (by decide)
def Be.dn{w:World}{lb jb b:Nat}{p:Value}{name:ByteArray}{s:Nat}{lv ov:Value}{last puts:Int}(h:Be w lb 196 p name s)(z:Cw w jb b lv last puts ov):lb≠jb:=BP h z (by decide)
section
variable{w:World}{b B jb lb:Nat}{P:PD}{Ft FT:Nat->Prop}{a c m:Nat}{lv ov:Value}{J:Jn}{n:Int}
def Sp(w:World)(z:DE w jb b lv ov J)(h:AY (J.A8+1)):
 Aj 164 #[A7 jb] w (Au (A0 (J.A8+1)) λw'=>w=w'):=by
 have c2:=z.Ai.c2;obtain⟨r1,r2⟩:=h;have ew:wrap64 (J.A8+1)=J.A8+1:=by unfold wrap64;omega
 go_enter func164,ntmps164
 go_wp2;go_ret;exact⟨rfl,rfl⟩
def Zf(w:World)(hJ:DE w jb b lv ov J)(hl:J.Al.length<=1073741824):
 Aj 87 #[A7 jb] w λe w'=>∃v,e=.returned v/\DF w' v J.Al/\(∀g,v.ownBlock=some g->w.heap.size<=g)/\A5 Ab w w':=by
 obtain⟨z,hi,X,Y,aA⟩:∃z,Tryz.prog.info? 3=some z/\z.zero=some (A0 0)/\z.size=1/\z.bytes=8:=by
  have h:=Tryz.cO;cases hx:Tryz.prog.info? 3 with
  | none=>rw[hx]at h;cases h
  | some i=>rw[hx]at h;simp at h;exact⟨i,rfl,h.1,h.2.1,h.2.2⟩
 have c1:=hJ.Ai.c1;have H:=A4 (Src.bM underlying120 hJ.Al (JJ J.Al));have I:Hid (w.ownsRow 0 3 1 (.slice none 0 0) 0 []):=CL _ _ _ _;generalize J.Al=l at *
 go_enter func87,ntmps87
 go_wp2_with (at_builtin;refine De rfl (.const (.slice none 0 0)) (.tmp 6) 120 120 rfl 3 z _ 1 8 underlying120 hi X Y aA rfl (by decide) (.slice none 0 0) 0 [] (by rfl) I.o _ l.length _ (by rfl) H.o (by omega) ?_;intro a8 cap8 w8 W;have aD:=A4 W);go_ret;have W:=aD.o;have aB:=W.An (S:=λ_=>False) λ_ h=>by simp[Value.ownBlock]at h
 refine⟨_,rfl,?_,?_,aB⟩
 ·have:=W.AP;simp only[F7,GC]at this ⊢;exact this
 ·intro g hg;have O:=W.Cu;simp only[GC]at O;cases a8 with
  | none=>simp[Value.ownBlock]at hg
  | some x=>
   simp[Value.ownBlock]at O hg;omega
def Zr(w:World)(I:DE w jb b lv ov J):
 Aj 166 #[A7 jb] w (Au (.tuple #[]) λw'=>DE w' jb b (.slice none 0 0) (.pointer none) ⟨[],J.A8,0,none⟩/\A5 (One jb) w w'):=by
 have z:=I.Ai.s1 (.slice none 0 0);have h:=z.s3 0;have O:=h.s4 (.pointer none);have c1:=I.Ai.c1;have f1:=I.Ai.fz 1;have c3:=z.c3;have f3:=z.fz 3;have c4:=h.c4;have f4:=h.fz 4;have H:=A4 O
 go_enter func166,ntmps166
 go_wp2;go_end0;exact⟨rfl,⟨H.o,CL _ _ _ _,.inl ⟨rfl,rfl⟩⟩,((((A5.C (One jb) w).ao (b:=jb) rfl 1 _).ao (b:=jb) rfl 3 _).ao (b:=jb) rfl 4 _)⟩
def YX(w:World)(ahead:Int)(h:Bh w b P Ft)(O:∀k,Ft k->k<w.heap.size)(hn:Cv n)(hL:Lets B w)(ha:AY ahead)(W:Fit P a c m)(I:CN (a+1) (c+1) (m+12)):
 Aj 191 #[A7 b,A0 n,A0 ahead] w λe w'=>
  ((P.af (A9 (Af n))).1≠0/\e=.returned (.tuple #[.pointer none,A0 (P.af (A9 (Af n))).1])/\Ax w Ft w' (λw' z=>Bh w' b (P.af (A9 (Af n))).2 z))\/
  ((P.af (A9 (Af n))).1=0/\((P.af (A9 (Af n))).2.I (A9 (Af n)) (AB (Af n)) (AR ahead)).2.1≠0/\e=.returned (.tuple #[.pointer none,A0 ((P.af (A9 (Af n))).2.I (A9 (Af n)) (AB (Af n)) (AR ahead)).2.1])/\Ax w Ft w' (λw' z=>Bh w' b ((P.af (A9 (Af n))).2.I (A9 (Af n)) (AB (Af n)) (AR ahead)).2.2 z))\/
  ((P.af (A9 (Af n))).1=0/\((P.af (A9 (Af n))).2.I (A9 (Af n)) (AB (Af n)) (AR ahead)).2.1=0/\∃lb,e=.returned (.tuple #[A7 lb,A0 0])/\w.heap.size<=lb/\Be w' lb 196 (A7 b) ⟨(Af n).toArray⟩ (AV (AB (Af n)) (AR ahead))/\
    A5 Ft w w'/\∃z,Bh w' b ((P.af (A9 (Af n))).2.I (A9 (Af n)) (AB (Af n)) (AR ahead)).2.2 z/\(∀k,z k->k<w'.heap.size)/\(∀k,z k->Ft k\/w.heap.size<=k)/\¬z lb):=by
 have H:=W.af (A9 (Af n));have hp:(AT (AB (Af n)) (AR ahead)).length=12:=by simp[AT,Hd,CD]
 have Y:=H.al (A9 (Af n)) (AT (AB (Af n)) (AR ahead));have hz:=JQ Y (A9 (Af n));have X:=JQ H (A9 (Af n));have hm:=I.m;exact YW w ahead P.D.AS (P.af (A9 (Af n))).2.D ((P.af (A9 (Af n))).2.al (A9 (Af n)) (AT (AB (Af n)) (AR ahead))).2.D (P.af (A9 (Af n))).2.F ((P.af (A9 (Af n))).2.al (A9 (Af n)) (AT (AB (Af n)) (AR ahead))).2.F _ _ h O hn hL ha P.D.b3
  (by have:=W.A6;have:=W.An;have:=I.a;have:=I.c;omega) rfl rfl rfl H.B1 (AH H.cg (AH (HN I.a (AH (V0 m 12) I.m)) (by decide))) H.BA
  (λf hf=>by have:=H.Bi f (FK hf);omega) ⟨Lp hz (by rw[hp];omega),Lp X (by omega)⟩
def A2B(p:Pu)(name:ByteArray)(s:Nat)(X:Be w lb 196 (A7 b) name s)(hs:s<4294967296)(h:Bh w b P Ft)(H:∀k,Ft k->k<w.heap.size)(hn:¬Ft lb)(hp:B8 p)(z:Fit P a c m)(Y:CN a c (m+21)):
 Aj 144 #[A7 lb,DB p] w (Au (.tuple #[.bool (P.I name s (B9 p.1 p.2.1 p.2.2)).1,A0 (P.I name s (B9 p.1 p.2.1 p.2.2)).2.1]) λw'=>
  Be w' lb 196 (A7 b) name (AV s (B9 p.1 p.2.1 p.2.2))/\Je w Ft lb w' b (P.I name s (B9 p.1 p.2.1 p.2.2)).2.2):=by
 obtain⟨⟨h1,h2⟩,h3,h4⟩:=hp;have O:(AT s (B9 p.1 p.2.1 p.2.2)).length=21:=by simp[AT,Hd,NG]
 have hA:=z.al name (AT s (B9 p.1 p.2.1 p.2.2));have hz:=JQ hA name;have W:=JQ z name;have hm:=Y.m;have I:CN a c m:=⟨Y.a,Y.c,by omega⟩;exact A2A w lb name s p.1 p.2.1 p.2.2 ⟨h1,by omega⟩ h3 h4 X hs h H hn z.B1 (z.ec I) z.BA (λf X=>by have:=z.Bi f (FK X);omega) ⟨Lp hz (by rw[O];omega),Lp W (by omega)⟩
end
def Oi:∃z,Tryz.prog.info? 3=some z/\z.zero=some (A0 0)/\z.size=1/\z.bytes=8:=by
 have h:=Tryz.cO;cases hx:Tryz.prog.info? 3 with
 | none=>rw[hx]at h;cases h
 | some i=>rw[hx]at h;simp at h;exact⟨i,rfl,h.1,h.2.1,h.2.2⟩
section
variable{w:World}{b B jb lb:Nat}{P:PD}{Ft FT:Nat->Prop}{a c m:Nat}{lv ov:Value}{J:Jn}{n:Int}
def A15(w:World)(h:JD w jb b J P FT)(ho:J.AP=none)(hn:Cv (J.A8+1))(hr:AY (J.A8+1))(hp:AY J.puts)(bD:J.Al.length<=1073741824)(hL:Lets B w)(hF:Fit P a c m)(hl:CN (a+1) (c+1) (m+12)):
 Aj 143 #[A7 jb] w (Au (A0 (J.au P).1) λw'=>Ax w FT w' (λw' aT=>JD w' jb b (J.au P).2.1 (J.au P).2.2 aT)):=by
 obtain⟨i0,hi,bL,bW,bT⟩:=Oi;obtain⟨lv,ov,Ft,hJ,hD,aS,aM,aN⟩:=h;have bN:ov=.pointer none:=by
  rcases hJ.AP with⟨_,h⟩|⟨n,s,lb,h,_⟩
  ·exact h
  ·rw[ho]at h;cases h
 subst bN
 have aD:Hid (J.au P=if (P.af (A9 (Af (J.A8+1)))).1≠0 then ((P.af (A9 (Af (J.A8+1)))).1,J,(P.af (A9 (Af (J.A8+1)))).2) else
  if ((P.af (A9 (Af (J.A8+1)))).2.I (A9 (Af (J.A8+1))) (AB (Af (J.A8+1))) (AR J.puts)).2.1≠0 then (((P.af (A9 (Af (J.A8+1)))).2.I (A9 (Af (J.A8+1))) (AB (Af (J.A8+1))) (AR J.puts)).2.1,J,((P.af (A9 (Af (J.A8+1)))).2.I (A9 (Af (J.A8+1))) (AB (Af (J.A8+1))) (AR J.puts)).2.2) else
  (0,⟨J.Al++[J.A8+1],J.A8+1,J.puts,some (J.A8+1,AV (AB (Af (J.A8+1))) (AR J.puts))⟩,((P.af (A9 (Af (J.A8+1)))).2.I (A9 (Af (J.A8+1))) (AB (Af (J.A8+1))) (AR J.puts)).2.2)):=rfl
 have aJ:Hid (∀w1,A5 Ab w w1->_):=λw1 hc=>YX w1 J.puts (B5.az hD aS hc) (λk z=>Bm (aS k z) hc.Am) hn (hL.aP hc) hp hF hl;have bS:Hid (∀w1,A5 Ab w w1->_):=λw1 hc=>Sp w1 (hJ.aJ hc) hr;generalize hR:J.au P=R at aD ⊢;obtain⟨L,a0⟩:∃L,J.A8+1=L:=⟨_,rfl⟩;rw[a0]at aD aJ bS hr hn;have aI:(Af L).length<=100:=Sm hn.2.2;obtain⟨nm,aQ⟩:∃nm,Af L=nm:=⟨_,rfl⟩;rw[aQ]at aD aJ;obtain⟨s0,aU⟩:∃s0,AB nm=s0:=⟨_,rfl⟩;have aL:s0<4294967296:=by rw[<-aU];exact Jo nm
 rw[aU]at aD aJ;obtain⟨C,hC⟩:∃C,P.af (A9 nm)=C:=⟨_,rfl⟩;rw[hC]at aD aJ;obtain⟨A,hA⟩:∃A,C.2.I (A9 nm) s0 (AR J.puts)=A:=⟨_,rfl⟩;rw[hA]at aD aJ;have bB:AV s0 (AR J.puts)<4294967296:=Jk _ _ aL;obtain⟨s1,aK⟩:∃s1,AV s0 (AR J.puts)=s1:=⟨_,rfl⟩;rw[aK]at aD aJ bB;have c0:=hJ.Ai.ad.c0;have c3:=hJ.Ai.ad.c3;have bE:=A4 hJ;have a3:=A4 aM;have aG:=A4 aN;have HO:=A4 ho;have aO:=A4 a0;have bP:=A4 aQ;have a7:=A4 bD;have aZ:=A4 (bS.o w.drew (A5.C _ w).ad);have aB:=A4 (aJ.o w.drew (A5.C _ w).ad);clear hC hA hR aU aL aK aI aQ a0 hJ hD aS aM aN ho bD hL hF hl hp bS aJ;have I:Hid (∀wx,A5 Ft w.drew wx->DE wx jb b lv (.pointer none) J):=λwx Y=>(bE.o.aJ (A5.C Ab w).ad).An Y a3.o
 have aE:Hid (∀wx (bO:PD),Ax w.drew Ft wx (λw' H=>Bh w' b bO H)->Ax w FT wx (λw' aT=>JD w' jb b J bO aT)):=λwx bO Y=>by
  obtain⟨r1,H,r2,r3,r4⟩:=Y;exact Ax.jd ((A5.C Ft w).ad.tr r1) (λk _ z=>aG.o k (.inl z)) (I.o wx r1) r2 r3 (λk z Y=>by rcases r4 k Y with h|h;exact a3.o k z h;have:=bE.o.lt z;have h':w.heap.size<=k:=h;omega) (λk z=>(r4 k z).imp (λh=>aG.o k (.inl h)) id) (λk z=>.inl (aG.o k (.inr z)))
 by_cases hc:C.1=0
 case neg=>
  have aF:R=(C.1,J,C.2):=by rw[aD.o,Ah hc]
  subst aF;have O:Hid (Aj 191 #[A7 b,A0 L,A0 J.puts] w.drew (Au (.tuple #[.pointer none,A0 C.1]) λw'=>Ax w.drew Ft w' (λw' H=>Bh w' b C.2 H))):=by
   refine aB.m ?_;rintro e w' (⟨_,h2,h3⟩|⟨h1,_⟩|⟨h1,_⟩)
   ·exact⟨h2,h3⟩
   ·exact absurd h1 hc
   ·exact absurd h1 hc
  have aY:(C.1 !=0)=true:=by simpa using hc
  obtain⟨C1,b6⟩:=C;dsimp only at O aY ⊢;clear aB aD
  go_enter func143,ntmps143
  go_wp2;refine Ce (λw'=>Aa w' jb 0 (A7 b)/\Aa w' jb 3 (A0 J.puts)) 15
   (BD [0,1,2,3,4,6,7,8,9,5,10,11,12,13,14] [5,10]) ⟨c0,c3⟩ ?_
  iterate 9 refine Bq ?_
  refine By λK W=>?_;go_simp;refine aZ.k ?_;rintro w3 rfl;refine W _ _ ⟨c0,c3⟩ (λhS=>?_);clear W K hS;refine By λK W=>?_;go_simp;refine O.k ?_;rintro w4 hI;have k4:=I.o w4 hI.1;refine W _ _ ⟨k4.Ai.c0,k4.Ai.c3⟩ (λhS=>?_);have bQ:=A4 (aE.o w4 b6 hI);clear W K hS hI k4 O aE I
  iterate 4 refine Bq ?_
  refine Cc ?_;go_wp2;go_ret;exact⟨rfl,bQ.o⟩
 case pos=>
 by_cases ha:A.2.1=0
 case neg=>
  have aF:R=(A.2.1,J,A.2.2):=by rw[aD.o,Ae (by simpa using hc),Ah ha]
  subst aF;have O:Hid (Aj 191 #[A7 b,A0 L,A0 J.puts] w.drew (Au (.tuple #[.pointer none,A0 A.2.1]) λw'=>Ax w.drew Ft w' (λw' H=>Bh w' b A.2.2 H))):=by
   refine aB.m ?_;rintro e w' (⟨h1,_⟩|⟨_,_,h2,h3⟩|⟨_,h1,_⟩)
   ·exact absurd hc h1
   ·exact⟨h2,h3⟩
   ·exact absurd h1 ha
  have aY:(A.2.1 !=0)=true:=by simpa using ha
  obtain⟨b3,b2,b0⟩:=A;dsimp only at O aY ⊢;clear aB aD
  go_enter func143,ntmps143
  go_wp2;refine Ce (λw'=>Aa w' jb 0 (A7 b)/\Aa w' jb 3 (A0 J.puts)) 15
   (BD [0,1,2,3,4,6,7,8,9,5,10,11,12,13,14] [5,10]) ⟨c0,c3⟩ ?_
  iterate 9 refine Bq ?_
  refine By λK W=>?_;go_simp;refine aZ.k ?_;rintro w3 rfl;refine W _ _ ⟨c0,c3⟩ (λhS=>?_);clear W K hS;refine By λK W=>?_;go_simp;refine O.k ?_;rintro w4 hI;have k4:=I.o w4 hI.1;refine W _ _ ⟨k4.Ai.c0,k4.Ai.c3⟩ (λhS=>?_);have bQ:=A4 (aE.o w4 b0 hI);clear W K hS hI k4 O aE I
  iterate 4 refine Bq ?_
  refine Cc ?_;go_wp2;go_ret;exact⟨rfl,bQ.o⟩
 case pos=>
  have aF:R=(0,⟨J.Al++[L],L,J.puts,some (L,s1)⟩,A.2.2):=by rw[aD.o,Ae (by simpa using hc),Ae (by simpa using ha)]
  subst aF;have O:Hid (Aj 191 #[A7 b,A0 L,A0 J.puts] w.drew λe w'=>∃lb,e=.returned (.tuple #[A7 lb,A0 0])/\w.drew.heap.size<=lb/\Be w' lb 196 (A7 b) ⟨nm.toArray⟩ s1/\A5 Ft w.drew w'/\∃H,Bh w' b A.2.2 H/\(∀k,H k->k<w'.heap.size)/\(∀k,H k->Ft k\/w.drew.heap.size<=k)/\¬H lb):=by
   refine aB.m ?_;rintro e w' (⟨h1,_⟩|⟨_,h1,_⟩|⟨_,_,h2⟩)
   ·exact absurd hc h1
   ·exact absurd ha h1
   ·exact h2
  obtain⟨b3,b2,b0⟩:=A;dsimp only at O ⊢;clear aB aD aE
  go_enter func143,ntmps143
  go_wp2;refine Ce (λw'=>Aa w' jb 0 (A7 b)/\Aa w' jb 3 (A0 J.puts)) 15
   (BD [0,1,2,3,4,6,7,8,9,5,10,11,12,13,14] [5,10]) ⟨c0,c3⟩ ?_
  iterate 9 refine Bq ?_
  refine By λK W=>?_;go_simp;refine aZ.k ?_;rintro w3 rfl;refine W _ _ ⟨c0,c3⟩ (λhS=>?_);clear W K hS;refine By λK W=>?_;go_simp;refine O.m ?_;rintro e w4⟨lb,rfl,aI,a5,aW,bG,q1,q2,q3,q4⟩;have k4:=I.o w4 aW;refine W _ _ ⟨k4.Ai.c0,k4.Ai.c3⟩ (λhS=>?_);have a2:=A4 k4;have bK:Hid (w.heap.size<=lb):=aI;have aV:=A4 a5;have bY:Hid (A5 Ft w w4):=(A5.C Ft w).ad.tr aW;have cA:=A4 q1;have bX:=A4 q2;have bH:Hid (∀k,bG k->Ft k\/w.heap.size<=k):=q3;have b1:=A4 q4;clear W K hS aW aI a5 q1 q2 q3 q4 O I
  iterate 4 refine Bq ?_
  refine Cc ?_;have b5:=a2.o.Ai.s4 (A7 lb);have g44:=k4.Ai.c4;have f44:=k4.Ai.fz 4;have g52:=b5.c2;have f52:=b5.fz 2;have bI:=A4 (b5.s2 L);have ew:wrap64 (J.A8+1)=L:=by have:=aO.o;have:=hr.1;have:=hr.2;unfold wrap64;omega
  have ew2:IntKind.i64.wrap (J.A8+1)=L:=by have:=aO.o;have:=hr.1;have:=hr.2;simp[IntKind.wrap,IntKind.bits,IntKind.signed];omega
  have c5:A5 (One jb) w4 ((w4.setCell (Ad jb 4) (A7 lb)).setCell (Ad jb 2) (A0 L)):=((A5.C (One jb) w4).ao (b:=jb) rfl 4 _).ao (b:=jb) rfl 2 _;have a4:=A4 c5;clear b5 k4 c5;have bA:Hid (lb≠jb):=aV.o.dn a2.o.Ai;have aH:Hid (∀g,lv.ownBlock=some g->g≠jb/\g≠lb):=λg hg=>⟨a2.o.ne hg,aV.o.cN a2.o.Al hg⟩
  go_wp2;generalize (w4.setCell (Ad jb 4) (A7 lb)).setCell (Ad jb 2) (A0 L)=w6 at bI a4 ⊢;have aX:Hid (w6.ownsRow 0 3 1 lv J.Al.length (DR J.Al)):=AA a2.o.Al λg hg=>a4.o.Ao g (AG a2.o.Al hg) (aH.o g hg).1;have bR:=A4 (aV.o.ak a4.o bA.o);have b4:=bI.o.ad.c1;have b8:=bI.o.ad.c2;obtain⟨ap,cp,rfl,hcap1,a1,-⟩:=Bb aX.o;unfold maxLen at a1;refine Ce (λw'=>Aa w' jb 1 (.slice ap J.Al.length cp)/\Aa w' jb 2 (A0 L)) 11
   (BD [0,1,2,3,4,5,6,7,8,9,10] [9,10]) ⟨b4,b8⟩ ?_
  iterate 9 refine Bq ?_
  refine By λK W=>?_;go_simp;have ka:A5 Ab w6 (w6.aC #[A0 L] 3).drew:=((A5.C _ _).aj _).ad;have bJ:=bI.o.ak ka (λh=>h);have bV:Hid ((w6.aC #[A0 L] 3).drew.ownsRow 0 3 1 (.slice ap J.Al.length cp) J.Al.length (DR J.Al)):=AA aX.o λg hg=>ka.Ao g (AG aX.o hg) (λh=>h);have bF:Hid (Src Tryz.prog 1 120 (AN w6.heap.size 1 1) 1 #[A0 L].toList (w6.aC #[A0 L] 3).drew):=by
   have hb:(w6.aC #[A0 L] 3).drew.heap[w6.heap.size]?=some (.cells #[A0 L] 3 (0,0)):=BN w6 _;exact Src.cw underlying120 hb 1 1 rfl (JJ [L])
  refine W _ _ ⟨bJ.c1,bJ.c2⟩ (λhS=>?_);refine Dt rfl (by rfl) (λK W=>?_);refine Hx (.tmp 37) (.tmp 42) 120 120 rfl 3 i0 _ 1 8 underlying120 hi bL bW bT rfl (by decide) (.slice ap J.Al.length cp) J.Al.length (DR J.Al) (by rfl) bV.o _ 1 _ (by rfl) bF.o (by have:=a7.o;omega) ?_;intro a8 X w8 hA;have aP:=hA.An (S:=λk=>(Value.slice ap J.Al.length cp).ownBlock=some k) λ_ h=>h;have a6:=bJ.ak aP (λh=>(aH.o _ h).1 rfl);refine W _ _ ⟨a6.c1,a6.c2⟩ (λhS=>?_);have g81:=a6.c1;have f81:=a6.fz 1;have b7:=A4 (a6.s1 (.slice a8 (J.Al.length+1) X));have bU:=A4 ((bR.o.ak ka (λh=>h)).ak aP (λh=>(aH.o _ h).2 rfl));have a9:=A4 hA.AP;have bM:=A4 hA.Cu;have bZ:Hid (A5 (λk=>(Value.slice ap J.Al.length cp).ownBlock=some k) w6 w8):=(ka.aZ).tr aP;have b9:Hid (w6.heap.size<=w8.heap.size/\w6.heap.size<=(w6.aC #[A0 L] 3).drew.heap.size):=⟨bZ.o.Am,ka.Am⟩;refine Cc ?_;go_wp2;go_ret;have aA:∀g,(Value.slice a8 (J.Al.length+1) X).ownBlock=some g->(Value.slice ap J.Al.length cp).ownBlock=some g\/w6.heap.size<=g:=λg hg=>by
   rcases bM.o with h|h
   ·rw[h]at hg;exact .inl hg
   ·rw[h]at hg;cases hg;exact .inr b9.o.2
  have s46:=a4.o.Am;have s04:=bY.o.Am;have jbl:=bE.o.Ai.lt;have bC:∀g,(Value.slice a8 (J.Al.length+1) X).ownBlock=some g->g≠jb:=λg hg=>by
   rcases aA g hg with h|h
   ·exact(aH.o g h).1
   ·omega
  have kf:A5 (One jb) w8 (w8.setCell (Ad jb 1) (.slice a8 (J.Al.length+1) X)):=(A5.C (One jb) w8).ao (b:=jb) rfl 1 _;have aR:A5 (λk=>k=jb\/(Value.slice ap J.Al.length cp).ownBlock=some k) w4 (w8.setCell (Ad jb 1) (.slice a8 (J.Al.length+1) X)):=
   ((a4.o.ae λ_ _ h=>.inl h).AJ bZ.o λ_ h _=>.inr h).AJ kf λ_ h _=>.inl h
  refine⟨rfl,Ax.jd (lv:=.slice a8 (J.Al.length+1) X) (ov:=(A7 lb)) (Ft:=bG) ((bY.o.ae (S':=λk=>Ft k\/k=jb\/(Value.slice ap J.Al.length cp).ownBlock=some k) λ_ _ h=>.inl h).AJ aR λ_ h _=>.inr h) ?_ ⟨b7.o,?_,.inr ⟨L,s1,lb,rfl,rfl,?_,bB⟩⟩ ?_ ?_ ?_ ?_ ?_⟩
  ·rintro k _ (h|rfl|h)
   ·exact aG.o k (.inl h)
   ·exact aG.o _ (.inr (.inl rfl))
   ·exact aG.o k (.inr (.inr (.inl h)))
  ·(have e:(J.Al++[L]).length=J.Al.length+1:=by simp);unfold DF;rw[KK,e];exact AA a9.o λg hg=>GY _ _ _ _ (λe=>bC g hg e)
  ·rw[bP.o];exact bU.o.ak kf bA.o
  ·refine B5.aM cA.o (aR.az bX.o λk z Y=>?_);rcases bH.o k z with h|h
   ·rcases Y with rfl|Y
    ·exact a3.o _ (.inl rfl) h
    ·exact a3.o k (.inr (.inl Y)) h
   ·rcases Y with rfl|Y
    ·omega
    ·have:=AG bE.o.Al Y;omega
  ·exact λk z=>Bm (bX.o k z) aR.Am
  ·rintro k (rfl|z|z) Y
   ·rcases bH.o _ Y with h|h
    ·exact a3.o _ (.inl rfl) h
    ·omega
   ·rcases aA k z with h|h
    ·rcases bH.o k Y with h' | h'
     ·exact a3.o k (.inr (.inl h)) h'
     ·have:=AG bE.o.Al h;omega
    ·have:=bX.o k Y;omega
   ·cases z;exact b1.o Y
  ·exact λk z=>(bH.o k z).imp (λh=>aG.o k (.inl h)) id
  ·rintro k (rfl|z|z)
   ·exact .inl (aG.o _ (.inr (.inl rfl)))
   ·rcases aA k z with h|h
    ·exact .inl (aG.o k (.inr (.inr (.inl h))))
    ·exact .inr (by omega)
   ·cases z;exact .inr bK.o
end
end
end Go.Proofs.YtodcnkbblippnabGreatDoor
