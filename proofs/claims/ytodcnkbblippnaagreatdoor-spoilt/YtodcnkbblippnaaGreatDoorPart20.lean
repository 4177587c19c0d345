/- Part 20 of a proof: walks of the program. -/
import Derived.Test.YtodcnkbblippnaaGreatDoorPart19
namespace Go.Proofs.YtodcnkbblippnaaGreatDoor
set_option maxRecDepth 100000
set_option maxHeartbeats 32000000
set_option linter.defProp false
open Go.Proofs.Tryz
section
open Go.RowKit
attribute [local go_sem ↓] CJ
def LC{lt nm:Bs}{v:Int}(h:DX lt nm=some v):(1<=v/\v<=4611686018427387904)/\Em lt v=nm:=by
 unfold DX at h;cases hx:Lib.atoiAll (Lib.trimPrefix nm lt) with
 | ok x=>
  rw[hx]at h;dsimp only at h;split at h
  ·rename_i d;cases h;exact⟨⟨by omega,d.2.1⟩,d.2.2⟩
  ·cases h
 | «syntax»=>rw[hx]at h;cases h
 | range=>rw[hx]at h;cases h
def Ue{nm:Bs}:(H4 nm).1≠1/\(H4 nm).1≠2:=by
 unfold H4 I9;split
 ·simp
 ·split<;>simp
def LB{nm:Bs}(h:(Ba nm).1=1):(1<=(Ba nm).2/\(Ba nm).2<=4611686018427387904)/\Af (Ba nm).2=nm:=by
 unfold Ba at h ⊢;cases hx:DX [108] nm with
 | some v=>exact LC hx
 | none=>
  rw[hx]at h;dsimp only at h;unfold H5 at h;cases hy:DX [115] nm with
  | some v=>rw[hy]at h;cases h
  | none=>rw[hy]at h;exact absurd h Ue.1
def MV{nm:Bs}(h:(Ba nm).1=2):(1<=(Ba nm).2/\(Ba nm).2<=4611686018427387904)/\Aw (Ba nm).2=nm:=by
 unfold Ba at h ⊢;cases hx:DX [108] nm with
 | some v=>rw[hx]at h;cases h
 | none=>
  rw[hx]at h;dsimp only at h ⊢;unfold H5 at h ⊢;cases hy:DX [115] nm with
  | some v=>exact LC hy
  | none=>rw[hy]at h;exact absurd h Ue.2
def U6(nm:Bs):AT (Ba nm).2:=by
 unfold Ba;cases hx:DX [108] nm with
 | some v=>have:=(LC hx).1;unfold AT;dsimp only;omega
 | none=>
  dsimp only
  unfold H5;cases hy:DX [115] nm with
  | some v=>have:=(LC hy).1;unfold AT;dsimp only;omega
  | none=>dsimp only;unfold H4 I9 AT;split<;>(try split)<;>simp
def A1b(first:Int)(l l':gh Bs):Br first (l++l')=Br first l++Br first l':=by simp[Br]
def LG(first:Int)(l:gh Bs):(Br first l).length<=l.length:=List.length_filterMap_le _ _
def Pw{first n:Int}{l:gh Bs}(h:n∈Br first l):first<=n/\(1<=n/\n<=4611686018427387904)/\Af n∈l:=by
 have⟨nm,h1,h2⟩:=KP.1 h;split at h2
 ·rename_i d;cases h2;have⟨k1,k2⟩:=LB d.1;exact⟨d.2,k1,by rw[k2];exact h1⟩
 ·cases h2
def Js(P:PD):P.Ai.length=P.D.A4.length:=by
 unfold PD.Ai dList;rw[FW,Ng _ _ (Ao _)]
def Vc(l:gh Int)(x d:Int):(l++[x]).getLastD d=x:=by
 rw[KQ];simp
def MZ{w:ga}{b:Nat}{P:PD}{Ft:Nat->Prop}{a c m:Nat}(h:Bf w b P Ft)(H:Fit P a c m)(I:CP a c m):
 Calls Tryz.prog 76 #[.pointer (some ⟨b,0,none⟩)] w λe w'=>∃v,e=.returned v/\Dg w' v P.Ai/\A3 (λ_=>False) w w'/\(∀g,v.ownBlock=some g->w.heap.size<=g):=by
 refine(A1k h (by have:=H.A4;have:=I.a;omega)).mono ?_;rintro e w'⟨v,E,d,L,z⟩;refine⟨v,E,?_,L,z⟩;have O:=Js P;unfold Dg;rw[O];rw[Yc]at d;exact d
section
variable{w:ga}{b B:Nat}{P:PD}{Ft:Nat->Prop}{a c m:Nat}{first:Int}
def A1K(w:ga)(h:Bf w b P Ft)(aB:∀k,Ft k->k<w.heap.size)(hF:Fit P a c m)(hl:CP a c m)(bH:a*m<=70368744177664)(hf:1<=first/\first<=4611686018427387904)(hL:Lets B w)(hE:Il w)(bO:∀nm∈P.Ai,nm.length<=281474976710656):
 Ag 99 #[A5 b,A0 first] w λe w'=>
  ((P.pd (Br first P.Ai)).2≠0/\e=.returned (.tuple #[.pointer none,.slice none 0 0,A0 (P.pd (Br first P.Ai)).2])/\A3 Ab w w')\/
  ((P.pd (Br first P.Ai)).2=0/\∃d lv v,e=.returned (.tuple #[A5 d,v,A0 0])/\DE w' d b lv (.pointer none) (P.bB first)/\AX w' v (P.pd (Br first P.Ai)).1/\(∀k,Dq d lv (.pointer none) k->w.heap.size<=k)/\(∀g,v.ownBlock=some g->w.heap.size<=g)/\A3 Ab w w'):=by
 obtain⟨i0,hi,bF,bN,bK⟩:∃i0,Tryz.prog.info? 3=some i0/\i0.zero=some (A0 0)/\i0.size=1/\i0.bytes=8:=by
  have h:=Tryz.cU;cases O:Tryz.prog.info? 3 with
  | none=>rw[O]at h;cases h
  | some i=>rw[O]at h;simp at h;exact⟨i,rfl,h.1,h.2.1,h.2.2⟩
 have bY:Hid (∀I,A3 Ab w I->Ag 76 #[A5 b] I λe w'=>∃v,e=.returned v/\Dg w' v P.Ai/\A3 Ab I w'/\(∀g,v.ownBlock=some g->I.heap.size<=g)):=λI W=>MZ (B1.ay h aB W) hF hl;have bX:Hid (∀I,A3 Ab w I->∀nm∈P.Ai,Ag 97 #[.string ⟨nm.toArray⟩] I λe w'=>e=.returned (.tuple #[A0 (Ba nm).1,A0 (Ba nm).2])/\A3 Ab I w'):=λI W nm hm=>U5 I nm (bO nm hm) (hE.aO W) (hL.aO W);have aF:P.Ai.length<=a:=by rw[Js];exact hF.A4
 have bU:Hid (∀I d lv lh,A3 Ab w I->DE I d b lv (.pointer none) ⟨Br first P.Ai,lh,0,none⟩->Ag 106 #[A5 d] I λe w'=>∃v,e=.returned (.tuple #[v,A0 (P.pd (Br first P.Ai)).2])/\AX w' v (P.pd (Br first P.Ai)).1/\(∀g,v.ownBlock=some g->I.heap.size<=g)/\A3 Ab I w'):=λI d lv lh W hJ=>
  OY I (B1.ay h aB W) (λk hk=>Bi (aB k hk) W.Aj) hJ hF hl (AJ (Gd m (AJ (LG first P.Ai) aF)) bH) (λn hn=>by have⟨_,h2,_⟩:=Pw hn;exact I7 (by omega) h2.2) (hL.aO W)
 have hnl2:P.Ai.length<=1073741824:=AJ aF hl.a;have a6:Hid (P.bB first=⟨Br first P.Ai,(Br first P.Ai).getLastD (first-1),(P.pd (Br first P.Ai)).1.length,none⟩):=rfl;generalize hZ:P.bB first=Z at a6 ⊢
 generalize hR:P.pd (Br first P.Ai)=R at bU a6 ⊢;generalize P.Ai=ns at *;obtain⟨f1,f2⟩:=hf;have ew:IntKind.i64.wrap (first-1)=first-1:=En (by omega)
 have aO:CD (w.alloc (.cells #[A5 b,.slice none 0 0,A0 (first-1),A0 0,.pointer none] 208)) w.heap.size b (.slice none 0 0) (first-1) 0 (.pointer none):=BL w _;have bW:Hid (A3 Ab w (w.alloc (.cells #[A5 b,.slice none 0 0,A0 (first-1),A0 0,.pointer none] 208))):=(A3.I _ w).al _;have bM:=A1 (bY.o _ bW.o);have a7:=A1 aO;have bV:Hid (w.heap.size<(w.alloc (.cells #[A5 b,.slice none 0 0,A0 (first-1),A0 0,.pointer none] 208)).heap.size):=by unfold Hid;simp
 go_enter func99,ntmps99
 go_wp2_with (fail);refine bM.o.mono ?_;rintro e I⟨v,rfl,hv,aU,aQ⟩;obtain⟨na,a4,rfl,nc1,bA⟩:=(Dg.rd hv).Cd;unfold maxLen at bA;have b0:=A1 (Dg.rd hv);have bS:=A1 (a7.o.an aU (λh=>h));have bZ:Hid (A3 Ab w I):=bW.o.tr aU;have Y:Hid (w.heap.size<I.heap.size):=Bi bV.o aU.Aj;have bC:Hid (∀g,(Value.slice na ns.length a4).ownBlock=some g->w.heap.size<g):=λg E=>Bi bV.o (aQ g E);generalize aO:w.heap.size=d at bS Y ⊢;have aS:=A1 aO;go_wp2;go_loopw [22] (λiv wr=>∃k:Nat,iv=A0 k/\k<=ns.length/\Hid (∃lv,CD wr d b lv ((Br first (ns.take k)).getLastD (first-1)) 0 (.pointer none)/\DF wr lv (Br first (ns.take k))/\(∀g,lv.ownBlock=some g->I.heap.size<=g)/\A3 Ab w wr/\A3 (One d) I wr)) (λiv _=>ns.length-(intOf iv).toNat)
 ·exact⟨0,rfl,by omega,_,bS.o,CT _ _ _ _,λg E=>by simp[Value.ownBlock]at E,bZ.o,A3.I _ _⟩
 ·obtain⟨k,rfl,hk,hI⟩:=hrel;have⟨lv,i1,i2,i3,i4,i5⟩:=hI.o;by_cases aE:k<ns.length
  ·obtain⟨g,o,rfl,d1⟩:=GC.at b0.o k aE;have aK:=BU aE;have a3:ns.take (k+1)=ns.take k++[ns[k]'aE]:=Dy aE;generalize hne:(ns[k]'aE)=nm at d1 aK a3;(have hgj:d<g:=by have:=bC.o g rfl;have:=aS.o;omega);have e1:=i5.bq d1 (λh=>by have h':g=d:=h;omega);have aH:=A1 (bX.o wr i4 nm aK);have aR:=U6 nm;have aD:Hid (Br first (ns.take (k+1))=Br first (ns.take k)++(if (Ba nm).1=1/\first<=(Ba nm).2 then [(Ba nm).2] else [])):=by
    unfold Hid;rw[a3,A1b]
    congr 1
    unfold Br;by_cases W:(Ba nm).1=1/\first<=(Ba nm).2<;>simp[W]
   generalize hX:Ba nm=X at aH aD aR;obtain⟨s,n⟩:=X;dsimp only at aH aD aR;obtain⟨r1,r2⟩:=aR;have aM:Hid ((Br first (ns.take k)).length<=ns.length):=AJ (LG _ _) (by rw[BT];omega);have aV:=A1 i1;have aG:=A1 i2;have aI:=A1 i3;have aL:=A1 i4;have aW:=A1 i5;(have bD:(k:Int)<(ns.length:Int):=by omega);have hk0:(0:Int)<=(k:Int):=GK _;generalize hlg:Br first (ns.take k)=lg at aD aM aV aG
   by_cases W:s=1/\first<=n
   case neg=>
    (have L:Hid (Br first (ns.take (k+1))=lg):=by rw[aD.o,Aa W,GJ];rfl);by_cases hs:s=1
    ·subst hs;have bL:¬first<=n:=λh=>W ⟨rfl,h⟩
     go_wp2_with (go_at_call 97;refine aH.k ?_;rintro w6 H;have z:=A1 H);go_roundw
     ·exact⟨k+1,by go_num,by omega,lv,by rw[L.o];exact aV.o.an z.o (λh=>h),by rw[L.o];exact Ax aG.o λg E=>z.o.An g (AF aG.o E) (λh=>h),aI.o,aL.o.tr z.o,aW.o.b5 z.o⟩
     ·simp[intOf];omega
    ·(have hsb:(s==1)=false:=by simpa using hs);go_wp2_with (go_at_call 97;refine aH.k ?_;rintro w6 H;have z:=A1 H);go_roundw
     ·exact⟨k+1,by go_num,by omega,lv,by rw[L.o];exact aV.o.an z.o (λh=>h),by rw[L.o];exact Ax aG.o λg E=>z.o.An g (AF aG.o E) (λh=>h),aI.o,aL.o.tr z.o,aW.o.b5 z.o⟩
     ·simp[intOf];omega
   case pos=>
    (have L:Hid (Br first (ns.take (k+1))=lg++[n]):=by rw[aD.o,Ae W];rfl);obtain⟨rfl,bL⟩:=W;obtain⟨ap,cp,rfl,hcap1,aT,-⟩:=B9 aG.o;unfold maxLen at aT;go_wp2_with (fail);refine aH.k ?_;rintro w6 H;have aX:=aV.o.an H (λh=>h);have g1:=aX.c1;have aZ:Hid ((w6.alloc (.cells #[A0 n] 3)).ownsRow 0 3 1 (.slice ap lg.length cp) lg.length (DZ lg)):=Ax aG.o λg E=>(H.al _).An g (AF aG.o E) (λh=>h)
    have a9:=A1 (Src.bh (size:=1) (B:=w6.heap.size) Ho w6 #[A0 n] 3 (by simp) 1 1 rfl (Kk [n]));have a5:=A1 (aX.an ((A3.I Ab w6).al (.cells #[A0 n] 3)) (λh=>h));have bT:Hid (A3 Ab wr (w6.alloc (.cells #[A0 n] 3))):=H.al _;have c71:=a5.o.c1;go_wp2_with (at_builtin;refine Dj rfl (.tmp 42) (.tmp 44) 26 26 rfl 3 i0 _ 1 8 Ho hi bF bN bK rfl (by decide) (.slice ap lg.length cp) lg.length (DZ lg) (by rfl) aZ.o _ 1 _ (by rfl) a9.o (by have:=aM.o;omega) ?_;intro a8 aA w8 hA;have aY:=A1 (hA.Al (S:=λk=>(Value.slice ap lg.length cp).ownBlock=some k) λ_ h=>h);have bJ:=a5.o.an aY.o (λh=>by have:=aI.o _ h;have:=Y.o;omega);have g81:=bJ.c1;have f81:=bJ.fz 1;have bI:=bJ.s1 (.slice a8 (lg.length+1) aA);have g82:=bI.c2;have f82:=bI.fz 2;have a2:=A1 (bI.s2 n);have a0:=A1 hA.AE;have bG:=A1 hA.CA);go_roundw
    ·(have e:(lg++[n]).length=lg.length+1:=by simp);have aN:∀g,(Value.slice a8 (lg.length+1) aA).ownBlock=some g->I.heap.size<=g:=λg E=>by
      rcases bG.o with h|h
      ·rw[h]at E;exact aI.o g E
      ·rw[h]at E;cases E;have:=aW.o.Aj;have:=bT.o.Aj;omega
     have k8:A3 (λk=>(Value.slice ap lg.length cp).ownBlock=some k) wr w8:=(bT.o.aY).tr aY.o;have a1:A3 (λk=>k=d\/(Value.slice ap lg.length cp).ownBlock=some k) wr ((w8.setCell (Ac d 1) (.slice a8 (lg.length+1) aA)).setCell (Ac d 2) (A0 n)):=
      ((k8.af λ_ _ h=>.inr h).aq (b:=d) (.inl rfl) 1 _).aq (b:=d) (.inl rfl) 2 _
     refine⟨k+1,by go_num,by omega,.slice a8 (lg.length+1) aA,by rw[L.o,Vc];exact a2.o,?_,aN,?_,?_⟩
     ·rw[L.o];unfold DF;rw[LN,e];exact Ax a0.o λg E=>by
       have h1:=aN g E;have h2:=Y.o;rw[Hg _ _ _ _ (λe=>by have e':g=d:=e;omega),Hg _ _ _ _ (λe=>by have e':g=d:=e;omega)]
     ·exact aL.o.Av a1 λx O aB=>by
       have h2:=aS.o;rcases O with rfl|O
       ·omega
       ·have:=aI.o x O;have:=Y.o;omega
     ·exact aW.o.Av a1 λx O aB=>by
       rcases O with rfl|O
       ·rfl
       ·have:=aI.o x O;omega
    ·simp[intOf];omega
  ·(obtain rfl:k=ns.length:=by omega);rw[Cf]at i1 i2;(have bD:¬((ns.length:Int)<(ns.length:Int)):=by omega);have aP:=A1 (bU.o wr d lv _ i4 ⟨i1,i2,.inl ⟨rfl,rfl⟩⟩);obtain⟨bR,bQ⟩:=R;dsimp only at aP a6;have aV:=A1 i1;have aG:=A1 i2;have aI:=A1 i3;have aL:=A1 i4;have aW:=A1 i5;by_cases hr:bQ=0
   case neg=>
    (have hrb:(bQ !=0)=true:=by simpa using hr);go_wp2_with (go_at_call 106;refine aP.o.mono ?_;rintro e w6⟨v,rfl,-,-,H⟩;have z:=A1 H);go_ret3;exact⟨rfl,aL.o.tr z.o⟩
   case pos=>
    subst hr;go_wp2_with (fail);refine aP.o.mono ?_;rintro e w6⟨v,rfl,hv,aQ,H⟩;obtain⟨va,vcap,rfl,vc1,bE,-⟩:=B9 hv;unfold maxLen at bE;have aX:=aV.o.an H (λh=>h);have g63:=aX.c3;have f63:=aX.fz 3;have a5:=A1 (aX.s3 bR.length);have bB:=A1 hv;have aJ:=A1 aQ;have z:=A1 H;go_wp2;go_ret3;(have bP:∀g,lv.ownBlock=some g->g≠d:=λg E e=>by have:=aI.o g E;have:=Y.o;omega);have h2:=aS.o;have k7:A3 (One d) wr (w6.setCell (Ac d 3) (A0 bR.length)):=(z.o.aY (S:=One d)).aq (b:=d) rfl 3 _;refine⟨d,lv,_,rfl,?_,?_,λx O=>?_,λg E=>?_,?_⟩
    ·rw[a6.o];exact⟨a5.o,Ax aG.o λg E=>k7.An g (AF aG.o E) (bP g E),.inl ⟨rfl,rfl⟩⟩
    ·exact Ax bB.o λg E=>Hg _ _ _ _ (λe=>by
      have e':g=d:=e;have:=aJ.o g E;have:=aL.o.Aj;have:=aW.o.Aj;have:=Y.o
      omega)
    ·rcases O with rfl|O|O
     ·omega
     ·have:=aI.o x O;have:=Y.o;omega
     ·cases O
    ·have:=aJ.o g E;have:=aL.o.Aj;omega
    ·exact aL.o.Av k7 λx O aB=>by have e':x=d:=O;omega
end
def JD(w:ga)(jb b:Nat)(J:Jn)(P:PD)(FT:Nat->Prop):Prop:=
 ∃lv ov Ft,DE w jb b lv ov J/\Bf w b P Ft/\(∀k,Ft k->k<w.heap.size)/\(∀k,Dq jb lv ov k->¬Ft k)/\∀k,Ft k\/Dq jb lv ov k->FT k
def JD.aN{w w':ga}{jb b:Nat}{J:Jn}{P:PD}{FT:Nat->Prop}(h:JD w jb b J P FT)(E:Gb FT w w')(O:w.heap.size<=w'.heap.size):JD w' jb b J P FT:=by
 obtain⟨lv,ov,Ft,L,H,W,I,z⟩:=h;exact⟨lv,ov,Ft,L.aN λk d=>E k (z k (.inr d)),H.aN λk d=>E k (z k (.inl d)),λk d=>Bi (W k d) O,I,z⟩
def Aq.jd{w w':ga}{jb b:Nat}{J:Jn}{P:PD}{FT S:Nat->Prop}{lv ov:gd}{Ft:Nat->Prop}(hc:A3 S w w')(Y:∀k,k<w.heap.size->S k->FT k)(E:DE w' jb b lv ov J)(I:Bf w' b P Ft)(H:∀k,Ft k->k<w'.heap.size)(L:∀k,Dq jb lv ov k->¬Ft k)(O:∀k,Ft k->FT k\/w.heap.size<=k)(W:∀k,Dq jb lv ov k->FT k\/w.heap.size<=k):
 Aq w FT w' (λw' d=>JD w' jb b J P d):=
 ⟨hc.af Y,λk=>Ft k\/Dq jb lv ov k,⟨lv,ov,Ft,E,I,H,L,λ_ h=>h⟩,λk z=>z.elim (H k) λh=>E.lt h,λk z=>z.elim (O k) (W k)⟩
def DE.ne{w:ga}{jb b:Nat}{lv ov:gd}{J:Jn}(h:DE w jb b lv ov J){g:Nat}(d:lv.ownBlock=some g):g≠jb:=by
 have⟨c,hc⟩:=Be h.Ak d;exact BR hc h.Ah (by decide)
def Bd.cT{w:ga}{lb:Nat}{p:gd}{d:gg}{s n:Nat}{v:gd}{xs:gh gd}(h:Bd w lb 237 p d s)(z:w.ownsRow 0 3 1 v n xs){g:Nat}(E:v.ownBlock=some g):g≠lb:=by
 have⟨c,hc⟩:=Be z E;exact BR hc h (by decide)
def Bd.dA{w:ga}{lb jb b:Nat}{p:gd}{d:gg}{s:Nat}{lv ov:gd}{z pd:Int}(h:Bd w lb 237 p d s)(E:CD w jb b lv z pd ov):lb≠jb:=BR h E (by decide)
section
variable{w:ga}{b B jb lb:Nat}{P:PD}{Ft FT:Nat->Prop}{a c m:Nat}{lv ov:gd}{J:Jn}{n:Int}
def TV(w:ga)(h:DE w jb b lv ov J)(d:AT (J.A8+1)):
 Ag 199 #[A5 jb] w (Am (A0 (J.A8+1)) λw'=>w=w'):=by
 have c2:=h.Ah.c2;obtain⟨r1,r2⟩:=d;have ew:wrap64 (J.A8+1)=J.A8+1:=by unfold wrap64;omega
 go_enter func199,ntmps199
 go_wp2;go_ret;exact⟨rfl,rfl⟩
def A09(w:ga)(hJ:DE w jb b lv ov J)(hl:J.Ak.length<=1073741824):
 Ag 136 #[A5 jb] w λe w'=>∃v,e=.returned v/\DF w' v J.Ak/\(∀g,v.ownBlock=some g->w.heap.size<=g)/\A3 Ab w w':=by
 obtain⟨d,hi,L,O,W⟩:∃d,Tryz.prog.info? 3=some d/\d.zero=some (A0 0)/\d.size=1/\d.bytes=8:=by
  have h:=Tryz.cU;cases hx:Tryz.prog.info? 3 with
  | none=>rw[hx]at h;cases h
  | some i=>rw[hx]at h;simp at h;exact⟨i,rfl,h.1,h.2.1,h.2.2⟩
 have c1:=hJ.Ah.c1;have z:=A1 (Src.bN Ho hJ.Ak (Kk J.Ak));have E:Hid (w.ownsRow 0 3 1 (.slice none 0 0) 0 []):=CT _ _ _ _;generalize J.Ak=l at *
 go_enter func136,ntmps136
 go_wp2_with (at_builtin;refine Dj rfl (.const (.slice none 0 0)) (.tmp 6) 26 26 rfl 3 d _ 1 8 Ho hi L O W rfl (by decide) (.slice none 0 0) 0 [] (by rfl) E.o _ l.length _ (by rfl) z.o (by omega) ?_;intro a8 cap8 w8 I;have aA:=A1 I);go_ret;have I:=aA.o;have Y:=I.Al (S:=λ_=>False) λ_ h=>by simp[Value.ownBlock]at h
 refine⟨_,rfl,?_,?_,Y⟩
 ·have:=I.AE;simp only[Ff,GF]at this ⊢;exact this
 ·intro g hg;have H:=I.CA;simp only[GF]at H;cases a8 with
  | none=>simp[Value.ownBlock]at hg
  | some x=>
   simp[Value.ownBlock]at H hg;omega
def A1m(w:ga)(z:DE w jb b lv ov J):
 Ag 201 #[A5 jb] w (Am (.tuple #[]) λw'=>DE w' jb b (.slice none 0 0) (.pointer none) ⟨[],J.A8,0,none⟩/\A3 (One jb) w w'):=by
 have h:=z.Ah.s1 (.slice none 0 0);have d:=h.s3 0;have E:=d.s4 (.pointer none);have c1:=z.Ah.c1;have f1:=z.Ah.fz 1;have c3:=h.c3;have f3:=h.fz 3;have c4:=d.c4;have f4:=d.fz 4;have H:=A1 E
 go_enter func201,ntmps201
 go_wp2;go_end0;exact⟨rfl,⟨H.o,CT _ _ _ _,.inl ⟨rfl,rfl⟩⟩,((((A3.I (One jb) w).aq (b:=jb) rfl 1 _).aq (b:=jb) rfl 3 _).aq (b:=jb) rfl 4 _)⟩
def A1J(w:ga)(h:JD w jb b J P FT):
 Ag 119 #[A5 jb] w (Am (A0 (J.ad P).1) λw'=>Aq w FT w' (λw' H=>JD w' jb b J (J.ad P).2 H)):=by
 obtain⟨lv,ov,Ft,I,hD,L,E,z⟩:=h;have c4:=I.Ah.c4;rcases I.AE with⟨W,rfl⟩|⟨n,s,lb,W,rfl,hf,hs⟩
 ·have e:J.ad P=(0,P):=by unfold Jn.ad;rw[W]
  rw[e];have aD:=A1 (show Aq w FT w (λw' H=>JD w' jb b J P H) from Aq.jd (A3.I Ab w) (λ_ _ h=>h.elim) I hD L E (λk d=>.inl (z k (.inl d))) (λk d=>.inl (z k (.inr d))))
  go_enter func119,ntmps119
  go_wp2;go_ret;exact⟨rfl,aD.o⟩
 ·have e:J.ad P=P.ad (A6 (Af n)):=by unfold Jn.ad;rw[W]
  rw[e];have O:=A1 (RB hf hD);have e1:(⟨(Af n).toArray⟩:gg)=A6 (Af n):=rfl;rw[e1]at O;generalize hR:P.ad (A6 (Af n))=R at O ⊢;have aA:=A1 I;have aB:=A1 E;have Y:=A1 z
  go_enter func119,ntmps119
  go_wp2_with (go_at_call 164;refine O.k ?_;rintro w2 hI;have aE:=A1 hI);go_ret;have⟨r1,Ft',r2,r3,r4⟩:=aE.o;exact⟨rfl,Aq.jd r1 (λk _ d=>Y.o k (.inl d)) (aA.o.Al r1 aB.o) r2 r3 (λk d hx=>by rcases r4 k hx with h|h;exact aB.o k d h;have:=aA.o.lt d;omega) (λk d=>(r4 k d).imp (λh=>Y.o k (.inl h)) id) (λk d=>.inl (Y.o k (.inr d)))⟩
def A0X(w:ga)(E:Int)(h:Bf w b P Ft)(I:∀k,Ft k->k<w.heap.size)(hn:CH n)(Y:Lets B w)(ha:AT E)(L:Fit P a c m)(H:CP (a+1) (c+1) (m+12)):
 Ag 236 #[A5 b,A0 n,A0 E] w λe w'=>
  ((P.ai (A6 (Af n))).1≠0/\e=.returned (.tuple #[.pointer none,A0 (P.ai (A6 (Af n))).1])/\Aq w Ft w' (λw' d=>Bf w' b (P.ai (A6 (Af n))).2 d))\/
  ((P.ai (A6 (Af n))).1=0/\((P.ai (A6 (Af n))).2.ae (A6 (Af n)) (AB (Af n)) (AO E)).2.1≠0/\e=.returned (.tuple #[.pointer none,A0 ((P.ai (A6 (Af n))).2.ae (A6 (Af n)) (AB (Af n)) (AO E)).2.1])/\Aq w Ft w' (λw' d=>Bf w' b ((P.ai (A6 (Af n))).2.ae (A6 (Af n)) (AB (Af n)) (AO E)).2.2 d))\/
  ((P.ai (A6 (Af n))).1=0/\((P.ai (A6 (Af n))).2.ae (A6 (Af n)) (AB (Af n)) (AO E)).2.1=0/\∃lb,e=.returned (.tuple #[A5 lb,A0 0])/\w.heap.size<=lb/\Bd w' lb 237 (A5 b) ⟨(Af n).toArray⟩ (AP (AB (Af n)) (AO E))/\
    A3 Ft w w'/\∃d,Bf w' b ((P.ai (A6 (Af n))).2.ae (A6 (Af n)) (AB (Af n)) (AO E)).2.2 d/\(∀k,d k->k<w'.heap.size)/\(∀k,d k->Ft k\/w.heap.size<=k)/\¬d lb):=by
 have z:=L.ai (A6 (Af n));have hp:(AS (AB (Af n)) (AO E)).length=12:=by simp[AS,Hh,CQ]
 have W:=z.ak (A6 (Af n)) (AS (AB (Af n)) (AO E));have hz:=Kt W (A6 (Af n));have O:=Kt z (A6 (Af n));have hm:=H.m;exact A0W w E P.D.AR (P.ai (A6 (Af n))).2.D ((P.ai (A6 (Af n))).2.ak (A6 (Af n)) (AS (AB (Af n)) (AO E))).2.D (P.ai (A6 (Af n))).2.F ((P.ai (A6 (Af n))).2.ak (A6 (Af n)) (AS (AB (Af n)) (AO E))).2.F _ _ h I hn Y ha P.D.cg
  (by have:=L.A4;have:=L.Al;have:=H.a;have:=H.c;omega) rfl rfl rfl z.AA (AJ z.cV (AJ (Ih H.a (AJ (WJ m 12) H.m)) (by decide))) z.BC
  (λf hf=>by have:=z.B4 f (FP hf);omega) ⟨KX hz (by rw[hp];omega),KX O (by omega)⟩
def A4J(p:Pu)(d:gg)(s:Nat)(O:Bd w lb 237 (A5 b) d s)(hs:s<4294967296)(h:Bf w b P Ft)(E:∀k,Ft k->k<w.heap.size)(hn:¬Ft lb)(hp:B8 p)(z:Fit P a c m)(W:CP a c (m+21)):
 Ag 191 #[A5 lb,DA p] w (Am (.tuple #[.bool (P.ae d s (Bc p.1 p.2.1 p.2.2)).1,A0 (P.ae d s (Bc p.1 p.2.1 p.2.2)).2.1]) λw'=>
  Bd w' lb 237 (A5 b) d (AP s (Bc p.1 p.2.1 p.2.2))/\JR w Ft lb w' b (P.ae d s (Bc p.1 p.2.1 p.2.2)).2.2):=by
 obtain⟨⟨h1,h2⟩,h3,Y⟩:=hp;have I:(AS s (Bc p.1 p.2.1 p.2.2)).length=21:=by simp[AS,Hh,P5]
 have hA:=z.ak d (AS s (Bc p.1 p.2.1 p.2.2));have hz:=Kt hA d;have L:=Kt z d;have hm:=W.m;have H:CP a c m:=⟨W.a,W.c,by omega⟩;exact A4I w lb d s p.1 p.2.1 p.2.2 ⟨h1,by omega⟩ h3 Y O hs h E hn z.AA (z.ei H) z.BC (λf O=>by have:=z.B4 f (FP O);omega) ⟨KX hz (by rw[I];omega),KX L (by omega)⟩
end
def PO:∃d,Tryz.prog.info? 3=some d/\d.zero=some (A0 0)/\d.size=1/\d.bytes=8:=by
 have h:=Tryz.cU;cases hx:Tryz.prog.info? 3 with
 | none=>rw[hx]at h;cases h
 | some i=>rw[hx]at h;simp at h;exact⟨i,rfl,h.1,h.2.1,h.2.2⟩
section
variable{w:ga}{b B jb lb:Nat}{P:PD}{Ft FT:Nat->Prop}{a c m:Nat}{lv ov:gd}{J:Jn}{n:Int}
def A36(w:ga)(h:JD w jb b J P FT)(ho:J.AE=none)(hn:CH (J.A8+1))(hr:AT (J.A8+1))(hp:AT J.pd)(bD:J.Ak.length<=1073741824)(hL:Lets B w)(hF:Fit P a c m)(hl:CP (a+1) (c+1) (m+12)):
 Ag 190 #[A5 jb] w (Am (A0 (J.aw P).1) λw'=>Aq w FT w' (λw' aT=>JD w' jb b (J.aw P).2.1 (J.aw P).2.2 aT)):=by
 obtain⟨i0,hi,bL,bW,bT⟩:=PO;obtain⟨lv,ov,Ft,hJ,hD,aS,aM,aN⟩:=h;have bN:ov=.pointer none:=by
  rcases hJ.AE with⟨_,h⟩|⟨n,s,lb,h,_⟩
  ·exact h
  ·rw[ho]at h;cases h
 subst bN
 have aD:Hid (J.aw P=if (P.ai (A6 (Af (J.A8+1)))).1≠0 then ((P.ai (A6 (Af (J.A8+1)))).1,J,(P.ai (A6 (Af (J.A8+1)))).2) else
  if ((P.ai (A6 (Af (J.A8+1)))).2.ae (A6 (Af (J.A8+1))) (AB (Af (J.A8+1))) (AO J.pd)).2.1≠0 then (((P.ai (A6 (Af (J.A8+1)))).2.ae (A6 (Af (J.A8+1))) (AB (Af (J.A8+1))) (AO J.pd)).2.1,J,((P.ai (A6 (Af (J.A8+1)))).2.ae (A6 (Af (J.A8+1))) (AB (Af (J.A8+1))) (AO J.pd)).2.2) else
  (0,⟨J.Ak++[J.A8+1],J.A8+1,J.pd,some (J.A8+1,AP (AB (Af (J.A8+1))) (AO J.pd))⟩,((P.ai (A6 (Af (J.A8+1)))).2.ae (A6 (Af (J.A8+1))) (AB (Af (J.A8+1))) (AO J.pd)).2.2)):=rfl
 have aJ:Hid (∀w1,A3 Ab w w1->_):=λw1 hc=>A0X w1 J.pd (B1.ay hD aS hc) (λk d=>Bi (aS k d) hc.Aj) hn (hL.aO hc) hp hF hl;have bS:Hid (∀w1,A3 Ab w w1->_):=λw1 hc=>TV w1 (hJ.aJ hc) hr;generalize hR:J.aw P=R at aD ⊢;obtain⟨L,a0⟩:∃L,J.A8+1=L:=⟨_,rfl⟩;rw[a0]at aD aJ bS hr hn;have aI:(Af L).length<=100:=TU hn.2.2;obtain⟨nm,aQ⟩:∃nm,Af L=nm:=⟨_,rfl⟩;rw[aQ]at aD aJ;obtain⟨s0,aU⟩:∃s0,AB nm=s0:=⟨_,rfl⟩;have aL:s0<4294967296:=by rw[<-aU];exact Iw nm
 rw[aU]at aD aJ;obtain⟨C,hC⟩:∃C,P.ai (A6 nm)=C:=⟨_,rfl⟩;rw[hC]at aD aJ;obtain⟨A,hA⟩:∃A,C.2.ae (A6 nm) s0 (AO J.pd)=A:=⟨_,rfl⟩;rw[hA]at aD aJ;have bB:AP s0 (AO J.pd)<4294967296:=I5 _ _ aL;obtain⟨s1,aK⟩:∃s1,AP s0 (AO J.pd)=s1:=⟨_,rfl⟩;rw[aK]at aD aJ bB;have c0:=hJ.Ah.ag.c0;have c3:=hJ.Ah.ag.c3;have bE:=A1 hJ;have a3:=A1 aM;have aG:=A1 aN;have HO:=A1 ho;have aO:=A1 a0;have bP:=A1 aQ;have a7:=A1 bD;have aZ:=A1 (bS.o w.drew (A3.I _ w).ag);have aB:=A1 (aJ.o w.drew (A3.I _ w).ag);clear hC hA hR aU aL aK aI aQ a0 hJ hD aS aM aN ho bD hL hF hl hp bS aJ;have E:Hid (∀wx,A3 Ft w.drew wx->DE wx jb b lv (.pointer none) J):=λwx W=>(bE.o.aJ (A3.I Ab w).ag).Al W a3.o
 have aE:Hid (∀wx (bO:PD),Aq w.drew Ft wx (λw' z=>Bf w' b bO z)->Aq w FT wx (λw' aT=>JD w' jb b J bO aT)):=λwx bO W=>by
  obtain⟨r1,z,r2,r3,r4⟩:=W;exact Aq.jd ((A3.I Ft w).ag.tr r1) (λk _ d=>aG.o k (.inl d)) (E.o wx r1) r2 r3 (λk d W=>by rcases r4 k W with h|h;exact a3.o k d h;have:=bE.o.lt d;have h':w.heap.size<=k:=h;omega) (λk d=>(r4 k d).imp (λh=>aG.o k (.inl h)) id) (λk d=>.inl (aG.o k (.inr d)))
 by_cases hc:C.1=0
 case neg=>
  have aF:R=(C.1,J,C.2):=by rw[aD.o,Ae hc]
  subst aF;have H:Hid (Ag 236 #[A5 b,A0 L,A0 J.pd] w.drew (Am (.tuple #[.pointer none,A0 C.1]) λw'=>Aq w.drew Ft w' (λw' z=>Bf w' b C.2 z))):=by
   refine aB.m ?_;rintro e w' (⟨_,h2,h3⟩|⟨h1,_⟩|⟨h1,_⟩)
   ·exact⟨h2,h3⟩
   ·exact absurd h1 hc
   ·exact absurd h1 hc
  have aY:(C.1 !=0)=true:=by simpa using hc
  obtain⟨C1,b4⟩:=C;dsimp only at H aY ⊢;clear aB aD
  go_enter func190,ntmps190
  go_wp2;refine Cc (λw'=>A7 w' jb 0 (A5 b)/\A7 w' jb 3 (A0 J.pd)) 15
   (BG [0,1,2,3,4,6,7,8,9,5,10,11,12,13,14] [5,10]) ⟨c0,c3⟩ ?_
  iterate 9 refine Bq ?_
  refine Bx λK I=>?_;go_simp;refine aZ.k ?_;rintro w3 rfl;refine I _ _ ⟨c0,c3⟩ (λhS=>?_);clear I K hS;refine Bx λK I=>?_;go_simp;refine H.k ?_;rintro w4 hI;have k4:=E.o w4 hI.1;refine I _ _ ⟨k4.Ah.c0,k4.Ah.c3⟩ (λhS=>?_);have bQ:=A1 (aE.o w4 b4 hI);clear I K hS hI k4 H aE E
  iterate 4 refine Bq ?_
  refine C8 ?_;go_wp2;go_ret;exact⟨rfl,bQ.o⟩
 case pos=>
 by_cases ha:A.2.1=0
 case neg=>
  have aF:R=(A.2.1,J,A.2.2):=by rw[aD.o,Aa (by simpa using hc),Ae ha]
  subst aF;have H:Hid (Ag 236 #[A5 b,A0 L,A0 J.pd] w.drew (Am (.tuple #[.pointer none,A0 A.2.1]) λw'=>Aq w.drew Ft w' (λw' z=>Bf w' b A.2.2 z))):=by
   refine aB.m ?_;rintro e w' (⟨h1,_⟩|⟨_,_,h2,h3⟩|⟨_,h1,_⟩)
   ·exact absurd hc h1
   ·exact⟨h2,h3⟩
   ·exact absurd h1 ha
  have aY:(A.2.1 !=0)=true:=by simpa using ha
  obtain⟨b2,b1,A2⟩:=A;dsimp only at H aY ⊢;clear aB aD
  go_enter func190,ntmps190
  go_wp2;refine Cc (λw'=>A7 w' jb 0 (A5 b)/\A7 w' jb 3 (A0 J.pd)) 15
   (BG [0,1,2,3,4,6,7,8,9,5,10,11,12,13,14] [5,10]) ⟨c0,c3⟩ ?_
  iterate 9 refine Bq ?_
  refine Bx λK I=>?_;go_simp;refine aZ.k ?_;rintro w3 rfl;refine I _ _ ⟨c0,c3⟩ (λhS=>?_);clear I K hS;refine Bx λK I=>?_;go_simp;refine H.k ?_;rintro w4 hI;have k4:=E.o w4 hI.1;refine I _ _ ⟨k4.Ah.c0,k4.Ah.c3⟩ (λhS=>?_);have bQ:=A1 (aE.o w4 A2 hI);clear I K hS hI k4 H aE E
  iterate 4 refine Bq ?_
  refine C8 ?_;go_wp2;go_ret;exact⟨rfl,bQ.o⟩
 case pos=>
  have aF:R=(0,⟨J.Ak++[L],L,J.pd,some (L,s1)⟩,A.2.2):=by rw[aD.o,Aa (by simpa using hc),Aa (by simpa using ha)]
  subst aF;have H:Hid (Ag 236 #[A5 b,A0 L,A0 J.pd] w.drew λe w'=>∃lb,e=.returned (.tuple #[A5 lb,A0 0])/\w.drew.heap.size<=lb/\Bd w' lb 237 (A5 b) ⟨nm.toArray⟩ s1/\A3 Ft w.drew w'/\∃z,Bf w' b A.2.2 z/\(∀k,z k->k<w'.heap.size)/\(∀k,z k->Ft k\/w.drew.heap.size<=k)/\¬z lb):=by
   refine aB.m ?_;rintro e w' (⟨h1,_⟩|⟨_,h1,_⟩|⟨_,_,h2⟩)
   ·exact absurd hc h1
   ·exact absurd ha h1
   ·exact h2
  obtain⟨b2,b1,A2⟩:=A;dsimp only at H ⊢;clear aB aD aE
  go_enter func190,ntmps190
  go_wp2;refine Cc (λw'=>A7 w' jb 0 (A5 b)/\A7 w' jb 3 (A0 J.pd)) 15
   (BG [0,1,2,3,4,6,7,8,9,5,10,11,12,13,14] [5,10]) ⟨c0,c3⟩ ?_
  iterate 9 refine Bq ?_
  refine Bx λK I=>?_;go_simp;refine aZ.k ?_;rintro w3 rfl;refine I _ _ ⟨c0,c3⟩ (λhS=>?_);clear I K hS;refine Bx λK I=>?_;go_simp;refine H.m ?_;rintro e w4⟨lb,rfl,aI,a5,aW,bG,q1,q2,q3,q4⟩;have k4:=E.o w4 aW;refine I _ _ ⟨k4.Ah.c0,k4.Ah.c3⟩ (λhS=>?_);have a2:=A1 k4;have bK:Hid (w.heap.size<=lb):=aI;have aV:=A1 a5;have bY:Hid (A3 Ft w w4):=(A3.I Ft w).ag.tr aW;have b9:=A1 q1;have bX:=A1 q2;have bH:Hid (∀k,bG k->Ft k\/w.heap.size<=k):=q3;have b0:=A1 q4;clear I K hS aW aI a5 q1 q2 q3 q4 H E
  iterate 4 refine Bq ?_
  refine C8 ?_;have b5:=a2.o.Ah.s4 (A5 lb);have g44:=k4.Ah.c4;have f44:=k4.Ah.fz 4;have g52:=b5.c2;have f52:=b5.fz 2;have bI:=A1 (b5.s2 L);have ew:wrap64 (J.A8+1)=L:=by have:=aO.o;have:=hr.1;have:=hr.2;unfold wrap64;omega
  have ew2:IntKind.i64.wrap (J.A8+1)=L:=by have:=aO.o;have:=hr.1;have:=hr.2;simp[IntKind.wrap,IntKind.bits,IntKind.signed];omega
  have c5:A3 (One jb) w4 ((w4.setCell (Ac jb 4) (A5 lb)).setCell (Ac jb 2) (A0 L)):=((A3.I (One jb) w4).aq (b:=jb) rfl 4 _).aq (b:=jb) rfl 2 _;have a4:=A1 c5;clear b5 k4 c5;have bA:Hid (lb≠jb):=aV.o.dA a2.o.Ah;have aH:Hid (∀g,lv.ownBlock=some g->g≠jb/\g≠lb):=λg Y=>⟨a2.o.ne Y,aV.o.cT a2.o.Ak Y⟩
  go_wp2;generalize (w4.setCell (Ac jb 4) (A5 lb)).setCell (Ac jb 2) (A0 L)=w6 at bI a4 ⊢;have aX:Hid (w6.ownsRow 0 3 1 lv J.Ak.length (DZ J.Ak)):=Ax a2.o.Ak λg Y=>a4.o.An g (AF a2.o.Ak Y) (aH.o g Y).1;have bR:=A1 (aV.o.an a4.o bA.o);have b3:=bI.o.ag.c1;have b7:=bI.o.ag.c2;obtain⟨ap,cp,rfl,hcap1,a1,-⟩:=B9 aX.o;unfold maxLen at a1;refine Cc (λw'=>A7 w' jb 1 (.slice ap J.Ak.length cp)/\A7 w' jb 2 (A0 L)) 11
   (BG [0,1,2,3,4,5,6,7,8,9,10] [9,10]) ⟨b3,b7⟩ ?_
  iterate 9 refine Bq ?_
  refine Bx λK I=>?_;go_simp;have ka:A3 Ab w6 (w6.aC #[A0 L] 3).drew:=((A3.I _ _).al _).ag;have bJ:=bI.o.an ka (λh=>h);have bV:Hid ((w6.aC #[A0 L] 3).drew.ownsRow 0 3 1 (.slice ap J.Ak.length cp) J.Ak.length (DZ J.Ak)):=Ax aX.o λg Y=>ka.An g (AF aX.o Y) (λh=>h);have bF:Hid (Src Tryz.prog 1 26 (AH w6.heap.size 1 1) 1 #[A0 L].toList (w6.aC #[A0 L] 3).drew):=by
   have hb:(w6.aC #[A0 L] 3).drew.heap[w6.heap.size]?=some (.cells #[A0 L] 3 (0,0)):=BL w6 _;exact Src.cv Ho hb 1 1 rfl (Kk [L])
  refine I _ _ ⟨bJ.c1,bJ.c2⟩ (λhS=>?_);refine Eb rfl (by rfl) (λK I=>?_);refine Ir (.tmp 37) (.tmp 42) 26 26 rfl 3 i0 _ 1 8 Ho hi bL bW bT rfl (by decide) (.slice ap J.Ak.length cp) J.Ak.length (DZ J.Ak) (by rfl) bV.o _ 1 _ (by rfl) bF.o (by have:=a7.o;omega) ?_;intro a8 O w8 hA;have aP:=hA.Al (S:=λk=>(Value.slice ap J.Ak.length cp).ownBlock=some k) λ_ h=>h;have a6:=bJ.an aP (λh=>(aH.o _ h).1 rfl);refine I _ _ ⟨a6.c1,a6.c2⟩ (λhS=>?_);have g81:=a6.c1;have f81:=a6.fz 1;have b6:=A1 (a6.s1 (.slice a8 (J.Ak.length+1) O));have bU:=A1 ((bR.o.an ka (λh=>h)).an aP (λh=>(aH.o _ h).2 rfl));have a9:=A1 hA.AE;have bM:=A1 hA.CA;have bZ:Hid (A3 (λk=>(Value.slice ap J.Ak.length cp).ownBlock=some k) w6 w8):=(ka.aY).tr aP;have b8:Hid (w6.heap.size<=w8.heap.size/\w6.heap.size<=(w6.aC #[A0 L] 3).drew.heap.size):=⟨bZ.o.Aj,ka.Aj⟩;refine C8 ?_;go_wp2;go_ret;have aA:∀g,(Value.slice a8 (J.Ak.length+1) O).ownBlock=some g->(Value.slice ap J.Ak.length cp).ownBlock=some g\/w6.heap.size<=g:=λg Y=>by
   rcases bM.o with h|h
   ·rw[h]at Y;exact .inl Y
   ·rw[h]at Y;cases Y;exact .inr b8.o.2
  have s46:=a4.o.Aj;have s04:=bY.o.Aj;have jbl:=bE.o.Ah.lt;have bC:∀g,(Value.slice a8 (J.Ak.length+1) O).ownBlock=some g->g≠jb:=λg Y=>by
   rcases aA g Y with h|h
   ·exact(aH.o g h).1
   ·omega
  have kf:A3 (One jb) w8 (w8.setCell (Ac jb 1) (.slice a8 (J.Ak.length+1) O)):=(A3.I (One jb) w8).aq (b:=jb) rfl 1 _;have aR:A3 (λk=>k=jb\/(Value.slice ap J.Ak.length cp).ownBlock=some k) w4 (w8.setCell (Ac jb 1) (.slice a8 (J.Ak.length+1) O)):=
   ((a4.o.af λ_ _ h=>.inl h).Av bZ.o λ_ h _=>.inr h).Av kf λ_ h _=>.inl h
  refine⟨rfl,Aq.jd (lv:=.slice a8 (J.Ak.length+1) O) (ov:=(A5 lb)) (Ft:=bG) ((bY.o.af (S':=λk=>Ft k\/k=jb\/(Value.slice ap J.Ak.length cp).ownBlock=some k) λ_ _ h=>.inl h).Av aR λ_ h _=>.inr h) ?_ ⟨b6.o,?_,.inr ⟨L,s1,lb,rfl,rfl,?_,bB⟩⟩ ?_ ?_ ?_ ?_ ?_⟩
  ·rintro k _ (h|rfl|h)
   ·exact aG.o k (.inl h)
   ·exact aG.o _ (.inr (.inl rfl))
   ·exact aG.o k (.inr (.inr (.inl h)))
  ·(have e:(J.Ak++[L]).length=J.Ak.length+1:=by simp);unfold DF;rw[LN,e];exact Ax a9.o λg Y=>Hg _ _ _ _ (λe=>bC g Y e)
  ·rw[bP.o];exact bU.o.an kf bA.o
  ·refine B1.aN b9.o (aR.ay bX.o λk d W=>?_);rcases bH.o k d with h|h
   ·rcases W with rfl|W
    ·exact a3.o _ (.inl rfl) h
    ·exact a3.o k (.inr (.inl W)) h
   ·rcases W with rfl|W
    ·omega
    ·have:=AF bE.o.Ak W;omega
  ·exact λk d=>Bi (bX.o k d) aR.Aj
  ·rintro k (rfl|d|d) W
   ·rcases bH.o _ W with h|h
    ·exact a3.o _ (.inl rfl) h
    ·omega
   ·rcases aA k d with h|h
    ·rcases bH.o k W with h' | h'
     ·exact a3.o k (.inr (.inl h)) h'
     ·have:=AF bE.o.Ak h;omega
    ·have:=bX.o k W;omega
   ·cases d;exact b0.o W
  ·exact λk d=>(bH.o k d).imp (λh=>aG.o k (.inl h)) id
  ·rintro k (rfl|d|d)
   ·exact .inl (aG.o _ (.inr (.inl rfl)))
   ·rcases aA k d with h|h
    ·exact .inl (aG.o k (.inr (.inr (.inl h))))
    ·exact .inr (by omega)
   ·cases d;exact .inr bK.o
end
end
end Go.Proofs.YtodcnkbblippnaaGreatDoor
