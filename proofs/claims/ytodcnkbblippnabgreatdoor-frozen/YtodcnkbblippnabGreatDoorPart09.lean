/- Part 9 of a proof: walks of the program. -/
import Derived.Test.YtodcnkbblippnabGreatDoorPart08
namespace Go.Proofs.YtodcnkbblippnabGreatDoor
set_option maxRecDepth 100000
set_option maxHeartbeats 32000000
set_option linter.defProp false
open Go.Proofs.Tryz
section
open Go.RowKit
attribute [local go_sem ↓] CE
def Kr{lt nm:Bs}{v:Int}(h:E0 lt nm=some v):(1<=v/\v<=4611686018427387904)/\Ec lt v=nm:=by
 unfold E0 at h;cases hx:Lib.atoiAll (Lib.trimPrefix nm lt) with
 | ok x=>
  rw[hx]at h;dsimp only at h;split at h
  ·rename_i d;cases h;exact⟨⟨by omega,d.2.1⟩,d.2.2⟩
  ·cases h
 | «syntax»=>rw[hx]at h;cases h
 | range=>rw[hx]at h;cases h
def Sp{nm:Bs}:(GR nm).1≠1/\(GR nm).1≠2:=by
 unfold GR HY;split
 ·simp
 ·split<;>simp
def O4{nm:Bs}(h:(Be nm).1=1):(1<=(Be nm).2/\(Be nm).2<=4611686018427387904)/\Ae (Be nm).2=nm:=by
 unfold Be at h ⊢;cases hx:E0 [108] nm with
 | some v=>exact Kr hx
 | none=>
  rw[hx]at h;dsimp only at h;unfold GS at h;cases hy:E0 [115] nm with
  | some v=>rw[hy]at h;cases h
  | none=>rw[hy]at h;exact absurd h Sp.1
def O2{nm:Bs}(h:(Be nm).1=2):(1<=(Be nm).2/\(Be nm).2<=4611686018427387904)/\AG (Be nm).2=nm:=by
 unfold Be at h ⊢;cases hx:E0 [108] nm with
 | some v=>rw[hx]at h;cases h
 | none=>
  rw[hx]at h;dsimp only at h ⊢;unfold GS at h ⊢;cases hy:E0 [115] nm with
  | some v=>exact Kr hy
  | none=>rw[hy]at h;exact absurd h Sp.2
def Sg(nm:Bs):AW (Be nm).2:=by
 unfold Be;cases hx:E0 [108] nm with
 | some v=>have:=(Kr hx).1;unfold AW;dsimp only;omega
 | none=>
  dsimp only
  unfold GS;cases hy:E0 [115] nm with
  | some v=>have:=(Kr hy).1;unfold AW;dsimp only;omega
  | none=>dsimp only;unfold GR HY AW;split<;>(try split)<;>simp
def YO(aA:Int)(l l':List Bs):BM aA (l++l')=BM aA l++BM aA l':=by simp[BM]
def LM(aA:Int)(l:List Bs):(BM aA l).length<=l.length:=List.length_filterMap_le _ _
def O7{aA n:Int}{l:List Bs}(h:n∈BM aA l):aA<=n/\(1<=n/\n<=4611686018427387904)/\Ae n∈l:=by
 obtain⟨nm,I,d⟩:=Ld.1 h;split at d
 ·rename_i z;cases d;obtain⟨E,H⟩:=O4 z.1;exact⟨z.2,E,by rw[H];exact I⟩
 ·cases d
def Kp(P:PD):P.Ax.length=P.D.A4.length:=by
 unfold PD.Ax dList;rw[FR,M6 _ _ (Au _)]
def Tp(l:List Int)(x d:Int):(l++[x]).getLastD d=x:=by
 rw[JT];simp
def Oa{w:World}{b:Nat}{P:PD}{Ft:Nat->Prop}{a c m:Nat}(h:Bh w b P Ft)(H:Fit P a c m)(I:CM a c m):
 Calls Tryz.prog 48 #[.pointer (some ⟨b,0,none⟩)] w λe w'=>∃v,e=.returned v/\Dk w' v P.Ax/\A3 (λ_=>False) w w'/\(∀g,v.ownBlock=some g->w.heap.size<=g):=by
 refine(YY h (by have:=H.A4;have:=I.a;omega)).mono ?_;rintro e w'⟨v,E,d,L,z⟩;refine⟨v,E,?_,L,z⟩;have O:=Kp P;unfold Dk;rw[O];rw[We]at d;exact d
section
variable {w:World} {b B:Nat} {P:PD} {Ft:Nat->Prop} {a c m:Nat} {aA:Int}
def Zr(w:World)(h:Bh w b P Ft)(aD:∀k,Ft k->k<w.heap.size)(hF:Fit P a c m)(hl:CM a c m)(bI:a*m<=70368744177664)(hf:1<=aA/\aA<=4611686018427387904)(hL:Lets B w)(hE:HF w)(bP:∀nm∈P.Ax,nm.length<=281474976710656):
 Ah 51 #[A5 b,A0 aA] w λe w'=>
  ((P.puts (BM aA P.Ax)).2≠0/\e=.returned (.tuple #[.pointer none,.slice none 0 0,A0 (P.puts (BM aA P.Ax)).2])/\A3 Aa w w')\/
  ((P.puts (BM aA P.Ax)).2=0/\∃d lv v,e=.returned (.tuple #[A5 d,v,A0 0])/\Dv w' d b lv (.pointer none) (P.bS aA)/\AY w' v (P.puts (BM aA P.Ax)).1/\(∀k,Df d lv (.pointer none) k->w.heap.size<=k)/\(∀g,v.ownBlock=some g->w.heap.size<=g)/\A3 Aa w w'):=by
 obtain⟨i0,hi,bG,bO,bL⟩:∃i0,Tryz.prog.info? 3=some i0/\i0.zero=some (A0 0)/\i0.size=1/\i0.bytes=8:=by
  have h:=Tryz.cV;cases O:Tryz.prog.info? 3 with
  | none=>rw[O]at h;cases h
  | some i=>rw[O]at h;simp at h;exact⟨i,rfl,h.1,h.2.1,h.2.2⟩
 have bZ:Hid (∀I,A3 Aa w I->Ah 48 #[A5 b] I λe w'=>∃v,e=.returned v/\Dk w' v P.Ax/\A3 Aa I w'/\(∀g,v.ownBlock=some g->I.heap.size<=g)):=λI W=>Oa (B3.aI h aD W) hF hl;have bY:Hid (∀I,A3 Aa w I->∀nm∈P.Ax,Ah 49 #[.string ⟨nm.toArray⟩] I λe w'=>e=.returned (.tuple #[A0 (Be nm).1,A0 (Be nm).2])/\A3 Aa I w'):=λI W nm hm=>Sf I nm (bP nm hm) (hE.aS W) (hL.aS W);have aG:P.Ax.length<=a:=by rw[Kp];exact hF.A4
 have bV:Hid (∀I d lv last,A3 Aa w I->Dv I d b lv (.pointer none) ⟨BM aA P.Ax,last,0,none⟩->Ah 58 #[A5 d] I λe w'=>∃v,e=.returned (.tuple #[v,A0 (P.puts (BM aA P.Ax)).2])/\AY w' v (P.puts (BM aA P.Ax)).1/\(∀g,v.ownBlock=some g->I.heap.size<=g)/\A3 Aa I w'):=λI d lv last W hJ=>
  ND I (B3.aI h aD W) (λk hk=>Bm (aD k hk) W.Ak) hJ hF hl (AQ (Hi m (AQ (LM aA P.Ax) aG)) bI) (λn hn=>by obtain⟨_,h2,_⟩:=O7 hn;exact Hs (by omega) h2.2) (hL.aS W)
 have hnl2:P.Ax.length<=1073741824:=AQ aG hl.a;have a7:Hid (P.bS aA=⟨BM aA P.Ax,(BM aA P.Ax).getLastD (aA-1),(P.puts (BM aA P.Ax)).1.length,none⟩):=rfl;generalize hZ:P.bS aA=Z at a7 ⊢;generalize hR:P.puts (BM aA P.Ax)=R at bV a7 ⊢;generalize P.Ax=ns at *;obtain⟨f1,f2⟩:=hf;have ew:IntKind.i64.wrap (aA-1)=aA-1:=by simp[IntKind.wrap,IntKind.bits,IntKind.signed];omega
 have aP:CC (w.alloc (.cells #[A5 b,.slice none 0 0,A0 (aA-1),A0 0,.pointer none] 167)) w.heap.size b (.slice none 0 0) (aA-1) 0 (.pointer none):=BK w _;have bX:Hid (A3 Aa w (w.alloc (.cells #[A5 b,.slice none 0 0,A0 (aA-1),A0 0,.pointer none] 167))):=(A3.I _ w).aj _;have bN:=A1 (bZ.o _ bX.o);have a9:=A1 aP;have bW:Hid (w.heap.size<(w.alloc (.cells #[A5 b,.slice none 0 0,A0 (aA-1),A0 0,.pointer none] 167)).heap.size):=by unfold Hid;simp
 go_enter func51,ntmps51
 go_wp2_with (fail);refine bN.o.mono ?_;rintro e I⟨v,rfl,hv,aV,aR⟩;obtain⟨na,a5,rfl,nc1,bB⟩:=(Dk.rd hv).Cf;unfold maxLen at bB;have b1:=A1 (Dk.rd hv);have bT:=A1 (a9.o.ak aV (λh=>h));have b0:Hid (A3 Aa w I):=bX.o.Av aV λ_ h _=>h;have Y:Hid (w.heap.size<I.heap.size):=Bm bW.o aV.Ak;have bD:Hid (∀g,(Value.slice na ns.length a5).ownBlock=some g->w.heap.size<g):=λg E=>Bm bW.o (aR g E);generalize aP:w.heap.size=d at bT Y ⊢;have aT:=A1 aP;go_wp2;go_loopw [22] (λiv wr=>∃k:Nat,iv=A0 k/\k<=ns.length/\Hid (∃lv,CC wr d b lv ((BM aA (ns.take k)).getLastD (aA-1)) 0 (.pointer none)/\Dw wr lv (BM aA (ns.take k))/\(∀g,lv.ownBlock=some g->I.heap.size<=g)/\A3 Aa w wr/\A3 (One d) I wr)) (λiv _=>ns.length-(intOf iv).toNat)
 case atStart=>exact⟨0,rfl,by omega,_,bT.o,CL _ _ _ _,λg E=>by simp[Value.ownBlock]at E,b0.o,A3.I _ _⟩
 case round=>
  obtain⟨k,rfl,hk,hI⟩:=hrel;obtain⟨lv,i1,i2,i3,i4,i5⟩:=hI.o;by_cases aF:k<ns.length
  ·obtain⟨g,o,rfl,d1⟩:=Gw.at b1.o k aF;have aL:=BV aF;have a4:ns.take (k+1)=ns.take k++[ns[k]'aF]:=Dl aF;generalize hne:(ns[k]'aF)=nm at d1 aL a4;(have hgj:d<g:=by have:=bD.o g rfl;have:=aT.o;omega);have e1:=i5.bG d1 (λh=>by have h':g=d:=h;omega);have aI:=A1 (bY.o wr i4 nm aL);have aS:=Sg nm;have aE:Hid (BM aA (ns.take (k+1))=BM aA (ns.take k)++(if (Be nm).1=1/\aA<=(Be nm).2 then [(Be nm).2] else [])):=by
    unfold Hid;rw[a4,YO]
    congr 1
    unfold BM;by_cases W:(Be nm).1=1/\aA<=(Be nm).2<;>simp[W]
   generalize hX:Be nm=X at aI aE aS;obtain⟨s,n⟩:=X;dsimp only at aI aE aS;obtain⟨r1,r2⟩:=aS;have aN:Hid ((BM aA (ns.take k)).length<=ns.length):=AQ (LM _ _) (by rw[BU];omega);have aW:=A1 i1;have aH:=A1 i2;have aJ:=A1 i3;have aM:=A1 i4;have aX:=A1 i5;(have bE:(k:Int)<(ns.length:Int):=by omega);have hk0:(0:Int)<=(k:Int):=Gi _;generalize hlg:BM aA (ns.take k)=lg at aE aN aW aH;by_cases W:s=1/\aA<=n
   case neg=>
    (have L:Hid (BM aA (ns.take (k+1))=lg):=by rw[aE.o,Ac W,Gh];rfl);by_cases hs:s=1
    ·subst hs;have bM:¬aA<=n:=λh=>W ⟨rfl,h⟩;go_wp2_with (go_at_call 49;refine aI.o.mono ?_;rintro e w6⟨rfl,H⟩;have z:=A1 H);go_roundw
     case rel=>exact⟨k+1,by go_num,by omega,lv,by rw[L.o];exact aW.o.ak z.o (λh=>h),by rw[L.o];exact Ay aH.o λg E=>z.o.Al g (Az aH.o E) (λh=>h),aJ.o,aM.o.Av z.o λ_ h _=>h,aX.o.Av z.o λ_ h _=>h.elim⟩
     case measure=>simp[intOf];omega
    ·(have hsb:(s==1)=false:=by simpa using hs);go_wp2_with (go_at_call 49;refine aI.o.mono ?_;rintro e w6⟨rfl,H⟩;have z:=A1 H);go_roundw
     case rel=>exact⟨k+1,by go_num,by omega,lv,by rw[L.o];exact aW.o.ak z.o (λh=>h),by rw[L.o];exact Ay aH.o λg E=>z.o.Al g (Az aH.o E) (λh=>h),aJ.o,aM.o.Av z.o λ_ h _=>h,aX.o.Av z.o λ_ h _=>h.elim⟩
     case measure=>simp[intOf];omega
   case pos=>
    (have L:Hid (BM aA (ns.take (k+1))=lg++[n]):=by rw[aE.o,Af W];rfl);obtain⟨rfl,bM⟩:=W;obtain⟨ap,cp,rfl,hcap1,aU,-⟩:=B9 aH.o;unfold maxLen at aU;go_wp2_with (fail);refine aI.o.mono ?_;rintro e w6⟨rfl,H⟩;have aY:=aW.o.ak H (λh=>h);have g1:=aY.c1;have a0:Hid ((w6.alloc (.cells #[A0 n] 3)).ownsRow 0 3 1 (.slice ap lg.length cp) lg.length (DF lg)):=Ay aH.o λg E=>(H.aj _).Al g (Az aH.o E) (λh=>h)
    have bA:=A1 (Src.bc (size:=1) (B:=w6.heap.size) underlying120 w6 #[A0 n] 3 (by simp) 1 1 rfl (Jv [n]));have a6:=A1 (aY.ak ((A3.I Aa w6).aj (.cells #[A0 n] 3)) (λh=>h));have bU:Hid (A3 Aa wr (w6.alloc (.cells #[A0 n] 3))):=H.aj _;have c71:=a6.o.c1;go_wp2_with (at_builtin;refine D9 rfl (.tmp 42) (.tmp 44) 120 120 rfl 3 i0 _ 1 8 underlying120 hi bG bO bL rfl (by decide) (.slice ap lg.length cp) lg.length (DF lg) (by rfl) a0.o _ 1 _ (by rfl) bA.o (by have:=aN.o;omega) ?_;intro a8 aB w8 hA;have aZ:=A1 (hA.An (S:=λk=>(Value.slice ap lg.length cp).ownBlock=some k) λ_ h=>h);have bK:=a6.o.ak aZ.o (λh=>by have:=aJ.o _ h;have:=Y.o;omega);have g81:=bK.c1;have f81:=bK.fz 1;have bJ:=bK.s1 (.slice a8 (lg.length+1) aB);have g82:=bJ.c2;have f82:=bJ.fz 2;have a3:=A1 (bJ.s2 n);have a1:=A1 hA.AF;have bH:=A1 hA.Cy);go_roundw
    case rel=>
     (have e:(lg++[n]).length=lg.length+1:=by simp);have aO:∀g,(Value.slice a8 (lg.length+1) aB).ownBlock=some g->I.heap.size<=g:=λg E=>by
      rcases bH.o with h|h
      ·rw[h]at E;exact aJ.o g E
      ·rw[h]at E;cases E;have:=aX.o.Ak;have:=bU.o.Ak;omega
     have k8:A3 (λk=>(Value.slice ap lg.length cp).ownBlock=some k) wr w8:=(bU.o.ad λ_ _ h=>h.elim).Av aZ.o λ_ h _=>h;have a2:A3 (λk=>k=d\/(Value.slice ap lg.length cp).ownBlock=some k) wr ((w8.setCell (Ab d 1) (.slice a8 (lg.length+1) aB)).setCell (Ab d 2) (A0 n)):=
      ((k8.ad λ_ _ h=>.inr h).aq (b:=d) (.inl rfl) 1 _).aq (b:=d) (.inl rfl) 2 _
     refine⟨k+1,by go_num,by omega,.slice a8 (lg.length+1) aB,by rw[L.o,Tp];exact a3.o,?_,aO,?_,?_⟩
     ·rw[L.o];unfold Dw;rw[Kz,e];exact Ay a1.o λg E=>by
       have h1:=aO g E;have h2:=Y.o;rw[GN _ _ _ _ (λe=>by have e':g=d:=e;omega),GN _ _ _ _ (λe=>by have e':g=d:=e;omega)]
     ·exact aM.o.Av a2 λx O aD=>by
       have h2:=aT.o;rcases O with rfl|O
       ·omega
       ·have:=aJ.o x O;have:=Y.o;omega
     ·exact aX.o.Av a2 λx O aD=>by
       rcases O with rfl|O
       ·rfl
       ·have:=aJ.o x O;omega
    case measure=>simp[intOf];omega
  ·(obtain rfl:k=ns.length:=by omega);rw[C9]at i1 i2;(have bE:¬((ns.length:Int)<(ns.length:Int)):=by omega);have aQ:=A1 (bV.o wr d lv _ i4 ⟨i1,i2,.inl ⟨rfl,rfl⟩⟩);obtain⟨bS,bR⟩:=R;dsimp only at aQ a7;have aW:=A1 i1;have aH:=A1 i2;have aJ:=A1 i3;have aM:=A1 i4;have aX:=A1 i5;by_cases hr:bR=0
   case neg=>
    (have hrb:(bR !=0)=true:=by simpa using hr);go_wp2_with (go_at_call 58;refine aQ.o.mono ?_;rintro e w6⟨v,rfl,-,-,H⟩;have z:=A1 H);go_ret3;exact⟨rfl,aM.o.Av z.o λ_ h _=>h⟩
   case pos=>
    subst hr;go_wp2_with (fail);refine aQ.o.mono ?_;rintro e w6⟨v,rfl,hv,aR,H⟩;obtain⟨va,vcap,rfl,vc1,bF,-⟩:=B9 hv;unfold maxLen at bF;have aY:=aW.o.ak H (λh=>h);have g63:=aY.c3;have f63:=aY.fz 3;have a6:=A1 (aY.s3 bS.length);have bC:=A1 hv;have aK:=A1 aR;have z:=A1 H;go_wp2;go_ret3;(have bQ:∀g,lv.ownBlock=some g->g≠d:=λg E e=>by have:=aJ.o g E;have:=Y.o;omega);have h2:=aT.o;have k7:A3 (One d) wr (w6.setCell (Ab d 3) (A0 bS.length)):=(z.o.ad (S':=One d) λ_ _ h=>h.elim).aq (b:=d) rfl 3 _;refine⟨d,lv,_,rfl,?_,?_,λx O=>?_,λg E=>?_,?_⟩
    ·rw[a7.o];exact⟨a6.o,Ay aH.o λg E=>k7.Al g (Az aH.o E) (bQ g E),.inl ⟨rfl,rfl⟩⟩
    ·exact Ay bC.o λg E=>GN _ _ _ _ (λe=>by
      have e':g=d:=e;have:=aK.o g E;have:=aM.o.Ak;have:=aX.o.Ak;have:=Y.o
      omega)
    ·rcases O with rfl|O|O
     ·omega
     ·have:=aJ.o x O;have:=Y.o;omega
     ·cases O
    ·have:=aK.o g E;have:=aM.o.Ak;omega
    ·exact aM.o.Av k7 λx O aD=>by have e':x=d:=O;omega
end
end
section
open Go.RowKit
def Jp{α:Type}{l:List α}(h:l.Nodup){i j:Nat}(E:i<l.length)(z:j<l.length)(e:l[i]'E=l[j]'z):i=j:=by
 have H:=JR.1 h;rcases Ph i j with d|d|d
 ·exact absurd e (H i j E z d)
 ·exact d
 ·exact absurd e.symm (H j i z E d)
def Jo{es:List AL}(h:(es.map (·.2)).Nodup){a b:AL}(d:a∈es)(E:b∈es)(e:a.2=b.2):a=b:=by
 obtain⟨i,H,rfl⟩:=DQ d;obtain⟨j,z,rfl⟩:=DQ E;have:i=j:=Jp h (by simpa using H) (by simpa using z) (by simpa using e);subst this;rfl
def E1{es:List AL}{nm:ByteArray}{f:Nat}(h:lookup es nm=some f):(nm,f)∈es:=by
 induction es with
 | nil=>cases h
 | cons e r ih=>
  unfold lookup at h;split at h
  ·rename_i d;cases h;subst d;exact BD ..
  ·exact Br _ (ih h)
def IG{es:List AL}{nm:ByteArray}:lookup es nm=none↔∀e∈es,e.1≠nm:=by
 induction es with
 | nil=>simp[lookup]
 | cons e r ih=>
  unfold lookup;by_cases d:e.1=nm
  ·simp[d]
  ·simp only[d,C4,ih,BP,forall_eq_or_imp,Jq,NY,true_and]
def lookup_append(es d:List AL)(nm:ByteArray):lookup (es++d) nm=(lookup es nm).or (lookup d nm):=by
 induction es with
 | nil=>simp[lookup]
 | cons e r ih=>
  simp only[Fo,lookup];split
  ·simp
  ·exact ih
def Kt(es:List AL)(p:ByteArray->Bool)(nm:ByteArray):lookup (es.filter λe=>p e.1) nm=if p nm then lookup es nm else none:=by
 induction es with
 | nil=>simp[lookup]
 | cons e r ih=>
  simp only[F4];by_cases z:e.1=nm
  ·subst z;by_cases h:p e.1
   ·simp[h,lookup]
   ·(have d:p e.1=false:=by simpa using h);rw[d]at ih ⊢;simpa using ih
  ·by_cases h:p e.1
   ·simp only[h,Cg,lookup,z,C4,ih]
   ·(have d:p e.1=false:=by simpa using h);simp only[d,lookup,z,C4];simpa using ih
def IQ(es:List AL)(nm:ByteArray):(B2 es nm<0↔lookup es nm=none):=by
 rcases IH es nm with⟨z,d⟩|⟨k,hk,z,d,h3⟩
 ·simp[z,d]
 ·simp only[z,d];exact⟨λh=>by omega,λh=>by cases h⟩
def Tw(es:List AL)(nm:ByteArray)(O:(es.map (·.1)).Nodup)(h:¬B2 es nm<0):
 es.take (B2 es nm).toNat++es.drop ((B2 es nm).toNat+1)=es.filter λe=>decide (e.1≠nm):=by
 induction es with
 | nil=>simp[B2]at h
 | cons e r ih=>
  have d:e.1∉r.map (·.1)/\(r.map (·.1)).Nodup:=by simpa using O
  unfold B2 at h ⊢;by_cases E:e.1=nm
  ·subst E;simp only[Cg,Int.toNat_zero,EL,EY,Gx,DE,Dq];rw[JV (by simp)];rw[List.filter_eq_self.2];intro x L;simp only[DG,Jq];rintro z;exact d.1 (z ▸ DP L)
  ·simp only[E,C4]at h ⊢;by_cases H:B2 r nm<0
   ·simp[H]at h
   ·simp only[H,C4]at h ⊢;(have I:(B2 r nm+1).toNat=(B2 r nm).toNat+1:=by omega);rw[I,EX,DE,Fo,ih d.2 H,Io (by simp[E])]
def R0(es:List AL)(old nm:ByteArray)(Y:(es.map (·.1)).Nodup)(h:¬B2 es old<0):
 Di es (B2 es old).toNat nm es.length=es.filter λe=>decide (e.1≠old/\e.1≠nm):=by
 have H:∀k,k<=es.length->Di es (B2 es old).toNat nm k=(es.take k).filter λe=>decide (e.1≠old/\e.1≠nm):=by
  intro k
  induction k with
  | zero=>intro _;simp[Di]
  | succ k ih=>
   intro hk;(have d:k<es.length:=by omega);have z:(k=(B2 es old).toNat)↔(es[k]'d).1=old:=by
    rcases Oz es old with⟨L,_⟩|⟨m,hm,L,I⟩
    ·omega
    ·rw[L];constructor
     ·intro e;have W:k=m:=by simpa using e
      subst W;exact I
     ·intro e;have:k=m:=Jp Y (by simpa using d) (by simpa using hm) (by simp[e,I]);simp[this]
   rw[Dl d,MI,<-ih (by omega)];by_cases E:k≠(B2 es old).toNat/\(es[k]'d).1≠nm
   ·rw[QZ es _ nm k d E,Io]
    ·simp
    ·simp only[DG];exact⟨λe=>E.1 (z.2 e),E.2⟩
   ·rw[Ny es _ nm k d E,JV]
    ·simp
    ·simp only[DG];intro O;exact E ⟨λe=>O.1 (z.1 e),O.2⟩
 have:=H es.length (Au _)
 rwa [C9]at this
def N2(F:Nat->FC)(es:List AL)(p:AL->Bool):B4 F (es.filter p)<=B4 F es:=by
 induction es with
 | nil=>simp[B4]
 | cons e r ih=>
  rw[F4];split
  ·simp only[B4];omega
  ·simp only[B4];omega
def Q1(F:Nat->FC)(f:Nat)(c:FC)(es:List AL)(h:∀e∈es,e.2≠f):B4 (upd F f c) es=B4 F es:=by
 induction es with
 | nil=>simp[B4]
 | cons e r ih=>
  simp only[B4,upd,h e (BD ..),C4];rw[<-ih λx d=>h x (Br _ d)]
def Q2(F:Nat->FC)(f:Nat)(c:FC)(es:List AL)(L:(es.map (·.2)).Nodup)(h:∃e∈es,e.2=f):B4 (upd F f c) es+(F f).1.length=B4 F es+c.1.length:=by
 induction es with
 | nil=>obtain⟨e,E,_⟩:=h;cases E
 | cons e r ih=>
  have z:e.2∉r.map (·.2)/\(r.map (·.2)).Nodup:=by simpa using L
  by_cases E:e.2=f
  ·subst E;have:B4 (upd F e.2 c) r=B4 F r:=Q1 F _ c r λx H d=>z.1 (d ▸ DP H);simp only[B4,this];simp[upd];omega
  ·obtain⟨x,H,d⟩:=h;have I:∃x∈r,x.2=f:=by
    rcases BP.1 H with rfl|H
    ·exact absurd d E
    ·exact⟨x,H,d⟩
   have:=ih z.2 I;simp only[B4,upd,E,C4]at this ⊢;omega
def PD.fl(P:PD)(nm:Bs):Option FC:=(lookup P.D.A4 (A7 nm)).map P.F
structure Cm (P:PD) (N R:Nat):Prop where
 AS:P.D.n.AS=false
 BT:P.D.n.BT=0
 BJ:P.D.n.BJ=0
 AP:0<=P.D.n.AP/\P.D.n.AP+N<=4611686018427387904
 AB:(B4 P.F P.D.A4:Int)+R<=P.D.n.AB
 Aq:(P.D.A4.map (·.2)).Nodup
 Cb:(P.D.A4.map (·.1)).Nodup
section
variable {P:PD} {N R:Nat} {nm:Bs}
def Cm.ad{N' R':Nat}(h:Cm P N R)(hN:N'<=N)(hR:R'<=R):Cm P N' R':=
 ⟨h.AS,h.BT,h.BJ,⟨h.AP.1,by have:=h.AP.2;omega⟩,by have:=h.AB;omega,h.Aq,h.Cb⟩
def Cm.bg(h:Cm P (N+1) R):bg P.D.n=(true,0,{P.D.n with AP:=P.D.n.AP+1}):=by
 obtain⟨c1,c2⟩:=h.AP;have e:wrap64 (P.D.n.AP+1)=P.D.n.AP+1:=by unfold wrap64;omega
 unfold Go.Proofs.YtodcnkbblippnabGreatDoor.bg;dsimp only
 rw[e,Ac (by simp[h.AS]),Ac (by rw[h.BT];omega),Ac (by rw[h.BJ];omega)]
def A0A:P.fl nm=none↔lookup P.D.A4 (A7 nm)=none:=by unfold PD.fl;simp
def LW{c:FC}(h:P.fl nm=some c):∃f,lookup P.D.A4 (A7 nm)=some f/\P.F f=c:=by
 unfold PD.fl at h;simpa using h
def S7(h:nm≠[]):A7 nm≠ByteArray.empty:=λe=>h (by have:A7 nm=A7 []:=e;exact FH.1 this)
def Cm.ai(h:Cm P (N+1) R)(Y:P.fl nm=none)(d:nm≠[]):
 (P.ai (A7 nm)).1=0/\Cm (P.ai (A7 nm)).2 N R/\∀m,(P.ai (A7 nm)).2.fl m=if m=nm then some ([],0) else P.fl m:=by
 have O:=A0A.1 Y;have hx:¬(A7 nm=ByteArray.empty\/B2 P.D.A4 (A7 nm)≥0):=by
  rintro (h|h)
  ·exact S7 d h
  ·have:=(IQ P.D.A4 (A7 nm)).2 O;omega
 have z:∀e∈P.D.A4,e.2≠P.D.AT:=λe E W=>P.D.cv (.inl ⟨e,E,W⟩);unfold PD.ai CK;rw[Ac hx];dsimp only
 rw[h.bg];dsimp only
 rw[Af rfl];refine⟨rfl,⟨h.AS,h.BT,h.BJ,by have:=h.AP;dsimp only;omega,?_,?_,?_⟩,λm=>?_⟩
 ·have:=h.AB;dsimp only
  rw[K9,Q1 _ _ _ _ z];simp only[B4,upd,Cg,Il];omega
 ·dsimp only
  rw[E6,Gy];refine⟨h.Aq,by simp,λa L b H=>?_⟩;simp at H;subst H;obtain⟨e,E,rfl⟩:=CA.1 L;exact z e E
 ·dsimp only
  rw[E6,Gy];refine⟨h.Cb,by simp,λa L b H=>?_⟩;simp at H;subst H;obtain⟨e,E,rfl⟩:=CA.1 L;exact(IG.1 O) e E
 ·unfold PD.fl;dsimp only
  rw[lookup_append];by_cases I:m=nm
  ·subst I;rw[O];simp[lookup,upd]
  ·have d:¬A7 nm=A7 m:=λe=>I (FH.1 e).symm;simp only[lookup,d,C4,UF,I];cases hk:lookup P.D.A4 (A7 m) with
   | none=>rfl
   | some f=>
    have:f≠P.D.AT:=z _ (E1 hk);simp[upd,this]
def Ko(l:Bs):(A7 l).size=l.length:=by simp[A7,ByteArray.size]
def Cm.an{c:FC}(h:Cm P (N+1) R)(H:P.fl nm=some c)(l:Bs)(hl:l.length<=R):
 (P.an (A7 nm) l).1=0/\Cm (P.an (A7 nm) l).2 N (R-l.length)/\∀m,(P.an (A7 nm) l).2.fl m=if m=nm then some (c.1++l,c.2) else P.fl m:=by
 obtain⟨f,z,rfl⟩:=LW H;have hroom:=h.AB;have d:¬((A7 l).size:Int)>FL {P.D with n:={P.D.n with AP:=P.D.n.AP+1}} P.F:=by
  unfold FL;rw[Ko];dsimp only;omega
 unfold PD.an Bl;rw[z];dsimp only
 rw[h.bg];dsimp only
 rw[Af rfl];unfold By;rw[Ac d];dsimp only
 have I:(A7 l).data.toList.take ((A7 l).size:Int).toNat=l:=by rw[Ko];simp[A7]
 rw[I];have hu:=Q2 P.F f ((P.F f).1++l,(P.F f).2) P.D.A4 h.Aq ⟨_,E1 z,rfl⟩;refine⟨rfl,⟨h.AS,h.BT,h.BJ,by have:=h.AP;dsimp only;omega,?_,h.Aq,h.Cb⟩,λm=>?_⟩
 ·dsimp only
  simp only[AZ]at hu;omega
 ·unfold PD.fl;dsimp only
  by_cases E:m=nm
  ·subst E;rw[z];simp[upd]
  ·rw[Ac E];cases hk:lookup P.D.A4 (A7 m) with
   | none=>rfl
   | some g=>
    have:g≠f:=λe=>E (by
     have:=Jo h.Aq (E1 hk) (E1 z) e
     exact FH.1 (P9 this).1)
    simp[upd,this]
def Cm.ae{c:FC}(h:Cm P (N+1) R)(z:P.fl nm=some c):
 (P.ae (A7 nm)).1=0/\Cm (P.ae (A7 nm)).2 N R/\∀m,((P.ae (A7 nm)).2.fl m).map (·.1)=(P.fl m).map (·.1):=by
 obtain⟨f,d,rfl⟩:=LW z;unfold PD.ae Cw;rw[d];dsimp only
 rw[h.bg];dsimp only
 rw[Af rfl];have hu:=Q2 P.F f ((P.F f).1,(P.F f).1.length) P.D.A4 h.Aq ⟨_,E1 d,rfl⟩;refine⟨rfl,⟨h.AS,h.BT,h.BJ,by have:=h.AP;dsimp only;omega,?_,h.Aq,h.Cb⟩,λm=>?_⟩
 ·have:=h.AB;dsimp only at hu ⊢;omega
 ·unfold PD.fl;dsimp only
  cases hk:lookup P.D.A4 (A7 m) with
  | none=>rfl
  | some g=>
   by_cases e:g=f
   ·subst e;simp[upd]
   ·simp[upd,e]
def Cm.aK(h:Cm P (N+1) R):P.aK.1=0/\Cm P.aK.2 N R/\∀m,P.aK.2.fl m=P.fl m:=by
 unfold PD.aK DC;dsimp only
 rw[h.bg];dsimp only
 rw[Af rfl];exact⟨rfl,⟨h.AS,h.BT,h.BJ,by have:=h.AP;dsimp only;omega,h.AB,h.Aq,h.Cb⟩,λ_=>rfl⟩
def Cm.cq(h:Cm P (N+1) R)(_p:ByteArray->Bool)(es:List AL)(hu:B4 P.F es<=B4 P.F P.D.A4)(z:(es.map (·.2)).Nodup)(d:(es.map (·.1)).Nodup):
 Cm ⟨{P.D with A4:=es,As:=P.D.As++[es],n:={P.D.n with AP:=P.D.n.AP+1}},P.F⟩ N R:=
 ⟨h.AS,h.BT,h.BJ,by have:=h.AP;dsimp only;omega,by have:=h.AB;dsimp only;omega,z,d⟩
def Cm.az{c:FC}(h:Cm P (N+1) R)(H:P.fl nm=some c):
 (P.az (A7 nm)).1=0/\Cm (P.az (A7 nm)).2 N R/\∀m,(P.az (A7 nm)).2.fl m=if m=nm then none else P.fl m:=by
 obtain⟨f,E,rfl⟩:=LW H;have z:¬B2 P.D.A4 (A7 nm)<0:=λh=>by rw[IQ,E]at h;cases h
 unfold PD.az Dd;rw[Ac z];dsimp only
 rw[h.bg];dsimp only
 rw[Af rfl,Tw _ _ h.Cb z];refine⟨rfl,h.cq (λ_=>true) _ (N2 _ _ _) (h.Aq.sublist (GL.map _)) (h.Cb.sublist (GL.map _)),λm=>?_⟩;unfold PD.fl;dsimp only
 rw[Kt P.D.A4 (λx=>decide (x≠A7 nm))];by_cases d:m=nm
 ·subst d;simp
 ·have:A7 m≠A7 nm:=λe=>d (FH.1 e);simp[this,d]
def Cm.aO{c:FC}{old:Bs}(h:Cm P (N+1) R)(h0:P.fl old=some c)(E:nm≠[])(hd:old≠nm):
 (P.aO (A7 old) (A7 nm)).1=0/\Cm (P.aO (A7 old) (A7 nm)).2 N R/\∀m,(P.aO (A7 old) (A7 nm)).2.fl m=if m=nm then some c else if m=old then none else P.fl m:=by
 obtain⟨f,Y,rfl⟩:=LW h0;have hx:¬B2 P.D.A4 (A7 old)<0:=λh=>by rw[IQ,Y]at h;cases h
 have z:=E1 Y;unfold PD.aO CN;rw[Y];dsimp only
 rw[Ac (S7 E),h.bg];dsimp only
 rw[Af rfl,R0 _ _ _ h.Cb hx];have L:(P.D.A4.filter λe=>decide (e.1≠A7 old/\e.1≠A7 nm))=(P.D.A4.filter λe=>decide (e.1≠A7 old)).filter λe=>decide (e.1≠A7 nm):=by
  rw[A3b];congr 1;funext e;simp[and_comm]
 have hparts:B4 P.F (P.D.A4.filter λe=>decide (e.1≠A7 old))+(P.F f).1.length<=B4 P.F P.D.A4:=by
  have W:∀es:List AL,(A7 old,f)∈es->B4 P.F (es.filter λe=>decide (e.1≠A7 old))+(P.F f).1.length<=B4 P.F es:=by
   intro es
   induction es with
   | nil=>intro h;cases h
   | cons e r ih=>
    intro d;by_cases H:e.1=A7 old
    ·rw[JV (by simp[H])];rcases BP.1 d with d|d
     ·subst d;have:=N2 P.F r λe=>decide (e.1≠A7 old);simp only[B4];omega
     ·have:=ih d;simp only[B4];omega
    ·rw[Io (by simp[H])];rcases BP.1 d with d|d
     ·subst d;exact absurd rfl H
     ·have:=ih d;simp only[B4];omega
  exact W _ z
 refine⟨rfl,h.cq (λ_=>true) _ ?_ ?_ ?_,λm=>?_⟩
 ·rw[K9,L];have:=N2 P.F (P.D.A4.filter λe=>decide (e.1≠A7 old)) λe=>decide (e.1≠A7 nm);simp only[B4];omega
 ·rw[E6,Gy];refine⟨h.Aq.sublist (GL.map _),by simp,λa ha b I=>?_⟩;simp at I;subst I;obtain⟨e,H,rfl⟩:=CA.1 ha;obtain⟨aB,aA⟩:=GJ.1 H;intro aD;have:=Jo h.Aq aB z aD;subst this;simp at aA
 ·rw[E6,Gy];refine⟨h.Cb.sublist (GL.map _),by simp,λa ha b I=>?_⟩;simp at I;subst I;obtain⟨e,H,rfl⟩:=CA.1 ha;have:=(GJ.1 H).2;simp at this;exact this.2
 ·unfold PD.fl;dsimp only
  rw[lookup_append,Kt P.D.A4 (λx=>decide (x≠A7 old/\x≠A7 nm))];by_cases d:m=nm
  ·subst d;simp[lookup]
  ·have E:¬A7 nm=A7 m:=λe=>d (FH.1 e).symm;have O:A7 m≠A7 nm:=λe=>d (FH.1 e);simp only[lookup,E,C4,UF,d];by_cases ho:m=old
   ·subst ho;simp
   ·have:A7 m≠A7 old:=λe=>ho (FH.1 e);simp[this,O,ho]
end
def ZH(l:List ByteArray)(x:ByteArray):(ins l x).Perm (x::l):=by
 unfold ins;refine List.perm_middle.trans ?_;rw[DO]
def TC(es:List AL):∀k,k<=es.length->(EA es k).Perm ((es.take k).map (·.1)):=by
 intro k
 induction k with
 | zero=>intro _;simp[EA]
 | succ k ih=>
  intro hk;have d:k<es.length:=by omega
  rw[M4 es k d,Dl d,E6];refine(ZH _ _).trans ?_;refine((ih (by omega)).cons _).trans ?_;exact(List.perm_append_singleton _ _).symm
def KJ(es:List AL):(dList es).Perm (es.map (·.1)):=by
 have:=TC es es.length (Au _)
 rwa [C9]at this
def PD.bs(P:PD)(nm:Bs):Option Bs:=(P.fl nm).map (·.1)
section
variable {P P':PD} {N R:Nat} {nm:Bs}
def GQ:nm∈P.Ax↔P.bs nm≠none:=by
 unfold PD.Ax PD.bs PD.fl;rw[CA];constructor
 ·rintro⟨b,z,rfl⟩;have:=(KJ P.D.A4).mem_iff.1 z;obtain⟨e,d,rfl⟩:=CA.1 this;cases hk:lookup P.D.A4 (A7 e.1.data.toList) with
  | none=>rw[G3]at hk;exact absurd rfl (IG.1 hk e d)
  | some f=>simp
 ·intro h;cases hk:lookup P.D.A4 (A7 nm) with
  | none=>rw[hk]at h;exact absurd rfl h
  | some f=>
   refine⟨A7 nm,(KJ P.D.A4).mem_iff.2 (CA.2 ⟨_,E1 hk,rfl⟩),by simp[A7]⟩
def Cm.cJ(h:Cm P N R):P.Ax.Nodup:=by
 unfold PD.Ax;have z:=(KJ P.D.A4).nodup_iff.2 h.Cb;rw[List.Nodup,La];refine List.Pairwise.imp (λd e=>d ?_) z;rename_i a b;rw[<-G3 a,<-G3 b,e]
def Ia:P.bs nm=none↔P.fl nm=none:=by unfold PD.bs;simp
def KM{c:Bs}(h:P.bs nm=some c):∃k,P.fl nm=some (c,k):=by
 unfold PD.bs at h;cases hx:P.fl nm with
 | none=>rw[hx]at h;cases h
 | some x=>rw[hx]at h;obtain⟨a,k⟩:=x;simp at h;subst h;exact⟨k,rfl⟩
def Cm.dF(h:Cm P (N+1) R)(H:P.bs nm=none)(d:nm≠[]):
 (P.ai (A7 nm)).1=0/\Cm (P.ai (A7 nm)).2 N R/\∀m,(P.ai (A7 nm)).2.bs m=if m=nm then some [] else P.bs m:=by
 obtain⟨E,z,I⟩:=h.ai (Ia.1 H) d;refine⟨E,z,λm=>?_⟩;unfold PD.bs;rw[I m];split<;>rfl
def Cm.e7{c:Bs}(h:Cm P (N+1) R)(I:P.bs nm=some c)(l:Bs)(z:l.length<=R):
 (P.an (A7 nm) l).1=0/\Cm (P.an (A7 nm) l).2 N (R-l.length)/\∀m,(P.an (A7 nm) l).2.bs m=if m=nm then some (c++l) else P.bs m:=by
 obtain⟨k,d⟩:=KM I;obtain⟨H,E,L⟩:=h.an d l z;refine⟨H,E,λm=>?_⟩;unfold PD.bs;rw[L m];split<;>rfl
def Cm.df{c:Bs}(h:Cm P (N+1) R)(z:P.bs nm=some c):
 (P.ae (A7 nm)).1=0/\Cm (P.ae (A7 nm)).2 N R/\∀m,(P.ae (A7 nm)).2.bs m=P.bs m:=by
 obtain⟨k,d⟩:=KM z;exact h.ae d
def Cm.dH(h:Cm P (N+1) R):P.aK.1=0/\Cm P.aK.2 N R/\∀m,P.aK.2.bs m=P.bs m:=by
 obtain⟨z,d,E⟩:=h.aK;exact⟨z,d,λm=>by unfold PD.bs;rw[E m]⟩
def Cm.fH{c:Bs}(h:Cm P (N+1) R)(H:P.bs nm=some c):
 (P.az (A7 nm)).1=0/\Cm (P.az (A7 nm)).2 N R/\∀m,(P.az (A7 nm)).2.bs m=if m=nm then none else P.bs m:=by
 obtain⟨k,d⟩:=KM H;obtain⟨E,z,I⟩:=h.az d;refine⟨E,z,λm=>?_⟩;unfold PD.bs;rw[I m];split<;>rfl
def Cm.fx{c:Bs}{old:Bs}(h:Cm P (N+1) R)(L:P.bs old=some c)(d:nm≠[])(z:old≠nm):
 (P.aO (A7 old) (A7 nm)).1=0/\Cm (P.aO (A7 old) (A7 nm)).2 N R/\∀m,(P.aO (A7 old) (A7 nm)).2.bs m=if m=nm then some c else if m=old then none else P.bs m:=by
 obtain⟨k,E⟩:=KM L;obtain⟨I,H,O⟩:=h.aO E d z;refine⟨I,H,λm=>?_⟩;unfold PD.bs;rw[O m];split
 ·rfl
 ·split<;>rfl
def IW:P.Cl nm=match P.bs nm with|some c=>(c,0)|none=>([],8):=by
 unfold PD.Cl DJ PD.bs PD.fl;cases lookup P.D.A4 (A7 nm)<;>rfl
def TB:Cx P.D P.F (A7 nm)=match P.bs nm with|some c=>((c.length:Int),0)|none=>(0,8):=by
 unfold Cx PD.bs PD.fl;cases lookup P.D.A4 (A7 nm)<;>rfl
def Eu(s:Nat)(l:Bs):(AR s l).length=l.length+4:=by simp[AR,H3]
def Cm.aa{c:Bs}(h:Cm P (N+1) R)(z:P.bs nm=some c)(s:Nat)(l:Bs)(hl:l.length+4<=R):
 (P.aa (A7 nm) s l).1=true/\(P.aa (A7 nm) s l).2.1=0/\Cm (P.aa (A7 nm) s l).2.2 N (R-(l.length+4))/\∀m,(P.aa (A7 nm) s l).2.2.bs m=if m=nm then some (c++AR s l) else P.bs m:=by
 have H:=Eu s l;obtain⟨I,d,E⟩:=h.e7 z (AR s l) (by omega);rw[H]at d;refine⟨?_,I,d,E⟩;show GW P.D P.F (A7 nm) (AR s l)=true;unfold GW;have e:=@TB (P.an (A7 nm) (AR s l)).2 nm;have L:Cx (Bl P.D P.F (A7 nm) ⟨(AR s l).toArray⟩).2.1 (Bl P.D P.F (A7 nm) ⟨(AR s l).toArray⟩).2.2 (A7 nm)=Cx (P.an (A7 nm) (AR s l)).2.D (P.an (A7 nm) (AR s l)).2.F (A7 nm):=rfl;rw[L,e,E nm,TB,z];simp only[Cg,AZ];simp only[DG];omega
def Cm.aH(h:Cm P (N+3) R)(W:P.bs nm=none)(d:nm≠[])(s:Nat)(l:Bs)(I:l.length+4<=R):
 (P.aH nm s l).1=0/\Cm (P.aH nm s l).2 N (R-(l.length+4))/\∀m,(P.aH nm s l).2.bs m=if m=nm then some (AR s l) else P.bs m:=by
 obtain⟨L,O,z⟩:=Cm.dF (N:=N+2) h W d;obtain⟨-,H,Y,E⟩:=Cm.aa (N:=N+1) (nm:=nm) (c:=[]) O (by rw[z];simp) s l I;obtain⟨c1,c2,c3⟩:=Cm.df (N:=N) (nm:=nm) (c:=AR s l) Y (by rw[E];simp);unfold PD.aH;rw[Ac (by simp[L]),Ac (by simp[H])];refine⟨c1,c2,λm=>?_⟩;rw[c3,E,z];split
 ·simp
 ·rfl
def VE(s:Nat)(l:Bs):Hr s (AR s l)=some l:=by
 unfold Hr;have hp:=Eu s l;have d:(AR s l).length-4=l.length:=by omega
 rw[Ac (by omega),d];have z:(AR s l).take l.length=l:=by simp[AR]
 have h:(AR s l).drop l.length=Ca (AU s l):=by simp[AR]
 rw[z,h,Af rfl]
def Ra{l:Bs}(h:P.bs nm=some (AR (AE nm) l)):P.a1 nm=(l,0):=by
 unfold PD.a1;rw[IW,h];simp[VE]
def Xx(h:P.bs nm=none):P.a1 nm=([],8):=by
 unfold PD.a1;rw[IW,h];simp
def Cm.ax:∀(l:List Bs) {P:PD},Cm P (N+l.length) R->(∀m∈l,P.bs m≠none)->(PD.ax l P).1=0/\Cm (PD.ax l P).2 N R/\∀m,(PD.ax l P).2.bs m=P.bs m
 | [],P,h,_=>⟨rfl,h,λ_=>rfl⟩
 | x::r,P,h,hm=>by
  obtain⟨c,W⟩:=L3.1 (hm x (BD ..));obtain⟨H,I,z⟩:=Cm.df (N:=N+r.length) (by simpa[Nat.add_assoc] using h) W;obtain⟨E,L,O⟩:=Cm.ax r I λm d=>by rw[z];exact hm m (Br _ d)
  unfold PD.ax;rw[Ac (by simp[H])];exact⟨E,L,λm=>by rw[O,z]⟩
def Cm.aM:∀(l:List Bs) {P:PD},Cm P (N+l.length) R->l.Nodup->(∀m∈l,P.bs m≠none)->(PD.aM l P).1=0/\Cm (PD.aM l P).2 N R/\∀m,(PD.aM l P).2.bs m=if m∈l then none else P.bs m
 | [],P,h,_,_=>⟨rfl,h,λm=>by simp[PD.aM]⟩
 | x::r,P,h,hn,hm=>by
  have d:=JS.1 hn;obtain⟨c,Y⟩:=L3.1 (hm x (BD ..));obtain⟨I,L,E⟩:=Cm.fH (N:=N+r.length) (by simpa[Nat.add_assoc] using h) Y;obtain⟨H,O,W⟩:=Cm.aM r L d.2 λm z=>by
   (have e:m≠x:=λe=>by subst e;exact d.1 z);rw[E,Ac e];exact hm m (Br _ z)
  unfold PD.aM;rw[Ac (by simp[I])];refine⟨H,O,λm=>?_⟩;rw[W,E];by_cases e:m=x
  ·subst e;simp
  ·simp[e]
end
def T5:∀(l:List Int) (k:Nat) (r:Bs),(∀n∈l,AW n)->l.length<k->r.length<8->G6 k (l.flatMap AO++r)=l
 | [],k,r,_,_,hr=>by
  cases k with
  | zero=>rfl
  | succ k=>simp[G6,hr]
 | n::t,k,r,hn,hk,hr=>by
  cases k with
  | zero=>simp at hk
  | succ k=>
   (have e:(n::t).flatMap AO++r=AO n++(t.flatMap AO++r):=by simp[List.append_assoc]);have d:=CJ n;rw[e];unfold G6;rw[Ac (by simp[d]),LS n (hn n (BD ..))];rw[UZ (by rw[d]),T5 t k r (λx h=>hn x (Br _ h)) (by simp at hk;omega) hr]
def IP(l:List Int):(l.flatMap AO).length=8*l.length:=by
 induction l with
 | nil=>rfl
 | cons n t ih=>rw[MH,AZ,ih,CJ,CG];omega
def Zy(l:List Int)(h:∀n∈l,AW n):Ej (l.flatMap AO)=l:=by
 unfold Ej;cases l with
 | nil=>rfl
 | cons n t=>
  have:=T5 (n::t) ((n::t).flatMap AO).length [] h (by rw[IP];simp) (by simp);simpa using this
structure MN (ix:Ix):Prop where
 B7:isNum ix.B7=true
 segs:∀n∈ix.segs,isNum n=true
 EE:Cr Ci ix.segs=true
def Oh{n:Int}(h:isNum n=true):AW n:=by
 unfold isNum at h;simp at h;constructor<;>omega
def ZX{ix:Ix}(h:MN ix):indexOf (Ch ix.B7 ix.segs,0)=some ix:=by
 have z:Ch ix.B7 ix.segs=(ix.B7::ix.segs).flatMap AO:=by simp[Ch]
 have hall:∀n∈ix.B7::ix.segs,isNum n=true:=λn d=>by
  rcases BP.1 d with rfl|d
  ·exact h.B7
  ·exact h.segs n d
 have e:Ej (Ch ix.B7 ix.segs)=ix.B7::ix.segs:=by
  rw[z];exact Zy _ λn d=>Oh (hall n d)
 have E:(Ch ix.B7 ix.segs).length=(ix.B7::ix.segs).length*8:=by rw[z,IP];omega
 unfold indexOf;dsimp only
 rw[Ac (by decide),e,Ac (by simp[E]),Ac,Af]
 ·simp
 ·simpa using h.EE
 ·have:(ix.B7::ix.segs).all isNum=true:=MM.2 hall;rw[this];simp
def ZW:indexOf ([],8)=some ⟨1,[]⟩:=by simp[indexOf]
def EP(p:Pu):(Bb p.1 p.2.1 p.2.2).length=17:=by simp[Bb,CJ]
def Rs{p:Pu}(h:Bg p)(r:Bs):LG (Bb p.1 p.2.1 p.2.2++r)=p/\((Bb p.1 p.2.1 p.2.2++r).headD 0).toNat<8:=by
 obtain⟨a,t,v⟩:=p;obtain⟨⟨L,I⟩,z,d⟩:=h;dsimp only at L I z d ⊢;have H:=CJ t;have E:((UInt8.ofNat (a % 256).toNat).toNat:Int)=a:=by
  have:(a % 256).toNat=a.toNat:=by omega
  rw[this];simp;omega
 unfold LG Bb;simp only[Fo,List.headD_cons,DE,Dq,Cc];rw[E,LS t z,UZ (by rw[H]),LS v d];exact⟨rfl,by omega⟩
def Qz:∀(l:List Pu) (k:Nat),(∀p∈l,Bg p)->l.length<k->Es k (Cd l)=some (l,[])
 | [],k,_,hk=>by
  cases k with
  | zero=>simp at hk
  | succ k=>simp[Es,Cd]
 | p::t,k,hp,hk=>by
  cases k with
  | zero=>simp at hk
  | succ k=>
   (have e:Cd (p::t)=Bb p.1 p.2.1 p.2.2++Cd t:=by simp[Cd]);obtain⟨z,h⟩:=Rs (hp p (BD ..)) (Cd t);have d:=EP p;rw[e];unfold Es;rw[Ac (by simp[d]),Af h,UZ (by rw[d]),Qz t k (λx E=>hp x (Br _ E)) (by simp at hk;omega),z];rfl
def HR(l:List Pu):(Cd l).length=17*l.length:=by
 induction l with
 | nil=>rfl
 | cons p t ih=>
  have e:Cd (p::t)=Bb p.1 p.2.1 p.2.2++Cd t:=by simp[Cd]
  rw[e,AZ,ih,EP,CG];omega
def WE{l:List Pu}(h:∀p∈l,Bg p)(d:Cr Ck l=true):It (Cd l,0)=some l:=by
 unfold It;dsimp only
 rw[Ac (by decide)];cases l with
 | nil=>simp[Cd,Es,d]
 | cons p t=>
  rw[Qz (p::t) _ h (by rw[HR];simp)];simp[d]
def DU:Nat->List Pu->Bs
 | _,[]=>[]
 | s,p::r=>AR s (Bb p.1 p.2.1 p.2.2)++DU (AU s (Bb p.1 p.2.1 p.2.2)) r
def H7:Nat->List Pu->Nat
 | s,[]=>s
 | s,p::r=>H7 (AU s (Bb p.1 p.2.1 p.2.2)) r
def SE:∀(l:List Pu) (s:Nat) (p:Pu),DU s (l++[p])=DU s l++AR (H7 s l) (Bb p.1 p.2.1 p.2.2)/\H7 s (l++[p])=AU (H7 s l) (Bb p.1 p.2.1 p.2.2)
 | [],s,p=>by simp[DU,H7]
 | x::r,s,p=>by
  obtain⟨h,d⟩:=SE r (AU s (Bb x.1 x.2.1 x.2.2)) p;simp only[Fo,DU,H7,h,d,Cc,and_self]
def IJ:∀(l:List Pu) (s:Nat),(DU s l).length=21*l.length
 | [],_=>rfl
 | p::r,s=>by
  simp only[DU,AZ,Eu,EP,IJ r,CG];omega
def LF:∀(l:List Pu) (s k:Nat) (t:Bs),(∀p∈l,Bg p)->l.length<k->t.length<21->Dx k s (DU s l++t)=(l,true)
 | [],s,k,t,_,_,ht=>by simp only[DU,EY];exact Rc ht
 | p::r,s,k,t,hp,hk,ht=>by
  cases k with
  | zero=>simp at hk
  | succ k=>
   have z:=hp p (BD ..);have h17:=EP p;have I:=LF r (AU s (Bb p.1 p.2.1 p.2.2)) k t (λx L=>hp x (Br _ L)) (by simp at hk;omega) ht;obtain⟨H,E⟩:=Rs z [];have d:Bb p.1 p.2.1 p.2.2=UInt8.ofNat (p.1 % 256).toNat::(AO p.2.1++AO p.2.2):=rfl;simp only[Gh]at H E;have e:DU s (p::r)++t=UInt8.ofNat (p.1 % 256).toNat::(AO p.2.1++AO p.2.2)++Ca (AU s (Bb p.1 p.2.1 p.2.2))++(DU (AU s (Bb p.1 p.2.1 p.2.2)) r++t):=by
    simp only[DU,AR,d,Cc]
   rw[e,Rg (by simp[CJ]) (H3 _) (by rw[<-d]) (by rw[d]at E;exact E)];rw[<-d,I];have h:=H;unfold LG at h;rw[d]at h;simp only[List.headD_cons,DE,Dq]at h;rw[h]
def DV(nm:Bs)(ahead:Int)(l:List Pu):Bs:=AR (AE nm) (AO ahead)++DU (AU (AE nm) (AO ahead)) l
def ES(nm:Bs)(ahead:Int)(l:List Pu):Nat:=H7 (AU (AE nm) (AO ahead)) l
def IK(nm:Bs)(ahead:Int)(l:List Pu):(DV nm ahead l).length=12+21*l.length:=by
 unfold DV;rw[AZ,Eu,CJ,IJ]
def SH(nm:Bs)(ahead:Int)(l:List Pu)(p:Pu):DV nm ahead (l++[p])=DV nm ahead l++AR (ES nm ahead l) (Bb p.1 p.2.1 p.2.2)/\ES nm ahead (l++[p])=AU (ES nm ahead l) (Bb p.1 p.2.1 p.2.2):=by
 obtain⟨h,d⟩:=SE l (AU (AE nm) (AO ahead)) p;unfold DV ES;rw[h,d,Cc];exact⟨rfl,rfl⟩
def Ri(nm:Bs)(ahead:Int)(l:List Pu)(t:Bs)(h:AW ahead)(d:∀p∈l,Bg p)(z:t.length<21):FZ (AE nm) ahead (DV nm ahead l++t)=(l,0):=by
 have e:DV nm ahead l++t=AO ahead++Ca (AU (AE nm) (AO ahead))++(DU (AU (AE nm) (AO ahead)) l++t):=by
  simp only[DV,AR,Cc]
 rw[e,Rh (CJ _) (H3 _)];have E:BH (AO ahead)=ahead:=by have:=LS ahead h [];simpa using this
 rw[Af ⟨rfl,E⟩,LF l _ _ t d (by rw[AZ,IJ];omega) z];simp
def XC(s:Nat)(ahead:Int)(t:Bs)(d:t.length<12):FZ s ahead t=([],0):=by
 unfold FZ;rw[Af d]
section
variable {P:PD} {n ahead:Int}
def SC{c:Bs}(h:P.bs (Ae n)=some c):P.aX n ahead=FZ (AE (Ae n)) ahead c:=by
 have d:=@IW P (Ae n);unfold PD.Cl at d;rw[h]at d;unfold PD.aX Gm;have e:DJ P.D P.F ⟨(Ae n).toArray⟩=(c,0):=d;rw[e];simp
def ZS{ix:Ix}(h:MN ix)(d:P.bs AI=some (AR (AE AI) (Ch ix.B7 ix.segs))):P.ba=some ix:=by
 unfold PD.ba;rw[Ra d,ZX h]
def ZT(d:P.bs AI=none):P.ba=some ⟨1,[]⟩:=by
 unfold PD.ba;rw[Xx d,ZW]
def WA{l:List Pu}(h:∀p∈l,Bg p)(z:Cr Ck l=true)(d:P.bs (AG n)=some (AR (AE (AG n)) (Cd l))):P.Cq n=some l:=by
 unfold PD.Cq;rw[Ra d,WE h z]
def O8{l:List Pu}{t:Bs}(d:AW ahead)(h:∀p∈l,Bg p)(z:t.length<21)(E:P.bs (Ae n)=some (DV (Ae n) ahead l++t)):P.aX n ahead=(l,0):=by
 rw[SC E,Ri _ _ _ _ d h z]
end
def IF(n:Int):Ae n=108::(Lib.repeatL [48] (19-(Lib.itoa n).length)++Lib.itoa n):=by simp[Ae,BL,Ec,D3]
def HW(n:Int):AG n=115::(Lib.repeatL [48] (19-(Lib.itoa n).length)++Lib.itoa n):=by simp[AG,BL,Ec,D3]
def Sr{lt:Bs}{a b:Int}(d:isNum a=true)(E:isNum b=true)(h:Ec lt a=Ec lt b):a=b:=by
 unfold isNum at d E;simp at d E;have z:=LK lt (n:=a) (by omega) (by omega);have H:=LK lt (n:=b) (by omega) (by omega);rw[h,H]at z;simpa using z.symm
def FG{a b:Int}(d:isNum a=true)(z:isNum b=true)(h:Ae a=Ae b):a=b:=Sr (lt:=D3 1) d z (by simpa[Ae,BL] using h)
def Kn{a b:Int}(d:isNum a=true)(z:isNum b=true)(h:AG a=AG b):a=b:=Sr (lt:=D3 2) d z (by simpa[AG,BL] using h)
def FK(a b:Int):Ae a≠AG b:=by rw[IF,HW];simp
def H6(a:Int):Ae a≠AI:=by rw[IF];simp[AI]
def Jf(a:Int):AG a≠AI:=by rw[HW];simp[AI]
def Ku(a:Int):Ae a≠Bk:=by rw[IF];simp[Bk]
def Ly(a:Int):AG a≠Bk:=by rw[HW];simp[Bk]
def IN:AI≠Bk:=by simp[AI,Bk]
def Kq{n:Int}(h:isNum n=true):Be (Ae n)=(1,n):=by
 have d:1<=n/\n<=4611686018427387904:=by unfold isNum at h;simpa using h
 unfold Be;have e:E0 [108] (Ae n)=some n:=by
  have:=LK (D3 1) (n:=n) (by omega) d.2;simpa[Ae,BL,D3] using this
 rw[e]
def Ks{c d:UInt8}{r:Bs}(h:c≠d):E0 [c] (d::r)=none:=by
 cases hx:E0 [c] (d::r) with
 | none=>rfl
 | some v=>have:=(Kr hx).2;simp[Ec]at this;exact absurd this.1 h
def O3{n:Int}(h:isNum n=true):Be (AG n)=(2,n):=by
 have d:1<=n/\n<=4611686018427387904:=by unfold isNum at h;simpa using h
 have e:E0 [115] (AG n)=some n:=by
  have:=LK (D3 2) (n:=n) (by omega) d.2;simpa[AG,BL,D3] using this
 have z:E0 [108] (AG n)=none:=by rw[HW];exact Ks (by decide)
 unfold Be GS;rw[z,e]
def Sh:Be AI=(3,0):=by
 have h:E0 [108] AI=none:=Ks (by decide);have d:E0 [115] AI=none:=Ks (by decide);unfold Be GS;rw[h,d];simp[GR]
def YR(a:Int):Ae a≠[]:=by rw[IF];simp
def WB(a:Int):AG a≠[]:=by rw[HW];simp
def EK(P:PD):Int->List (Int×List Pu)->Prop
 | _,[]=>True
 | a,x::r=>P.aX x.1 a=(x.2,0)/\EK P (a+x.2.length) r
def Aw(l:List (Int×List Pu)):List Pu:=l.flatMap (·.2)
def UE(P:PD)(j:Jn)(cl:List (Int×List Pu)):Option (List Pu)->Prop
 | none=>j.AF=none/\j.Aj=cl.map (·.1)
 | some l=>j.AF=some (j.A8,ES (Ae j.A8) j.puts l)/\j.Aj=cl.map (·.1)++[j.A8]/\P.bs (Ae j.A8)=some (DV (Ae j.A8) j.puts l)/\(∀p∈l,Bg p)/\isNum j.A8=true
structure Lay (P:PD) (A:Ar) (sg cl:List (Int×List Pu)) (ol:Option (List Pu)):Prop where
 Dz:MN A.ix
 ix:(P.bs AI=none/\A.ix=⟨1,[]⟩)\/P.bs AI=some (AR (AE AI) (Ch A.ix.B7 A.ix.segs))
 segs:sg.map (·.1)=A.ix.segs
 Cq:∀x∈sg,((∀p∈x.2,Bg p)/\Cr Ck x.2=true)/\P.bs (AG x.1)=some (AR (AE (AG x.1)) (Cd x.2))
 CO:∀x∈cl,(isNum x.1=true/\x.1<=A.j.A8)/\∀p∈x.2,Bg p
 IV:∀x∈cl,ol≠none->x.1≠A.j.A8
 Ey:(∀x∈cl,A.ix.B7<=x.1)/\(ol≠none->A.ix.B7<=A.j.A8)
 Aj:EK P 0 cl
 Gc:A.j.puts=((Aw cl).length:Int)
 AF:UE P A.j cl ol
 Ew:0<=A.j.A8/\A.ix.B7<=A.j.A8+1/\∀n,isNum n=true->P.bs (Ae n)≠none->n<=A.j.A8
 Ei:0<=A.A8/\∀n,isNum n=true->P.bs (AG n)≠none->n<=A.A8
 AN:∀nm∈A.AN,P.bs nm≠none
 GU:A.j.Aj.Pairwise (· < ·)
 Eb:∀nm,P.bs nm≠none->(Be nm).1≠0
 H5:∀n,isNum n=true->A.ix.B7<=n->P.bs (Ae n)≠none->n∈A.j.Aj
def B6(sg cl:List (Int×List Pu))(ol:Option (List Pu)):List Pu:=Aw sg++(Aw cl++ol.getD [])
section
variable {P P':PD} {A:Ar} {sg cl:List (Int×List Pu)} {ol:Option (List Pu)} {N R:Nat}
def EK.aI(d:∀m,P'.bs m=P.bs m):∀ {a:Int} {l:List (Int×List Pu)},EK P a l->EK P' a l
 | _,[],_=>trivial
 | a,x::r,h=>by
  obtain⟨E,z⟩:=h;refine⟨?_,z.aI d⟩;rw[<-E];unfold PD.aX Gm;have e:∀Q:PD,DJ Q.D Q.F ⟨(Ae x.1).toArray⟩=match Q.bs (Ae x.1) with|some c=>(c,0)|none=>([],8):=λQ=>@IW Q (Ae x.1)
  rw[e P',e P,d]
def YQ{n:Int}(d:P'.bs (Ae n)=P.bs (Ae n))(a:Int):P'.aX n a=P.aX n a:=by
 unfold PD.aX Gm;have e:∀Q:PD,DJ Q.D Q.F ⟨(Ae n).toArray⟩=match Q.bs (Ae n) with|some c=>(c,0)|none=>([],8):=λQ=>@IW Q (Ae n)
 rw[e P',e P,d]
def EK.bC:∀ {a:Int} {l:List (Int×List Pu)},EK P a l->(∀x∈l,P'.bs (Ae x.1)=P.bs (Ae x.1))->EK P' a l
 | _,[],_,_=>trivial
 | a,x::_,h,hb=>⟨(YQ (hb x (BD ..)) a).trans h.1,h.2.bC λy d=>hb y (Br _ d)⟩
def EK.bV:∀ {a:Int} {l:List (Int×List Pu)} {x:Int×List Pu},EK P a l->P.aX x.1 (a+(Aw l).length)=(x.2,0)->EK P a (l++[x])
 | a,[],x,_,h=>⟨by simpa[Aw] using h,trivial⟩
 | a,y::r,x,h,h2=>⟨h.1,h.2.bV (by
  rw[<-h2];congr 1
  simp only[Aw,MH,AZ];omega)⟩
def NF:∀ {l:List (Int×List Pu)} {d:List Pu},EK P d.length l->P.bl (l.map (·.1)) d=(d++Aw l,0)
 | [],d,_=>by simp[PD.bl,Aw]
 | x::r,d,h=>by
  obtain⟨z,E⟩:=h;simp only[GY,PD.bl];rw[z];dsimp only
  rw[Ac (by simp),NF (by simpa using E)];simp[Aw,List.append_assoc]
def YU{n a:Int}{l:List Pu}(h:P.aX n a=(l,0)):P.bs (Ae n)≠none:=by
 intro d;have e:DJ P.D P.F ⟨(Ae n).toArray⟩=([],8):=by have:=@IW P (Ae n);unfold PD.Cl at this;rw[d]at this;exact this
 unfold PD.aX Gm at h;rw[e]at h;simp at h
def EK.Dy:∀ {a:Int} {l:List (Int×List Pu)} {x:Int×List Pu},EK P a l->x∈l->P.bs (Ae x.1)≠none
 | a,y::r,x,h,d=>by
  rcases BP.1 d with rfl|d
  ·exact YU h.1
  ·exact h.2.Dy d
def Lay.dn(h:Lay P A sg cl ol)(hl:(Aw cl).length<=1099511627776):AW A.j.puts:=by rw[h.Gc];constructor<;>omega
def Lay.puts(h:Lay P A sg cl ol)(z:(Aw cl).length<=1099511627776):P.puts A.j.Aj=(Aw cl++ol.getD [],0):=by
 have d:=h.AF;unfold PD.puts;cases ol with
 | none=>
  rw[d.2,NF h.Aj];simp
 | some l=>
  obtain⟨-,H,E,I,h4⟩:=d
  have L:EK P 0 (cl++[(A.j.A8,l)]):=h.Aj.bV (by
   have:=h.Gc;rw[MQ,<-this]
   exact O8 (t:=[]) (h.dn z) I (by simp) (by simpa using E))
  have e:cl.map (·.1)++[A.j.A8]=(cl++[(A.j.A8,l)]).map (·.1):=by simp
  rw[H,e,NF L];simp[Aw]
def Lay.b7(h:Lay P A sg cl ol):P.segs A.ix.segs=some sg:=by
 rw[<-h.segs];have d:∀l:List (Int×List Pu),(∀x∈l,x∈sg)->P.segs (l.map (·.1))=some l:=by
  intro l
  induction l with
  | nil=>intro _;rfl
  | cons x r ih=>
   intro z;obtain⟨⟨I,H⟩,L⟩:=h.Cq x (z x (BD ..));simp only[GY,PD.segs];rw[WA I H L];dsimp only
   rw[ih λy E=>z y (Br _ E)];rfl
 exact d sg λ_ h=>h
def Lay.aI(h:Lay P A sg cl ol)(d:∀m,P'.bs m=P.bs m):Lay P' A sg cl ol:=by
 refine⟨h.Dz,by rw[d];exact h.ix,h.segs,λx z=>by rw[d];exact h.Cq x z,h.CO,h.IV,h.Ey,h.Aj.aI d,h.Gc,?_,⟨h.Ew.1,h.Ew.2.1,λn H z=>h.Ew.2.2 n H (by rw[<-d];exact z)⟩,
  ⟨h.Ei.1,λn H z=>h.Ei.2 n H (by rw[<-d];exact z)⟩,λnm E=>by rw[d];exact h.AN nm E,h.GU,λnm E=>h.Eb nm (by rw[<-d];exact E),λn L I O=>h.H5 n L I (by rw[<-d];exact O)⟩
 have:=h.AF;cases ol with
 | none=>exact this
 | some l=>unfold UE at this ⊢;rw[d];exact this
def Lay.C(h:Lay P A sg cl ol)(L:Cm P (N+A.AN.length) R):(A.C P).1=0/\(A.C P).2.1 = {A with AN:=[]}/\Cm (A.C P).2.2 N R/\(∀m,(A.C P).2.2.bs m=P.bs m)/\Lay (A.C P).2.2 {A with AN:=[]} sg cl ol:=by
 obtain⟨I,H,z⟩:=Cm.ax A.AN L h.AN;have e:A.C P=(0,{A with AN:=[]},(P.ax A.AN).2):=by unfold Ar.C;rw[Ac (by simp[I])]
 have d:=h.aI z;rw[e];exact⟨rfl,rfl,H,z,⟨d.Dz,d.ix,d.segs,d.Cq,d.CO,d.IV,d.Ey,d.Aj,d.Gc,d.AF,d.Ew,d.Ei,λnm E=>(by cases E),d.GU,d.Eb,d.H5⟩⟩
def Lay.av(h:Lay P A sg cl none)(hc:Cm P (N+2) R)(hn:isNum (A.j.A8+1)=true)(hR:12<=R):
 (A.j.av P).1=0/\Cm (A.j.av P).2.2 N (R-12)/\Lay (A.j.av P).2.2 {A with j:=(A.j.av P).2.1} sg cl (some [])/\(A.j.av P).2.1.AF≠none:=by
 obtain⟨n,O⟩:∃n,A.j.A8+1=n:=⟨_,rfl⟩;have h0:P.bs (Ae n)=none:=by
  cases z:P.bs (Ae n) with
  | none=>rfl
  | some c=>have:=h.Ew.2.2 n (O ▸ hn) (by rw[z];simp);omega
 obtain⟨a1,a2,a3⟩:=Cm.dF (N:=N+1) hc h0 (YR n);obtain⟨-,b1,b2,b3⟩:=Cm.aa (N:=N) (nm:=Ae n) (c:=[]) a2 (by rw[a3];simp) (AE (Ae n)) (AO A.j.puts) (by rw[CJ];omega);rw[CJ]at b2;have I:=h.AF;have e:A.j.av P=(0,⟨A.j.Aj++[n],n,A.j.puts,some (n,AU (AE (Ae n)) (AO A.j.puts))⟩,((P.ai (A7 (Ae n))).2.aa (A7 (Ae n)) (AE (Ae n)) (AO A.j.puts)).2.2):=by
  unfold Jn.av;rw[O,Ac (by simp[a1])];dsimp only
  rw[Ac (by simp[b1])]
 rw[e];dsimp only
 have d:∀m,m≠Ae n->((P.ai (A7 (Ae n))).2.aa (A7 (Ae n)) (AE (Ae n)) (AO A.j.puts)).2.2.bs m=P.bs m:=λm L=>by rw[b3,Ac L,a3,Ac L]
 have E:=b3 (Ae n);rw[Af rfl,EY]at E;generalize ((P.ai (A7 (Ae n))).2.aa (A7 (Ae n)) (AE (Ae n)) (AO A.j.puts)).2.2=P2 at d E b2;have H:=O ▸ hn;have W:∀x∈cl,x.1≠n:=λx z e=>by have:=(h.CO x z).1.2;omega
 refine⟨rfl,b2,⟨h.Dz,?_,h.segs,λx z=>?_,λx z=>?_,λx z _=>W x z,⟨h.Ey.1,λ_=>by have:=h.Ew.2.1;dsimp only;omega⟩,?_,h.Gc,?_,?_,?_,λnm L=>?_,?_,λnm L=>?_,λk h1 h2 h3=>?_⟩,by simp⟩
 ·rw[d _ (H6 n).symm];exact h.ix
 ·rw[d _ (FK n x.1).symm];exact h.Cq x z
 ·obtain⟨⟨c1,c2⟩,c3⟩:=h.CO x z;exact⟨⟨c1,by dsimp only;omega⟩,c3⟩
 ·exact h.Aj.bC λx z=>d _ λe=>W x z (FG (h.CO x z).1.1 H e)
 ·refine⟨rfl,by dsimp only;rw[I.2],?_,by simp,H⟩;dsimp only
  rw[E];simp[DV,DU]
 ·refine⟨by have:=h.Ew.1;dsimp only;omega,by have:=h.Ew.2.1;dsimp only;omega,λk Y z=>?_⟩;dsimp only
  by_cases e:Ae k=Ae n
  ·have:=FG Y H e;omega
  ·rw[d _ e]at z;have:=h.Ew.2.2 k Y z;omega
 ·refine⟨h.Ei.1,λk Y z=>h.Ei.2 k Y ?_⟩
  rwa [d _ (FK n k).symm]at z
 ·by_cases e:nm=Ae n
  ·subst e;rw[E];simp
  ·rw[d _ e];exact h.AN nm L
 ·dsimp only
  refine Eg.2 ⟨h.GU,by simp,λa ha b hb=>?_⟩;simp at hb;subst hb;rw[I.2]at ha;obtain⟨x,z,rfl⟩:=CA.1 ha;have:=(h.CO x z).1.2;omega
 ·by_cases e:nm=Ae n
  ·subst e;rw[Kq H];simp
  ·rw[d _ e]at L;exact h.Eb nm L
 ·dsimp only
  by_cases e:Ae k=Ae n
  ·have:=FG h1 H e;subst this;simp
  ·rw[d _ e]at h3;exact Fx _ (h.H5 k h1 h2 h3)
def Lay.aw{l:List Pu}(h:Lay P A sg cl (some l))(hc:Cm P (N+1) R)(p:Pu)(hp:Bg p)(hR:21<=R):
 (A.j.aw P p).1=true/\(A.j.aw P p).2.1=0/\Cm (A.j.aw P p).2.2.2 N (R-21)/\Lay (A.j.aw P p).2.2.2 {A with j:=(A.j.aw P p).2.2.1} sg cl (some (l++[p])):=by
 obtain⟨W,h2,h3,h4,I⟩:=h.AF;obtain⟨n,hnn⟩:∃n,A.j.A8=n:=⟨_,rfl⟩;obtain⟨b0,b1,b2,b3⟩:=Cm.aa (N:=N) hc h3 (ES (Ae A.j.A8) A.j.puts l) (Bb p.1 p.2.1 p.2.2) (by rw[EP];omega);rw[EP]at b2;obtain⟨q1,q2⟩:=SH (Ae A.j.A8) A.j.puts l p;unfold Jn.aw;rw[W];dsimp only
 refine⟨b0,b1,b2,?_⟩;have d:∀m,m≠Ae A.j.A8->(P.aa (A7 (Ae A.j.A8)) (ES (Ae A.j.A8) A.j.puts l) (Bb p.1 p.2.1 p.2.2)).2.2.bs m=P.bs m:=λm H=>by rw[b3,Ac H]
 have E:=b3 (Ae A.j.A8);rw[Af rfl]at E;generalize (P.aa (A7 (Ae A.j.A8)) (ES (Ae A.j.A8) A.j.puts l) (Bb p.1 p.2.1 p.2.2)).2.2=P2 at d E b2;refine⟨h.Dz,?_,h.segs,λx z=>?_,h.CO,λx z _=>h.IV x z (by simp),⟨h.Ey.1,λ_=>h.Ey.2 (by simp)⟩,?_,h.Gc,⟨?_,h2,?_,?_,I⟩,⟨h.Ew.1,h.Ew.2.1,λk O z=>?_⟩,⟨h.Ei.1,λk O z=>?_⟩,λnm H=>?_,h.GU,λnm H=>?_,λk W Y L=>?_⟩
 ·rw[d _ (H6 _).symm];exact h.ix
 ·rw[d _ (FK _ x.1).symm];exact h.Cq x z
 ·exact h.Aj.bC λx z=>d _ λe=>h.IV x z (by simp) (FG (h.CO x z).1.1 I e)
 ·dsimp only;rw[q2]
 ·dsimp only;rw[E,q1]
 ·intro x z;rcases AV.1 z with z|z
  ·exact h4 x z
  ·simp at z;subst z;exact hp
 ·by_cases e:Ae k=Ae A.j.A8
  ·have:=FG O I e;show k<=A.j.A8;omega
  ·rw[d _ e]at z;exact h.Ew.2.2 k O z
 ·rw[d _ (FK _ k).symm]at z;exact h.Ei.2 k O z
 ·by_cases e:nm=Ae A.j.A8
  ·subst e;rw[E];simp
  ·rw[d _ e];exact h.AN nm H
 ·by_cases e:nm=Ae A.j.A8
  ·subst e;rw[Kq I];simp
  ·rw[d _ e]at H;exact h.Eb nm H
 ·by_cases e:Ae k=Ae A.j.A8
  ·have:=FG W I e;subst this;show A.j.A8∈A.j.Aj;rw[h2];simp
  ·rw[d _ e]at L;exact h.H5 k W Y L
def Lay.aa(h:Lay P A sg cl ol)(hc:Cm P (N+A.AN.length+3) R)(hn:ol=none->isNum (A.j.A8+1)=true)(p:Pu)(O:Bg p)(hR:33<=R):
 (A.aa P p).1=true/\(A.aa P p).2.1=0/\Cm (A.aa P p).2.2.2 N (R-33)/\Lay (A.aa P p).2.2.2 (A.aa P p).2.2.1 sg cl (some (ol.getD []++[p]))/\(A.aa P p).2.2.1.AN=[]:=by
 obtain⟨s1,s2,s3,s4,s5⟩:=h.C (N:=N+3) (hc.ad (by omega) (Au _));unfold Ar.aa;rw[Ac (by simp[s1])];dsimp only
 rw[s2];dsimp only
 generalize (A.C P).2.2=P1 at s3 s4 s5;cases ol with
 | none=>
  obtain⟨I,W,L,Y⟩:=Lay.av (N:=N+1) s5 s3 (hn rfl) (by omega);dsimp only at I W L Y;obtain⟨H,E,d,z⟩:=L.aw (N:=N) W p O (by omega);dsimp only at H E d z;have e:A.j.aa P1 p=(A.j.av P1).2.1.aw (A.j.av P1).2.2 p:=by
   unfold Jn.aa;rw[Af h.AF.1,Ac (by simp[I])]
  rw[e];exact⟨H,E,d.ad (Au _) (by omega),z,rfl⟩
 | some l=>
  obtain⟨H,E,d,z⟩:=s5.aw (N:=N) (s3.ad (by omega) (Au _)) p O (by omega);dsimp only at H E d z;have e:A.j.aa P1 p=A.j.aw P1 p:=by
   unfold Jn.aa;rw[Ac (by rw[h.AF.1];simp)]
  rw[e];exact⟨H,E,d.ad (Au _) (by omega),z,rfl⟩
def Lay.ae(h:Lay P A sg cl ol)(L:Cm P (N+A.AN.length+2) R):
 (A.ae P).1=0/\Cm (A.ae P).2.2 N R/\Lay (A.ae P).2.2 (A.ae P).2.1 sg cl ol/\(A.ae P).2.1 = {A with AN:=[]}:=by
 obtain⟨s1,s2,s3,s4,s5⟩:=h.C (N:=N+2) (L.ad (by omega) (Au _));have E:((A.C P).2.1.j.ae (A.C P).2.2).1=0/\Cm ((A.C P).2.1.j.ae (A.C P).2.2).2 (N+1) R/\∀m,((A.C P).2.1.j.ae (A.C P).2.2).2.bs m=(A.C P).2.2.bs m:=by
  rw[s2];dsimp only
  unfold Jn.ae;cases ol with
  | none=>rw[h.AF.1];exact⟨rfl,s3.ad (by omega) (Au _),λ_=>rfl⟩
  | some l=>
   rw[h.AF.1];have z:=s5.AF.2.2.1;dsimp only at z;exact Cm.df (N:=N+1) s3 z
 obtain⟨H,I,d⟩:=E;obtain⟨d1,d2,d3⟩:=Cm.dH (N:=N) I;unfold Ar.ae;rw[Ac (by simp[s1]),Ac (by simp[H])];refine⟨d1,d2,?_,s2⟩;dsimp only
 rw[s2];rw[s2]at d3 d;dsimp only at d3 d ⊢;exact s5.aI λm=>by rw[d3,d]
end
end
end Go.Proofs.YtodcnkbblippnabGreatDoor
