/- Part 9 of a proof: walks of the program. -/
import Derived.Test.YtodcnkbblippnaaGreatDoorPart08
namespace Go.Proofs.YtodcnkbblippnaaGreatDoor
set_option maxRecDepth 100000
set_option maxHeartbeats 32000000
set_option linter.defProp false
open Go.Proofs.Tryz
section
open Go.RowKit
attribute [local go_sem ↓] CE
def KQ{lt nm:Bs}{v:Int}(h:E5 lt nm=some v):(1<=v/\v<=4611686018427387904)/\Ee lt v=nm:=by
 unfold E5 at h;cases hx:Lib.atoiAll (Lib.trimPrefix nm lt) with
 | ok x=>
  rw[hx]at h;dsimp only at h;split at h
  ·rename_i d;cases h;exact⟨⟨by omega,d.2.1⟩,d.2.2⟩
  ·cases h
 | «syntax»=>rw[hx]at h;cases h
 | range=>rw[hx]at h;cases h
def SQ{nm:Bs}:(H3 nm).1≠1/\(H3 nm).1≠2:=by
 unfold H3 I8;split
 ·simp
 ·split<;>simp
def On{nm:Bs}(h:(Bf nm).1=1):(1<=(Bf nm).2/\(Bf nm).2<=4611686018427387904)/\Ae (Bf nm).2=nm:=by
 unfold Bf at h ⊢;cases hx:E5 [108] nm with
 | some v=>exact KQ hx
 | none=>
  rw[hx]at h;dsimp only at h;unfold H4 at h;cases hy:E5 [115] nm with
  | some v=>rw[hy]at h;cases h
  | none=>rw[hy]at h;exact absurd h SQ.1
def Ol{nm:Bs}(h:(Bf nm).1=2):(1<=(Bf nm).2/\(Bf nm).2<=4611686018427387904)/\AF (Bf nm).2=nm:=by
 unfold Bf at h ⊢;cases hx:E5 [108] nm with
 | some v=>rw[hx]at h;cases h
 | none=>
  rw[hx]at h;dsimp only at h ⊢;unfold H4 at h ⊢;cases hy:E5 [115] nm with
  | some v=>exact KQ hy
  | none=>rw[hy]at h;exact absurd h SQ.2
def SG(nm:Bs):AN (Bf nm).2:=by
 unfold Bf;cases hx:E5 [108] nm with
 | some v=>have:=(KQ hx).1;unfold AN;dsimp only;omega
 | none=>
  dsimp only
  unfold H4;cases hy:E5 [115] nm with
  | some v=>have:=(KQ hy).1;unfold AN;dsimp only;omega
  | none=>dsimp only;unfold H3 I8 AN;split<;>(try split)<;>simp
def Zh(aA:Int)(l l':List Bs):BQ aA (l++l')=BQ aA l++BQ aA l':=by simp[BQ]
def Mc(aA:Int)(l:List Bs):(BQ aA l).length<=l.length:=List.length_filterMap_le _ _
def Ot{aA n:Int}{l:List Bs}(h:n∈BQ aA l):aA<=n/\(1<=n/\n<=4611686018427387904)/\Ae n∈l:=by
 obtain⟨nm,I,d⟩:=Lw.1 h;split at d
 ·rename_i z;cases d;obtain⟨E,H⟩:=On z.1;exact⟨z.2,E,by rw[H];exact I⟩
 ·cases d
def KM(P:PD):P.Ax.length=P.D.A4.length:=by
 unfold PD.Ax dList;rw[F9,Mt _ _ (As _)]
def TH(l:List Int)(x d:Int):(l++[x]).getLastD d=x:=by
 rw[Ki];simp
def Ow{w:World}{b:Nat}{P:PD}{Ft:Nat->Prop}{a c m:Nat}(h:Bn w b P Ft)(H:Fit P a c m)(I:CN a c m):
 Calls Tryz.prog 76 #[.pointer (some ⟨b,0,none⟩)] w λe w'=>∃v,e=.returned v/\Dl w' v P.Ax/\A3 (λ_=>False) w w'/\(∀g,v.ownBlock=some g->w.heap.size<=g):=by
 refine(Zr h (by have:=H.A4;have:=I.a;omega)).mono ?_;rintro e w'⟨v,E,d,L,z⟩;refine⟨v,E,?_,L,z⟩;have O:=KM P;unfold Dl;rw[O];rw[WD]at d;exact d
section
variable {w:World} {b B:Nat} {P:PD} {Ft:Nat->Prop} {a c m:Nat} {aA:Int}
def ZU(w:World)(h:Bn w b P Ft)(aD:∀k,Ft k->k<w.heap.size)(hF:Fit P a c m)(hl:CN a c m)(bI:a*m<=70368744177664)(hf:1<=aA/\aA<=4611686018427387904)(hL:Lets B w)(hE:HT w)(bP:∀nm∈P.Ax,nm.length<=281474976710656):
 Ag 99 #[A5 b,A0 aA] w λe w'=>
  ((P.puts (BQ aA P.Ax)).2≠0/\e=.returned (.tuple #[.pointer none,.slice none 0 0,A0 (P.puts (BQ aA P.Ax)).2])/\A3 Ab w w')\/
  ((P.puts (BQ aA P.Ax)).2=0/\∃d lv v,e=.returned (.tuple #[A5 d,v,A0 0])/\Dx w' d b lv (.pointer none) (P.bQ aA)/\AW w' v (P.puts (BQ aA P.Ax)).1/\(∀k,Dh d lv (.pointer none) k->w.heap.size<=k)/\(∀g,v.ownBlock=some g->w.heap.size<=g)/\A3 Ab w w'):=by
 obtain⟨i0,hi,bG,bO,bL⟩:∃i0,Tryz.prog.info? 3=some i0/\i0.zero=some (A0 0)/\i0.size=1/\i0.bytes=8:=by
  have h:=Tryz.dc;cases O:Tryz.prog.info? 3 with
  | none=>rw[O]at h;cases h
  | some i=>rw[O]at h;simp at h;exact⟨i,rfl,h.1,h.2.1,h.2.2⟩
 have bZ:Hid (∀I,A3 Ab w I->Ag 76 #[A5 b] I λe w'=>∃v,e=.returned v/\Dl w' v P.Ax/\A3 Ab I w'/\(∀g,v.ownBlock=some g->I.heap.size<=g)):=λI W=>Ow (B3.aH h aD W) hF hl;have bY:Hid (∀I,A3 Ab w I->∀nm∈P.Ax,Ag 97 #[.string ⟨nm.toArray⟩] I λe w'=>e=.returned (.tuple #[A0 (Bf nm).1,A0 (Bf nm).2])/\A3 Ab I w'):=λI W nm hm=>SE I nm (bP nm hm) (hE.aS W) (hL.aS W);have aG:P.Ax.length<=a:=by rw[KM];exact hF.A4
 have bV:Hid (∀I d lv last,A3 Ab w I->Dx I d b lv (.pointer none) ⟨BQ aA P.Ax,last,0,none⟩->Ag 106 #[A5 d] I λe w'=>∃v,e=.returned (.tuple #[v,A0 (P.puts (BQ aA P.Ax)).2])/\AW w' v (P.puts (BQ aA P.Ax)).1/\(∀g,v.ownBlock=some g->I.heap.size<=g)/\A3 Ab I w'):=λI d lv last W hJ=>
  O0 I (B3.aH h aD W) (λk hk=>Bk (aD k hk) W.Ak) hJ hF hl (AM (Hq m (AM (Mc aA P.Ax) aG)) bI) (λn hn=>by obtain⟨_,h2,_⟩:=Ot hn;exact HD (by omega) h2.2) (hL.aS W)
 have hnl2:P.Ax.length<=1073741824:=AM aG hl.a;have a7:Hid (P.bQ aA=⟨BQ aA P.Ax,(BQ aA P.Ax).getLastD (aA-1),(P.puts (BQ aA P.Ax)).1.length,none⟩):=rfl;generalize hZ:P.bQ aA=Z at a7 ⊢;generalize hR:P.puts (BQ aA P.Ax)=R at bV a7 ⊢;generalize P.Ax=ns at *;obtain⟨f1,f2⟩:=hf;have ew:IntKind.i64.wrap (aA-1)=aA-1:=by simp[IntKind.wrap,IntKind.bits,IntKind.signed];omega
 have aP:CG (w.alloc (.cells #[A5 b,.slice none 0 0,A0 (aA-1),A0 0,.pointer none] 208)) w.heap.size b (.slice none 0 0) (aA-1) 0 (.pointer none):=BN w _;have bX:Hid (A3 Ab w (w.alloc (.cells #[A5 b,.slice none 0 0,A0 (aA-1),A0 0,.pointer none] 208))):=(A3.I _ w).ak _;have bN:=A1 (bZ.o _ bX.o);have a9:=A1 aP;have bW:Hid (w.heap.size<(w.alloc (.cells #[A5 b,.slice none 0 0,A0 (aA-1),A0 0,.pointer none] 208)).heap.size):=by unfold Hid;simp
 go_enter func99,ntmps99
 go_wp2_with (fail);refine bN.o.mono ?_;rintro e I⟨v,rfl,hv,aV,aR⟩;obtain⟨na,a5,rfl,nc1,bB⟩:=(Dl.rd hv).Ce;unfold maxLen at bB;have b1:=A1 (Dl.rd hv);have bT:=A1 (a9.o.aj aV (λh=>h));have b0:Hid (A3 Ab w I):=bX.o.Ap aV λ_ h _=>h;have Y:Hid (w.heap.size<I.heap.size):=Bk bW.o aV.Ak;have bD:Hid (∀g,(Value.slice na ns.length a5).ownBlock=some g->w.heap.size<g):=λg E=>Bk bW.o (aR g E);generalize aP:w.heap.size=d at bT Y ⊢;have aT:=A1 aP;go_wp2;go_loopw [22] (λiv wr=>∃k:Nat,iv=A0 k/\k<=ns.length/\Hid (∃lv,CG wr d b lv ((BQ aA (ns.take k)).getLastD (aA-1)) 0 (.pointer none)/\Dy wr lv (BQ aA (ns.take k))/\(∀g,lv.ownBlock=some g->I.heap.size<=g)/\A3 Ab w wr/\A3 (One d) I wr)) (λiv _=>ns.length-(intOf iv).toNat)
 case atStart=>exact⟨0,rfl,by omega,_,bT.o,CD _ _ _ _,λg E=>by simp[Value.ownBlock]at E,b0.o,A3.I _ _⟩
 case round=>
  obtain⟨k,rfl,hk,hI⟩:=hrel;obtain⟨lv,i1,i2,i3,i4,i5⟩:=hI.o;by_cases aF:k<ns.length
  ·obtain⟨g,o,rfl,d1⟩:=GB.at b1.o k aF;have aL:=BV aF;have a4:ns.take (k+1)=ns.take k++[ns[k]'aF]:=Dn aF;generalize hne:(ns[k]'aF)=nm at d1 aL a4;(have hgj:d<g:=by have:=bD.o g rfl;have:=aT.o;omega);have e1:=i5.bH d1 (λh=>by have h':g=d:=h;omega);have aI:=A1 (bY.o wr i4 nm aL);have aS:=SG nm;have aE:Hid (BQ aA (ns.take (k+1))=BQ aA (ns.take k)++(if (Bf nm).1=1/\aA<=(Bf nm).2 then [(Bf nm).2] else [])):=by
    unfold Hid;rw[a4,Zh]
    congr 1
    unfold BQ;by_cases W:(Bf nm).1=1/\aA<=(Bf nm).2<;>simp[W]
   generalize hX:Bf nm=X at aI aE aS;obtain⟨s,n⟩:=X;dsimp only at aI aE aS;obtain⟨r1,r2⟩:=aS;have aN:Hid ((BQ aA (ns.take k)).length<=ns.length):=AM (Mc _ _) (by rw[BU];omega);have aW:=A1 i1;have aH:=A1 i2;have aJ:=A1 i3;have aM:=A1 i4;have aX:=A1 i5;(have bE:(k:Int)<(ns.length:Int):=by omega);have hk0:(0:Int)<=(k:Int):=Gp _;generalize hlg:BQ aA (ns.take k)=lg at aE aN aW aH;by_cases W:s=1/\aA<=n
   case neg=>
    (have L:Hid (BQ aA (ns.take (k+1))=lg):=by rw[aE.o,Ad W,FF];rfl);by_cases hs:s=1
    ·subst hs;have bM:¬aA<=n:=λh=>W ⟨rfl,h⟩;go_wp2_with (go_at_call 97;refine aI.o.mono ?_;rintro e w6⟨rfl,H⟩;have z:=A1 H);go_roundw
     case rel=>exact⟨k+1,by go_num,by omega,lv,by rw[L.o];exact aW.o.aj z.o (λh=>h),by rw[L.o];exact Ay aH.o λg E=>z.o.Ao g (AB aH.o E) (λh=>h),aJ.o,aM.o.Ap z.o λ_ h _=>h,aX.o.Ap z.o λ_ h _=>h.elim⟩
     case measure=>simp[intOf];omega
    ·(have hsb:(s==1)=false:=by simpa using hs);go_wp2_with (go_at_call 97;refine aI.o.mono ?_;rintro e w6⟨rfl,H⟩;have z:=A1 H);go_roundw
     case rel=>exact⟨k+1,by go_num,by omega,lv,by rw[L.o];exact aW.o.aj z.o (λh=>h),by rw[L.o];exact Ay aH.o λg E=>z.o.Ao g (AB aH.o E) (λh=>h),aJ.o,aM.o.Ap z.o λ_ h _=>h,aX.o.Ap z.o λ_ h _=>h.elim⟩
     case measure=>simp[intOf];omega
   case pos=>
    (have L:Hid (BQ aA (ns.take (k+1))=lg++[n]):=by rw[aE.o,Ah W];rfl);obtain⟨rfl,bM⟩:=W;obtain⟨ap,cp,rfl,hcap1,aU,-⟩:=B8 aH.o;unfold maxLen at aU;go_wp2_with (fail);refine aI.o.mono ?_;rintro e w6⟨rfl,H⟩;have aY:=aW.o.aj H (λh=>h);have g1:=aY.c1;have a0:Hid ((w6.alloc (.cells #[A0 n] 3)).ownsRow 0 3 1 (.slice ap lg.length cp) lg.length (DL lg)):=Ay aH.o λg E=>(H.ak _).Ao g (AB aH.o E) (λh=>h)
    have bA:=A1 (Src.bb (size:=1) (B:=w6.heap.size) underlying26 w6 #[A0 n] 3 (by simp) 1 1 rfl (JU [n]));have a6:=A1 (aY.aj ((A3.I Ab w6).ak (.cells #[A0 n] 3)) (λh=>h));have bU:Hid (A3 Ab wr (w6.alloc (.cells #[A0 n] 3))):=H.ak _;have c71:=a6.o.c1;go_wp2_with (at_builtin;refine D4 rfl (.tmp 42) (.tmp 44) 26 26 rfl 3 i0 _ 1 8 underlying26 hi bG bO bL rfl (by decide) (.slice ap lg.length cp) lg.length (DL lg) (by rfl) a0.o _ 1 _ (by rfl) bA.o (by have:=aN.o;omega) ?_;intro a8 aB w8 hA;have aZ:=A1 (hA.Aj (S:=λk=>(Value.slice ap lg.length cp).ownBlock=some k) λ_ h=>h);have bK:=a6.o.aj aZ.o (λh=>by have:=aJ.o _ h;have:=Y.o;omega);have g81:=bK.c1;have f81:=bK.fz 1;have bJ:=bK.s1 (.slice a8 (lg.length+1) aB);have g82:=bJ.c2;have f82:=bJ.fz 2;have a3:=A1 (bJ.s2 n);have a1:=A1 hA.AA;have bH:=A1 hA.Cj);go_roundw
    case rel=>
     (have e:(lg++[n]).length=lg.length+1:=by simp);have aO:∀g,(Value.slice a8 (lg.length+1) aB).ownBlock=some g->I.heap.size<=g:=λg E=>by
      rcases bH.o with h|h
      ·rw[h]at E;exact aJ.o g E
      ·rw[h]at E;cases E;have:=aX.o.Ak;have:=bU.o.Ak;omega
     have k8:A3 (λk=>(Value.slice ap lg.length cp).ownBlock=some k) wr w8:=(bU.o.aa λ_ _ h=>h.elim).Ap aZ.o λ_ h _=>h;have a2:A3 (λk=>k=d\/(Value.slice ap lg.length cp).ownBlock=some k) wr ((w8.setCell (Aa d 1) (.slice a8 (lg.length+1) aB)).setCell (Aa d 2) (A0 n)):=
      ((k8.aa λ_ _ h=>.inr h).ao (b:=d) (.inl rfl) 1 _).ao (b:=d) (.inl rfl) 2 _
     refine⟨k+1,by go_num,by omega,.slice a8 (lg.length+1) aB,by rw[L.o,TH];exact a3.o,?_,aO,?_,?_⟩
     ·rw[L.o];unfold Dy;rw[KZ,e];exact Ay a1.o λg E=>by
       have h1:=aO g E;have h2:=Y.o;rw[GF _ _ _ _ (λe=>by have e':g=d:=e;omega),GF _ _ _ _ (λe=>by have e':g=d:=e;omega)]
     ·exact aM.o.Ap a2 λx O aD=>by
       have h2:=aT.o;rcases O with rfl|O
       ·omega
       ·have:=aJ.o x O;have:=Y.o;omega
     ·exact aX.o.Ap a2 λx O aD=>by
       rcases O with rfl|O
       ·rfl
       ·have:=aJ.o x O;omega
    case measure=>simp[intOf];omega
  ·(obtain rfl:k=ns.length:=by omega);rw[C6]at i1 i2;(have bE:¬((ns.length:Int)<(ns.length:Int)):=by omega);have aQ:=A1 (bV.o wr d lv _ i4 ⟨i1,i2,.inl ⟨rfl,rfl⟩⟩);obtain⟨bS,bR⟩:=R;dsimp only at aQ a7;have aW:=A1 i1;have aH:=A1 i2;have aJ:=A1 i3;have aM:=A1 i4;have aX:=A1 i5;by_cases hr:bR=0
   case neg=>
    (have hrb:(bR !=0)=true:=by simpa using hr);go_wp2_with (go_at_call 106;refine aQ.o.mono ?_;rintro e w6⟨v,rfl,-,-,H⟩;have z:=A1 H);go_ret3;exact⟨rfl,aM.o.Ap z.o λ_ h _=>h⟩
   case pos=>
    subst hr;go_wp2_with (fail);refine aQ.o.mono ?_;rintro e w6⟨v,rfl,hv,aR,H⟩;obtain⟨va,vcap,rfl,vc1,bF,-⟩:=B8 hv;unfold maxLen at bF;have aY:=aW.o.aj H (λh=>h);have g63:=aY.c3;have f63:=aY.fz 3;have a6:=A1 (aY.s3 bS.length);have bC:=A1 hv;have aK:=A1 aR;have z:=A1 H;go_wp2;go_ret3;(have bQ:∀g,lv.ownBlock=some g->g≠d:=λg E e=>by have:=aJ.o g E;have:=Y.o;omega);have h2:=aT.o;have k7:A3 (One d) wr (w6.setCell (Aa d 3) (A0 bS.length)):=(z.o.aa (S':=One d) λ_ _ h=>h.elim).ao (b:=d) rfl 3 _;refine⟨d,lv,_,rfl,?_,?_,λx O=>?_,λg E=>?_,?_⟩
    ·rw[a7.o];exact⟨a6.o,Ay aH.o λg E=>k7.Ao g (AB aH.o E) (bQ g E),.inl ⟨rfl,rfl⟩⟩
    ·exact Ay bC.o λg E=>GF _ _ _ _ (λe=>by
      have e':g=d:=e;have:=aK.o g E;have:=aM.o.Ak;have:=aX.o.Ak;have:=Y.o
      omega)
    ·rcases O with rfl|O|O
     ·omega
     ·have:=aJ.o x O;have:=Y.o;omega
     ·cases O
    ·have:=aK.o g E;have:=aM.o.Ak;omega
    ·exact aM.o.Ap k7 λx O aD=>by have e':x=d:=O;omega
end
end
section
open Go.RowKit
def JN{α:Type}{l:List α}(h:l.Nodup){i j:Nat}(E:i<l.length)(z:j<l.length)(e:l[i]'E=l[j]'z):i=j:=by
 have H:=Kg.1 h;rcases PF i j with d|d|d
 ·exact absurd e (H i j E z d)
 ·exact d
 ·exact absurd e.symm (H j i z E d)
def JM{es:List AL}(h:(es.map (·.2)).Nodup){a b:AL}(d:a∈es)(E:b∈es)(e:a.2=b.2):a=b:=by
 obtain⟨i,H,rfl⟩:=DU d;obtain⟨j,z,rfl⟩:=DU E;have:i=j:=JN h (by simpa using H) (by simpa using z) (by simpa using e);subst this;rfl
def E6{es:List AL}{nm:ByteArray}{f:Nat}(h:lookup es nm=some f):(nm,f)∈es:=by
 induction es with
 | nil=>cases h
 | cons e r ih=>
  unfold lookup at h;split at h
  ·rename_i d;cases h;subst d;exact BF ..
  ·exact Bx _ (ih h)
def J0{es:List AL}{nm:ByteArray}:lookup es nm=none↔∀e∈es,e.1≠nm:=by
 induction es with
 | nil=>simp[lookup]
 | cons e r ih=>
  unfold lookup;by_cases d:e.1=nm
  ·simp[d]
  ·simp only[d,C4,ih,BR,forall_eq_or_imp,JO,Og,true_and]
def lookup_append(es d:List AL)(nm:ByteArray):lookup (es++d) nm=(lookup es nm).or (lookup d nm):=by
 induction es with
 | nil=>simp[lookup]
 | cons e r ih=>
  simp only[Fx,lookup];split
  ·simp
  ·exact ih
def KT(es:List AL)(p:ByteArray->Bool)(nm:ByteArray):lookup (es.filter λe=>p e.1) nm=if p nm then lookup es nm else none:=by
 induction es with
 | nil=>simp[lookup]
 | cons e r ih=>
  simp only[Fb];by_cases z:e.1=nm
  ·subst z;by_cases h:p e.1
   ·simp[h,lookup]
   ·(have d:p e.1=false:=by simpa using h);rw[d]at ih ⊢;simpa using ih
  ·by_cases h:p e.1
   ·simp only[h,Cg,lookup,z,C4,ih]
   ·(have d:p e.1=false:=by simpa using h);simp only[d,lookup,z,C4];simpa using ih
def J8(es:List AL)(nm:ByteArray):(B2 es nm<0↔lookup es nm=none):=by
 rcases J1 es nm with⟨z,d⟩|⟨k,hk,z,d,h3⟩
 ·simp[z,d]
 ·simp only[z,d];exact⟨λh=>by omega,λh=>by cases h⟩
def TO(es:List AL)(nm:ByteArray)(O:(es.map (·.1)).Nodup)(h:¬B2 es nm<0):
 es.take (B2 es nm).toNat++es.drop ((B2 es nm).toNat+1)=es.filter λe=>decide (e.1≠nm):=by
 induction es with
 | nil=>simp[B2]at h
 | cons e r ih=>
  have d:e.1∉r.map (·.1)/\(r.map (·.1)).Nodup:=by simpa using O
  unfold B2 at h ⊢;by_cases E:e.1=nm
  ·subst E;simp only[Cg,Int.toNat_zero,ET,Es,GO,DE,Dp];rw[Kj (by simp)];rw[List.filter_eq_self.2];intro x L;simp only[DG,JO];rintro z;exact d.1 (z ▸ DT L)
  ·simp only[E,C4]at h ⊢;by_cases H:B2 r nm<0
   ·simp[H]at h
   ·simp only[H,C4]at h ⊢;(have I:(B2 r nm+1).toNat=(B2 r nm).toNat+1:=by omega);rw[I,F8,DE,Fx,ih d.2 H,IF (by simp[E])]
def Rs(es:List AL)(old nm:ByteArray)(X:(es.map (·.1)).Nodup)(h:¬B2 es old<0):
 Dk es (B2 es old).toNat nm es.length=es.filter λe=>decide (e.1≠old/\e.1≠nm):=by
 have H:∀k,k<=es.length->Dk es (B2 es old).toNat nm k=(es.take k).filter λe=>decide (e.1≠old/\e.1≠nm):=by
  intro k
  induction k with
  | zero=>intro _;simp[Dk]
  | succ k ih=>
   intro hk;(have d:k<es.length:=by omega);have z:(k=(B2 es old).toNat)↔(es[k]'d).1=old:=by
    rcases OQ es old with⟨L,_⟩|⟨m,Y,L,I⟩
    ·omega
    ·rw[L];constructor
     ·intro e;have W:k=m:=by simpa using e
      subst W;exact I
     ·intro e;have:k=m:=JN X (by simpa using d) (by simpa using Y) (by simp[e,I]);simp[this]
   rw[Dn d,Lz,<-ih (by omega)];by_cases E:k≠(B2 es old).toNat/\(es[k]'d).1≠nm
   ·rw[Rr es _ nm k d E,IF]
    ·simp
    ·simp only[DG];exact⟨λe=>E.1 (z.2 e),E.2⟩
   ·rw[NW es _ nm k d E,Kj]
    ·simp
    ·simp only[DG];intro O;exact E ⟨λe=>O.1 (z.1 e),O.2⟩
 have:=H es.length (As _)
 rwa [C6]at this
def Ns(F:Nat->FC)(es:List AL)(p:AL->Bool):B4 F (es.filter p)<=B4 F es:=by
 induction es with
 | nil=>simp[B4]
 | cons e r ih=>
  rw[Fb];split
  ·simp only[B4];omega
  ·simp only[B4];omega
def Qo(F:Nat->FC)(f:Nat)(c:FC)(es:List AL)(h:∀e∈es,e.2≠f):B4 (upd F f c) es=B4 F es:=by
 induction es with
 | nil=>simp[B4]
 | cons e r ih=>
  simp only[B4,upd,h e (BF ..),C4];rw[<-ih λx d=>h x (Bx _ d)]
def Qp(F:Nat->FC)(f:Nat)(c:FC)(es:List AL)(L:(es.map (·.2)).Nodup)(h:∃e∈es,e.2=f):B4 (upd F f c) es+(F f).1.length=B4 F es+c.1.length:=by
 induction es with
 | nil=>obtain⟨e,E,_⟩:=h;cases E
 | cons e r ih=>
  have z:e.2∉r.map (·.2)/\(r.map (·.2)).Nodup:=by simpa using L
  by_cases E:e.2=f
  ·subst E;have:B4 (upd F e.2 c) r=B4 F r:=Qo F _ c r λx H d=>z.1 (d ▸ DT H);simp only[B4,this];simp[upd];omega
  ·obtain⟨x,H,d⟩:=h;have I:∃x∈r,x.2=f:=by
    rcases BR.1 H with rfl|H
    ·exact absurd d E
    ·exact⟨x,H,d⟩
   have:=ih z.2 I;simp only[B4,upd,E,C4]at this ⊢;omega
def PD.fl(P:PD)(nm:Bs):Option FC:=(lookup P.D.A4 (A8 nm)).map P.F
structure Cm (P:PD) (N R:Nat):Prop where
 AX:P.D.n.AX=false
 Cb:P.D.n.Cb=0
 Cr:P.D.n.Cr=0
 AZ:0<=P.D.n.AZ/\P.D.n.AZ+N<=4611686018427387904
 AH:(B4 P.F P.D.A4:Int)+R<=P.D.n.AH
 Au:(P.D.A4.map (·.2)).Nodup
 Cl:(P.D.A4.map (·.1)).Nodup
section
variable {P:PD} {N R:Nat} {nm:Bs}
def Cm.aa{N' R':Nat}(h:Cm P N R)(hN:N'<=N)(hR:R'<=R):Cm P N' R':=
 ⟨h.AX,h.Cb,h.Cr,⟨h.AZ.1,by have:=h.AZ.2;omega⟩,by have:=h.AH;omega,h.Au,h.Cl⟩
def Cm.bg(h:Cm P (N+1) R):bg P.D.n=(true,0,{P.D.n with AZ:=P.D.n.AZ+1}):=by
 obtain⟨c1,c2⟩:=h.AZ;have e:wrap64 (P.D.n.AZ+1)=P.D.n.AZ+1:=by unfold wrap64;omega
 unfold Go.Proofs.YtodcnkbblippnaaGreatDoor.bg;dsimp only
 rw[e,Ad (by simp[h.AX]),Ad (by rw[h.Cb];omega),Ad (by rw[h.Cr];omega)]
def A0R:P.fl nm=none↔lookup P.D.A4 (A8 nm)=none:=by unfold PD.fl;simp
def Mk{c:FC}(h:P.fl nm=some c):∃f,lookup P.D.A4 (A8 nm)=some f/\P.F f=c:=by
 unfold PD.fl at h;simpa using h
def Su(h:nm≠[]):A8 nm≠ByteArray.empty:=λe=>h (by have:A8 nm=A8 []:=e;exact FO.1 this)
def Cm.ai(h:Cm P (N+1) R)(X:P.fl nm=none)(d:nm≠[]):
 (P.ai (A8 nm)).1=0/\Cm (P.ai (A8 nm)).2 N R/\∀m,(P.ai (A8 nm)).2.fl m=if m=nm then some ([],0) else P.fl m:=by
 have O:=A0R.1 X;have Y:¬(A8 nm=ByteArray.empty\/B2 P.D.A4 (A8 nm)≥0):=by
  rintro (h|h)
  ·exact Su d h
  ·have:=(J8 P.D.A4 (A8 nm)).2 O;omega
 have z:∀e∈P.D.A4,e.2≠P.D.AS:=λe E W=>P.D.cB (.inl ⟨e,E,W⟩);unfold PD.ai CM;rw[Ad Y];dsimp only
 rw[h.bg];dsimp only
 rw[Ah rfl];refine⟨rfl,⟨h.AX,h.Cb,h.Cr,by have:=h.AZ;dsimp only;omega,?_,?_,?_⟩,λm=>?_⟩
 ·have:=h.AH;dsimp only
  rw[Kw,Qo _ _ _ _ z];simp only[B4,upd,Cg,IC];omega
 ·dsimp only
  rw[El,GC];refine⟨h.Au,by simp,λa L b H=>?_⟩;simp at H;subst H;obtain⟨e,E,rfl⟩:=Ct.1 L;exact z e E
 ·dsimp only
  rw[El,GC];refine⟨h.Cl,by simp,λa L b H=>?_⟩;simp at H;subst H;obtain⟨e,E,rfl⟩:=Ct.1 L;exact(J0.1 O) e E
 ·unfold PD.fl;dsimp only
  rw[lookup_append];by_cases I:m=nm
  ·subst I;rw[O];simp[lookup,upd]
  ·have d:¬A8 nm=A8 m:=λe=>I (FO.1 e).symm;simp only[lookup,d,C4,V3,I];cases hk:lookup P.D.A4 (A8 m) with
   | none=>rfl
   | some f=>
    have:f≠P.D.AS:=z _ (E6 hk);simp[upd,this]
def KL(l:Bs):(A8 l).size=l.length:=by simp[A8,ByteArray.size]
def Cm.an{c:FC}(h:Cm P (N+1) R)(H:P.fl nm=some c)(l:Bs)(hl:l.length<=R):
 (P.an (A8 nm) l).1=0/\Cm (P.an (A8 nm) l).2 N (R-l.length)/\∀m,(P.an (A8 nm) l).2.fl m=if m=nm then some (c.1++l,c.2) else P.fl m:=by
 obtain⟨f,z,rfl⟩:=Mk H;have hroom:=h.AH;have d:¬((A8 l).size:Int)>FU {P.D with n:={P.D.n with AZ:=P.D.n.AZ+1}} P.F:=by
  unfold FU;rw[KL];dsimp only;omega
 unfold PD.an Bp;rw[z];dsimp only
 rw[h.bg];dsimp only
 rw[Ah rfl];unfold BA;rw[Ad d];dsimp only
 have I:(A8 l).data.toList.take ((A8 l).size:Int).toNat=l:=by rw[KL];simp[A8]
 rw[I];have hu:=Qp P.F f ((P.F f).1++l,(P.F f).2) P.D.A4 h.Au ⟨_,E6 z,rfl⟩;refine⟨rfl,⟨h.AX,h.Cb,h.Cr,by have:=h.AZ;dsimp only;omega,?_,h.Au,h.Cl⟩,λm=>?_⟩
 ·dsimp only
  simp only[AY]at hu;omega
 ·unfold PD.fl;dsimp only
  by_cases E:m=nm
  ·subst E;rw[z];simp[upd]
  ·rw[Ad E];cases hk:lookup P.D.A4 (A8 m) with
   | none=>rfl
   | some g=>
    have:g≠f:=λe=>E (by
     have:=JM h.Au (E6 hk) (E6 z) e
     exact FO.1 (Pv this).1)
    simp[upd,this]
def Cm.ae{c:FC}(h:Cm P (N+1) R)(z:P.fl nm=some c):
 (P.ae (A8 nm)).1=0/\Cm (P.ae (A8 nm)).2 N R/\∀m,((P.ae (A8 nm)).2.fl m).map (·.1)=(P.fl m).map (·.1):=by
 obtain⟨f,d,rfl⟩:=Mk z;unfold PD.ae CA;rw[d];dsimp only
 rw[h.bg];dsimp only
 rw[Ah rfl];have hu:=Qp P.F f ((P.F f).1,(P.F f).1.length) P.D.A4 h.Au ⟨_,E6 d,rfl⟩;refine⟨rfl,⟨h.AX,h.Cb,h.Cr,by have:=h.AZ;dsimp only;omega,?_,h.Au,h.Cl⟩,λm=>?_⟩
 ·have:=h.AH;dsimp only at hu ⊢;omega
 ·unfold PD.fl;dsimp only
  cases hk:lookup P.D.A4 (A8 m) with
  | none=>rfl
  | some g=>
   by_cases e:g=f
   ·subst e;simp[upd]
   ·simp[upd,e]
def Cm.aJ(h:Cm P (N+1) R):P.aJ.1=0/\Cm P.aJ.2 N R/\∀m,P.aJ.2.fl m=P.fl m:=by
 unfold PD.aJ DH;dsimp only
 rw[h.bg];dsimp only
 rw[Ah rfl];exact⟨rfl,⟨h.AX,h.Cb,h.Cr,by have:=h.AZ;dsimp only;omega,h.AH,h.Au,h.Cl⟩,λ_=>rfl⟩
def Cm.cx(h:Cm P (N+1) R)(_p:ByteArray->Bool)(es:List AL)(hu:B4 P.F es<=B4 P.F P.D.A4)(z:(es.map (·.2)).Nodup)(d:(es.map (·.1)).Nodup):
 Cm ⟨{P.D with A4:=es,Av:=P.D.Av++[es],n:={P.D.n with AZ:=P.D.n.AZ+1}},P.F⟩ N R:=
 ⟨h.AX,h.Cb,h.Cr,by have:=h.AZ;dsimp only;omega,by have:=h.AH;dsimp only;omega,z,d⟩
def Cm.az{c:FC}(h:Cm P (N+1) R)(H:P.fl nm=some c):
 (P.az (A8 nm)).1=0/\Cm (P.az (A8 nm)).2 N R/\∀m,(P.az (A8 nm)).2.fl m=if m=nm then none else P.fl m:=by
 obtain⟨f,E,rfl⟩:=Mk H;have z:¬B2 P.D.A4 (A8 nm)<0:=λh=>by rw[J8,E]at h;cases h
 unfold PD.az Dg;rw[Ad z];dsimp only
 rw[h.bg];dsimp only
 rw[Ah rfl,TO _ _ h.Cl z];refine⟨rfl,h.cx (λ_=>true) _ (Ns _ _ _) (h.Au.sublist (GS.map _)) (h.Cl.sublist (GS.map _)),λm=>?_⟩;unfold PD.fl;dsimp only
 rw[KT P.D.A4 (λx=>decide (x≠A8 nm))];by_cases d:m=nm
 ·subst d;simp
 ·have:A8 m≠A8 nm:=λe=>d (FO.1 e);simp[this,d]
def Cm.aO{c:FC}{old:Bs}(h:Cm P (N+1) R)(h0:P.fl old=some c)(E:nm≠[])(hd:old≠nm):
 (P.aO (A8 old) (A8 nm)).1=0/\Cm (P.aO (A8 old) (A8 nm)).2 N R/\∀m,(P.aO (A8 old) (A8 nm)).2.fl m=if m=nm then some c else if m=old then none else P.fl m:=by
 obtain⟨f,X,rfl⟩:=Mk h0;have hx:¬B2 P.D.A4 (A8 old)<0:=λh=>by rw[J8,X]at h;cases h
 have z:=E6 X;unfold PD.aO CQ;rw[X];dsimp only
 rw[Ad (Su E),h.bg];dsimp only
 rw[Ah rfl,Rs _ _ _ h.Cl hx];have L:(P.D.A4.filter λe=>decide (e.1≠A8 old/\e.1≠A8 nm))=(P.D.A4.filter λe=>decide (e.1≠A8 old)).filter λe=>decide (e.1≠A8 nm):=by
  rw[Vm];congr 1;funext e;simp[and_comm]
 have hparts:B4 P.F (P.D.A4.filter λe=>decide (e.1≠A8 old))+(P.F f).1.length<=B4 P.F P.D.A4:=by
  have W:∀es:List AL,(A8 old,f)∈es->B4 P.F (es.filter λe=>decide (e.1≠A8 old))+(P.F f).1.length<=B4 P.F es:=by
   intro es
   induction es with
   | nil=>intro h;cases h
   | cons e r ih=>
    intro d;by_cases H:e.1=A8 old
    ·rw[Kj (by simp[H])];rcases BR.1 d with d|d
     ·subst d;have:=Ns P.F r λe=>decide (e.1≠A8 old);simp only[B4];omega
     ·have:=ih d;simp only[B4];omega
    ·rw[IF (by simp[H])];rcases BR.1 d with d|d
     ·subst d;exact absurd rfl H
     ·have:=ih d;simp only[B4];omega
  exact W _ z
 refine⟨rfl,h.cx (λ_=>true) _ ?_ ?_ ?_,λm=>?_⟩
 ·rw[Kw,L];have:=Ns P.F (P.D.A4.filter λe=>decide (e.1≠A8 old)) λe=>decide (e.1≠A8 nm);simp only[B4];omega
 ·rw[El,GC];refine⟨h.Au.sublist (GS.map _),by simp,λa ha b I=>?_⟩;simp at I;subst I;obtain⟨e,H,rfl⟩:=Ct.1 ha;obtain⟨aB,aA⟩:=GQ.1 H;intro aD;have:=JM h.Au aB z aD;subst this;simp at aA
 ·rw[El,GC];refine⟨h.Cl.sublist (GS.map _),by simp,λa ha b I=>?_⟩;simp at I;subst I;obtain⟨e,H,rfl⟩:=Ct.1 ha;have:=(GQ.1 H).2;simp at this;exact this.2
 ·unfold PD.fl;dsimp only
  rw[lookup_append,KT P.D.A4 (λx=>decide (x≠A8 old/\x≠A8 nm))];by_cases d:m=nm
  ·subst d;simp[lookup]
  ·have E:¬A8 nm=A8 m:=λe=>d (FO.1 e).symm;have O:A8 m≠A8 nm:=λe=>d (FO.1 e);simp only[lookup,E,C4,V3,d];by_cases Y:m=old
   ·subst Y;simp
   ·have:A8 m≠A8 old:=λe=>Y (FO.1 e);simp[this,O,Y]
end
def A0l(l:List ByteArray)(x:ByteArray):(ins l x).Perm (x::l):=by
 unfold ins;refine List.perm_middle.trans ?_;rw[DK]
def TU(es:List AL):∀k,k<=es.length->(EE es k).Perm ((es.take k).map (·.1)):=by
 intro k
 induction k with
 | zero=>intro _;simp[EE]
 | succ k ih=>
  intro hk;have d:k<es.length:=by omega
  rw[Ms es k d,Dn d,El];refine(A0l _ _).trans ?_;refine((ih (by omega)).cons _).trans ?_;exact(List.perm_append_singleton _ _).symm
def L9(es:List AL):(dList es).Perm (es.map (·.1)):=by
 have:=TU es es.length (As _)
 rwa [C6]at this
def PD.bs(P:PD)(nm:Bs):Option Bs:=(P.fl nm).map (·.1)
section
variable {P P':PD} {N R:Nat} {nm:Bs}
def H0:nm∈P.Ax↔P.bs nm≠none:=by
 unfold PD.Ax PD.bs PD.fl;rw[Ct];constructor
 ·rintro⟨b,z,rfl⟩;have:=(L9 P.D.A4).mem_iff.1 z;obtain⟨e,d,rfl⟩:=Ct.1 this;cases hk:lookup P.D.A4 (A8 e.1.data.toList) with
  | none=>rw[G8]at hk;exact absurd rfl (J0.1 hk e d)
  | some f=>simp
 ·intro h;cases hk:lookup P.D.A4 (A8 nm) with
  | none=>rw[hk]at h;exact absurd rfl h
  | some f=>
   refine⟨A8 nm,(L9 P.D.A4).mem_iff.2 (Ct.2 ⟨_,E6 hk,rfl⟩),by simp[A8]⟩
def Cm.cS(h:Cm P N R):P.Ax.Nodup:=by
 unfold PD.Ax;have z:=(L9 P.D.A4).nodup_iff.2 h.Cl;rw[List.Nodup,Ls];refine List.Pairwise.imp (λd e=>d ?_) z;rename_i a b;rw[<-G8 a,<-G8 b,e]
def Ip:P.bs nm=none↔P.fl nm=none:=by unfold PD.bs;simp
def Lc{c:Bs}(h:P.bs nm=some c):∃k,P.fl nm=some (c,k):=by
 unfold PD.bs at h;cases hx:P.fl nm with
 | none=>rw[hx]at h;cases h
 | some x=>rw[hx]at h;obtain⟨a,k⟩:=x;simp at h;subst h;exact⟨k,rfl⟩
def Cm.dP(h:Cm P (N+1) R)(H:P.bs nm=none)(d:nm≠[]):
 (P.ai (A8 nm)).1=0/\Cm (P.ai (A8 nm)).2 N R/\∀m,(P.ai (A8 nm)).2.bs m=if m=nm then some [] else P.bs m:=by
 obtain⟨E,z,I⟩:=h.ai (Ip.1 H) d;refine⟨E,z,λm=>?_⟩;unfold PD.bs;rw[I m];split<;>rfl
def Cm.fh{c:Bs}(h:Cm P (N+1) R)(I:P.bs nm=some c)(l:Bs)(z:l.length<=R):
 (P.an (A8 nm) l).1=0/\Cm (P.an (A8 nm) l).2 N (R-l.length)/\∀m,(P.an (A8 nm) l).2.bs m=if m=nm then some (c++l) else P.bs m:=by
 obtain⟨k,d⟩:=Lc I;obtain⟨H,E,L⟩:=h.an d l z;refine⟨H,E,λm=>?_⟩;unfold PD.bs;rw[L m];split<;>rfl
def Cm.ds{c:Bs}(h:Cm P (N+1) R)(z:P.bs nm=some c):
 (P.ae (A8 nm)).1=0/\Cm (P.ae (A8 nm)).2 N R/\∀m,(P.ae (A8 nm)).2.bs m=P.bs m:=by
 obtain⟨k,d⟩:=Lc z;exact h.ae d
def Cm.dQ(h:Cm P (N+1) R):P.aJ.1=0/\Cm P.aJ.2 N R/\∀m,P.aJ.2.bs m=P.bs m:=by
 obtain⟨z,d,E⟩:=h.aJ;exact⟨z,d,λm=>by unfold PD.bs;rw[E m]⟩
def Cm.fQ{c:Bs}(h:Cm P (N+1) R)(H:P.bs nm=some c):
 (P.az (A8 nm)).1=0/\Cm (P.az (A8 nm)).2 N R/\∀m,(P.az (A8 nm)).2.bs m=if m=nm then none else P.bs m:=by
 obtain⟨k,d⟩:=Lc H;obtain⟨E,z,I⟩:=h.az d;refine⟨E,z,λm=>?_⟩;unfold PD.bs;rw[I m];split<;>rfl
def Cm.fH{c:Bs}{old:Bs}(h:Cm P (N+1) R)(L:P.bs old=some c)(d:nm≠[])(z:old≠nm):
 (P.aO (A8 old) (A8 nm)).1=0/\Cm (P.aO (A8 old) (A8 nm)).2 N R/\∀m,(P.aO (A8 old) (A8 nm)).2.bs m=if m=nm then some c else if m=old then none else P.bs m:=by
 obtain⟨k,E⟩:=Lc L;obtain⟨I,H,O⟩:=h.aO E d z;refine⟨I,H,λm=>?_⟩;unfold PD.bs;rw[O m];split
 ·rfl
 ·split<;>rfl
def Jd:P.Co nm=match P.bs nm with|some c=>(c,0)|none=>([],8):=by
 unfold PD.Co DP PD.bs PD.fl;cases lookup P.D.A4 (A8 nm)<;>rfl
def TT:CC P.D P.F (A8 nm)=match P.bs nm with|some c=>((c.length:Int),0)|none=>(0,8):=by
 unfold CC PD.bs PD.fl;cases lookup P.D.A4 (A8 nm)<;>rfl
def Ez(s:Nat)(l:Bs):(AR s l).length=l.length+4:=by simp[AR,Hd]
def Cm.ad{c:Bs}(h:Cm P (N+1) R)(z:P.bs nm=some c)(s:Nat)(l:Bs)(hl:l.length+4<=R):
 (P.ad (A8 nm) s l).1=true/\(P.ad (A8 nm) s l).2.1=0/\Cm (P.ad (A8 nm) s l).2.2 N (R-(l.length+4))/\∀m,(P.ad (A8 nm) s l).2.2.bs m=if m=nm then some (c++AR s l) else P.bs m:=by
 have H:=Ez s l;obtain⟨I,d,E⟩:=h.fh z (AR s l) (by omega);rw[H]at d;refine⟨?_,I,d,E⟩;show H7 P.D P.F (A8 nm) (AR s l)=true;unfold H7;have e:=@TT (P.an (A8 nm) (AR s l)).2 nm;have L:CC (Bp P.D P.F (A8 nm) ⟨(AR s l).toArray⟩).2.1 (Bp P.D P.F (A8 nm) ⟨(AR s l).toArray⟩).2.2 (A8 nm)=CC (P.an (A8 nm) (AR s l)).2.D (P.an (A8 nm) (AR s l)).2.F (A8 nm):=rfl;rw[L,e,E nm,TT,z];simp only[Cg,AY];simp only[DG];omega
def Cm.aI(h:Cm P (N+3) R)(W:P.bs nm=none)(d:nm≠[])(s:Nat)(l:Bs)(I:l.length+4<=R):
 (P.aI nm s l).1=0/\Cm (P.aI nm s l).2 N (R-(l.length+4))/\∀m,(P.aI nm s l).2.bs m=if m=nm then some (AR s l) else P.bs m:=by
 obtain⟨L,O,z⟩:=Cm.dP (N:=N+2) h W d;obtain⟨-,H,X,E⟩:=Cm.ad (N:=N+1) (nm:=nm) (c:=[]) O (by rw[z];simp) s l I;obtain⟨c1,c2,c3⟩:=Cm.ds (N:=N) (nm:=nm) (c:=AR s l) X (by rw[E];simp);unfold PD.aI;rw[Ad (by simp[L]),Ad (by simp[H])];refine⟨c1,c2,λm=>?_⟩;rw[c3,E,z];split
 ·simp
 ·rfl
def W5(s:Nat)(l:Bs):Hy s (AR s l)=some l:=by
 unfold Hy;have hp:=Ez s l;have d:(AR s l).length-4=l.length:=by omega
 rw[Ad (by omega),d];have z:(AR s l).take l.length=l:=by simp[AR]
 have h:(AR s l).drop l.length=Ca (AT s l):=by simp[AR]
 rw[z,h,Ah rfl]
def RA{l:Bs}(h:P.bs nm=some (AR (AE nm) l)):P.aZ nm=(l,0):=by
 unfold PD.aZ;rw[Jd,h];simp[W5]
def XU(h:P.bs nm=none):P.aZ nm=([],8):=by
 unfold PD.aZ;rw[Jd,h];simp
def Cm.ax:∀(l:List Bs) {P:PD},Cm P (N+l.length) R->(∀m∈l,P.bs m≠none)->(PD.ax l P).1=0/\Cm (PD.ax l P).2 N R/\∀m,(PD.ax l P).2.bs m=P.bs m
 | [],P,h,_=>⟨rfl,h,λ_=>rfl⟩
 | x::r,P,h,hm=>by
  obtain⟨c,W⟩:=Lm.1 (hm x (BF ..));obtain⟨H,I,z⟩:=Cm.ds (N:=N+r.length) (by simpa[Nat.add_assoc] using h) W;obtain⟨E,L,O⟩:=Cm.ax r I λm d=>by rw[z];exact hm m (Bx _ d)
  unfold PD.ax;rw[Ad (by simp[H])];exact⟨E,L,λm=>by rw[O,z]⟩
def Cm.aL:∀(l:List Bs) {P:PD},Cm P (N+l.length) R->l.Nodup->(∀m∈l,P.bs m≠none)->(PD.aL l P).1=0/\Cm (PD.aL l P).2 N R/\∀m,(PD.aL l P).2.bs m=if m∈l then none else P.bs m
 | [],P,h,_,_=>⟨rfl,h,λm=>by simp[PD.aL]⟩
 | x::r,P,h,hn,hm=>by
  have d:=Kh.1 hn;obtain⟨c,X⟩:=Lm.1 (hm x (BF ..));obtain⟨I,L,E⟩:=Cm.fQ (N:=N+r.length) (by simpa[Nat.add_assoc] using h) X;obtain⟨H,O,W⟩:=Cm.aL r L d.2 λm z=>by
   (have e:m≠x:=λe=>by subst e;exact d.1 z);rw[E,Ad e];exact hm m (Bx _ z)
  unfold PD.aL;rw[Ad (by simp[I])];refine⟨H,O,λm=>?_⟩;rw[W,E];by_cases e:m=x
  ·subst e;simp
  ·simp[e]
end
def To:∀(l:List Int) (k:Nat) (r:Bs),(∀n∈l,AN n)->l.length<k->r.length<8->Gb k (l.flatMap AQ++r)=l
 | [],k,r,_,_,hr=>by
  cases k with
  | zero=>rfl
  | succ k=>simp[Gb,hr]
 | n::t,k,r,hn,hk,hr=>by
  cases k with
  | zero=>simp at hk
  | succ k=>
   (have e:(n::t).flatMap AQ++r=AQ n++(t.flatMap AQ++r):=by simp[List.append_assoc]);have d:=CL n;rw[e];unfold Gb;rw[Ad (by simp[d]),Mh n (hn n (BF ..))];rw[Vo (by rw[d]),To t k r (λx h=>hn x (Bx _ h)) (by simp at hk;omega) hr]
def J7(l:List Int):(l.flatMap AQ).length=8*l.length:=by
 induction l with
 | nil=>rfl
 | cons n t ih=>rw[N5,AY,ih,CL,Cv];omega
def A0c(l:List Int)(h:∀n∈l,AN n):En (l.flatMap AQ)=l:=by
 unfold En;cases l with
 | nil=>rfl
 | cons n t=>
  have:=To (n::t) ((n::t).flatMap AQ).length [] h (by rw[J7];simp) (by simp);simpa using this
structure Na (ix:Ix):Prop where
 B7:isNum ix.B7=true
 segs:∀n∈ix.segs,isNum n=true
 EJ:Cx Ci ix.segs=true
def OE{n:Int}(h:isNum n=true):AN n:=by
 unfold isNum at h;simp at h;constructor<;>omega
def A0B{ix:Ix}(h:Na ix):indexOf (Ch ix.B7 ix.segs,0)=some ix:=by
 have e0:Ch ix.B7 ix.segs=(ix.B7::ix.segs).flatMap AQ:=by simp[Ch]
 have hall:∀n∈ix.B7::ix.segs,isNum n=true:=λn d=>by
  rcases BR.1 d with rfl|d
  ·exact h.B7
  ·exact h.segs n d
 have e:En (Ch ix.B7 ix.segs)=ix.B7::ix.segs:=by
  rw[e0];exact A0c _ λn d=>OE (hall n d)
 have z:(Ch ix.B7 ix.segs).length=(ix.B7::ix.segs).length*8:=by rw[e0,J7];omega
 unfold indexOf;dsimp only
 rw[Ad (by decide),e,Ad (by simp[z]),Ad,Ah]
 ·simp
 ·simpa using h.EJ
 ·have:(ix.B7::ix.segs).all isNum=true:=N9.2 hall;rw[this];simp
def A0A:indexOf ([],8)=some ⟨1,[]⟩:=by simp[indexOf]
def EW(p:Pu):(Bc p.1 p.2.1 p.2.2).length=17:=by simp[Bc,CL]
def RO{p:Pu}(h:Bi p)(r:Bs):M1 (Bc p.1 p.2.1 p.2.2++r)=p/\((Bc p.1 p.2.1 p.2.2++r).headD 0).toNat<8:=by
 obtain⟨a,t,v⟩:=p;obtain⟨⟨L,I⟩,z,d⟩:=h;dsimp only at L I z d ⊢;have H:=CL t;have E:((UInt8.ofNat (a % 256).toNat).toNat:Int)=a:=by
  have:(a % 256).toNat=a.toNat:=by omega
  rw[this];simp;omega
 unfold M1 Bc;simp only[Fx,List.headD_cons,DE,Dp,Cc];rw[E,Mh t z,Vo (by rw[H]),Mh v d];exact⟨rfl,by omega⟩
def QY:∀(l:List Pu) (k:Nat),(∀p∈l,Bi p)->l.length<k->Ex k (Cd l)=some (l,[])
 | [],k,_,hk=>by
  cases k with
  | zero=>simp at hk
  | succ k=>simp[Ex,Cd]
 | p::t,k,hp,hk=>by
  cases k with
  | zero=>simp at hk
  | succ k=>
   (have e:Cd (p::t)=Bc p.1 p.2.1 p.2.2++Cd t:=by simp[Cd]);obtain⟨z,h⟩:=RO (hp p (BF ..)) (Cd t);have d:=EW p;rw[e];unfold Ex;rw[Ad (by simp[d]),Ah h,Vo (by rw[d]),QY t k (λx E=>hp x (Bx _ E)) (by simp at hk;omega),z];rfl
def I2(l:List Pu):(Cd l).length=17*l.length:=by
 induction l with
 | nil=>rfl
 | cons p t ih=>
  have e:Cd (p::t)=Bc p.1 p.2.1 p.2.2++Cd t:=by simp[Cd]
  rw[e,AY,ih,EW,Cv];omega
def X8{l:List Pu}(h:∀p∈l,Bi p)(d:Cx Cn l=true):IL (Cd l,0)=some l:=by
 unfold IL;dsimp only
 rw[Ad (by decide)];cases l with
 | nil=>simp[Cd,Ex,d]
 | cons p t=>
  rw[QY (p::t) _ h (by rw[I2];simp)];simp[d]
def DY:Nat->List Pu->Bs
 | _,[]=>[]
 | s,p::r=>AR s (Bc p.1 p.2.1 p.2.2)++DY (AT s (Bc p.1 p.2.1 p.2.2)) r
def Hh:Nat->List Pu->Nat
 | s,[]=>s
 | s,p::r=>Hh (AT s (Bc p.1 p.2.1 p.2.2)) r
def T5:∀(l:List Pu) (s:Nat) (p:Pu),DY s (l++[p])=DY s l++AR (Hh s l) (Bc p.1 p.2.1 p.2.2)/\Hh s (l++[p])=AT (Hh s l) (Bc p.1 p.2.1 p.2.2)
 | [],s,p=>by simp[DY,Hh]
 | x::r,s,p=>by
  obtain⟨h,d⟩:=T5 r (AT s (Bc x.1 x.2.1 x.2.2)) p;simp only[Fx,DY,Hh,h,d,Cc,and_self]
def J3:∀(l:List Pu) (s:Nat),(DY s l).length=21*l.length
 | [],_=>rfl
 | p::r,s=>by
  simp only[DY,AY,Ez,EW,J3 r,Cv];omega
def M0:∀(l:List Pu) (s k:Nat) (t:Bs),(∀p∈l,Bi p)->l.length<k->t.length<21->DA k s (DY s l++t)=(l,true)
 | [],s,k,t,_,_,ht=>by simp only[DY,Es];exact RC ht
 | p::r,s,k,t,hp,hk,ht=>by
  cases k with
  | zero=>simp at hk
  | succ k=>
   have z:=hp p (BF ..);have h17:=EW p;have I:=M0 r (AT s (Bc p.1 p.2.1 p.2.2)) k t (λx L=>hp x (Bx _ L)) (by simp at hk;omega) ht;obtain⟨H,E⟩:=RO z [];have d:Bc p.1 p.2.1 p.2.2=UInt8.ofNat (p.1 % 256).toNat::(AQ p.2.1++AQ p.2.2):=rfl;simp only[FF]at H E;have e:DY s (p::r)++t=UInt8.ofNat (p.1 % 256).toNat::(AQ p.2.1++AQ p.2.2)++Ca (AT s (Bc p.1 p.2.1 p.2.2))++(DY (AT s (Bc p.1 p.2.1 p.2.2)) r++t):=by
    simp only[DY,AR,d,Cc]
   rw[e,RF (by simp[CL]) (Hd _) (by rw[<-d]) (by rw[d]at E;exact E)];rw[<-d,I];have h:=H;unfold M1 at h;rw[d]at h;simp only[List.headD_cons,DE,Dp]at h;rw[h]
def DZ(nm:Bs)(ahead:Int)(l:List Pu):Bs:=AR (AE nm) (AQ ahead)++DY (AT (AE nm) (AQ ahead)) l
def EY(nm:Bs)(ahead:Int)(l:List Pu):Nat:=Hh (AT (AE nm) (AQ ahead)) l
def J4(nm:Bs)(ahead:Int)(l:List Pu):(DZ nm ahead l).length=12+21*l.length:=by
 unfold DZ;rw[AY,Ez,CL,J3]
def T7(nm:Bs)(ahead:Int)(l:List Pu)(p:Pu):DZ nm ahead (l++[p])=DZ nm ahead l++AR (EY nm ahead l) (Bc p.1 p.2.1 p.2.2)/\EY nm ahead (l++[p])=AT (EY nm ahead l) (Bc p.1 p.2.1 p.2.2):=by
 obtain⟨h,d⟩:=T5 l (AT (AE nm) (AQ ahead)) p;unfold DZ EY;rw[h,d,Cc];exact⟨rfl,rfl⟩
def RH(nm:Bs)(ahead:Int)(l:List Pu)(t:Bs)(h:AN ahead)(d:∀p∈l,Bi p)(z:t.length<21):G4 (AE nm) ahead (DZ nm ahead l++t)=(l,0):=by
 have e:DZ nm ahead l++t=AQ ahead++Ca (AT (AE nm) (AQ ahead))++(DY (AT (AE nm) (AQ ahead)) l++t):=by
  simp only[DZ,AR,Cc]
 rw[e,RG (CL _) (Hd _)];have E:BL (AQ ahead)=ahead:=by have:=Mh ahead h [];simpa using this
 rw[Ah ⟨rfl,E⟩,M0 l _ _ t d (by rw[AY,J3];omega) z];simp
def XZ(s:Nat)(ahead:Int)(t:Bs)(d:t.length<12):G4 s ahead t=([],0):=by
 unfold G4;rw[Ah d]
section
variable {P:PD} {n ahead:Int}
def T3{c:Bs}(h:P.bs (Ae n)=some c):P.aW n ahead=G4 (AE (Ae n)) ahead c:=by
 have d:=@Jd P (Ae n);unfold PD.Co at d;rw[h]at d;unfold PD.aW Gs;have e:DP P.D P.F ⟨(Ae n).toArray⟩=(c,0):=d;rw[e];simp
def A0w{ix:Ix}(h:Na ix)(d:P.bs AI=some (AR (AE AI) (Ch ix.B7 ix.segs))):P.a8=some ix:=by
 unfold PD.a8;rw[RA d,A0B h]
def A0x(d:P.bs AI=none):P.a8=some ⟨1,[]⟩:=by
 unfold PD.a8;rw[XU d,A0A]
def X4{l:List Pu}(h:∀p∈l,Bi p)(z:Cx Cn l=true)(d:P.bs (AF n)=some (AR (AE (AF n)) (Cd l))):P.Cw n=some l:=by
 unfold PD.Cw;rw[RA d,X8 h z]
def Ou{l:List Pu}{t:Bs}(d:AN ahead)(h:∀p∈l,Bi p)(z:t.length<21)(E:P.bs (Ae n)=some (DZ (Ae n) ahead l++t)):P.aW n ahead=(l,0):=by
 rw[T3 E,RH _ _ _ _ d h z]
end
def IZ(n:Int):Ae n=108::(Lib.repeatL [48] (19-(Lib.itoa n).length)++Lib.itoa n):=by simp[Ae,BO,Ee,D7]
def I7(n:Int):AF n=115::(Lib.repeatL [48] (19-(Lib.itoa n).length)++Lib.itoa n):=by simp[AF,BO,Ee,D7]
def SS{lt:Bs}{a b:Int}(d:isNum a=true)(E:isNum b=true)(h:Ee lt a=Ee lt b):a=b:=by
 unfold isNum at d E;simp at d E;have z:=Ma lt (n:=a) (by omega) (by omega);have H:=Ma lt (n:=b) (by omega) (by omega);rw[h,H]at z;simpa using z.symm
def FN{a b:Int}(d:isNum a=true)(z:isNum b=true)(h:Ae a=Ae b):a=b:=SS (lt:=D7 1) d z (by simpa[Ae,BO] using h)
def KK{a b:Int}(d:isNum a=true)(z:isNum b=true)(h:AF a=AF b):a=b:=SS (lt:=D7 2) d z (by simpa[AF,BO] using h)
def FR(a b:Int):Ae a≠AF b:=by rw[IZ,I7];simp
def Hg(a:Int):Ae a≠AI:=by rw[IZ];simp[AI]
def JB(a:Int):AF a≠AI:=by rw[I7];simp[AI]
def KU(a:Int):Ae a≠Bo:=by rw[IZ];simp[Bo]
def LU(a:Int):AF a≠Bo:=by rw[I7];simp[Bo]
def J6:AI≠Bo:=by simp[AI,Bo]
def KP{n:Int}(h:isNum n=true):Bf (Ae n)=(1,n):=by
 have d:1<=n/\n<=4611686018427387904:=by unfold isNum at h;simpa using h
 unfold Bf;have e:E5 [108] (Ae n)=some n:=by
  have:=Ma (D7 1) (n:=n) (by omega) d.2;simpa[Ae,BO,D7] using this
 rw[e]
def KR{c d:UInt8}{r:Bs}(h:c≠d):E5 [c] (d::r)=none:=by
 cases hx:E5 [c] (d::r) with
 | none=>rfl
 | some v=>have:=(KQ hx).2;simp[Ee]at this;exact absurd this.1 h
def Om{n:Int}(h:isNum n=true):Bf (AF n)=(2,n):=by
 have d:1<=n/\n<=4611686018427387904:=by unfold isNum at h;simpa using h
 have e:E5 [115] (AF n)=some n:=by
  have:=Ma (D7 2) (n:=n) (by omega) d.2;simpa[AF,BO,D7] using this
 have z:E5 [108] (AF n)=none:=by rw[I7];exact KR (by decide)
 unfold Bf H4;rw[z,e]
def SH:Bf AI=(3,0):=by
 have h:E5 [108] AI=none:=KR (by decide);have d:E5 [115] AI=none:=KR (by decide);unfold Bf H4;rw[h,d];simp[H3]
def Zk(a:Int):Ae a≠[]:=by rw[IZ];simp
def X5(a:Int):AF a≠[]:=by rw[I7];simp
def ES(P:PD):Int->List (Int×List Pu)->Prop
 | _,[]=>True
 | a,x::r=>P.aW x.1 a=(x.2,0)/\ES P (a+x.2.length) r
def Aw(l:List (Int×List Pu)):List Pu:=l.flatMap (·.2)
def V0(P:PD)(j:Jn)(cl:List (Int×List Pu)):Option (List Pu)->Prop
 | none=>j.AA=none/\j.Am=cl.map (·.1)
 | some l=>j.AA=some (j.A9,EY (Ae j.A9) j.puts l)/\j.Am=cl.map (·.1)++[j.A9]/\P.bs (Ae j.A9)=some (DZ (Ae j.A9) j.puts l)/\(∀p∈l,Bi p)/\isNum j.A9=true
structure Lay (P:PD) (A:Ar) (sg cl:List (Int×List Pu)) (ol:Option (List Pu)):Prop where
 DC:Na A.ix
 ix:(P.bs AI=none/\A.ix=⟨1,[]⟩)\/P.bs AI=some (AR (AE AI) (Ch A.ix.B7 A.ix.segs))
 segs:sg.map (·.1)=A.ix.segs
 Cw:∀x∈sg,((∀p∈x.2,Bi p)/\Cx Cn x.2=true)/\P.bs (AF x.1)=some (AR (AE (AF x.1)) (Cd x.2))
 CT:∀x∈cl,(isNum x.1=true/\x.1<=A.j.A9)/\∀p∈x.2,Bi p
 Jc:∀x∈cl,ol≠none->x.1≠A.j.A9
 ED:(∀x∈cl,A.ix.B7<=x.1)/\(ol≠none->A.ix.B7<=A.j.A9)
 Am:ES P 0 cl
 Gi:A.j.puts=((Aw cl).length:Int)
 AA:V0 P A.j cl ol
 EB:0<=A.j.A9/\A.ix.B7<=A.j.A9+1/\∀n,isNum n=true->P.bs (Ae n)≠none->n<=A.j.A9
 Em:0<=A.A9/\∀n,isNum n=true->P.bs (AF n)≠none->n<=A.A9
 AP:∀nm∈A.AP,P.bs nm≠none
 H5:A.j.Am.Pairwise (· < ·)
 Ed:∀nm,P.bs nm≠none->(Bf nm).1≠0
 Hf:∀n,isNum n=true->A.ix.B7<=n->P.bs (Ae n)≠none->n∈A.j.Am
def B6(sg cl:List (Int×List Pu))(ol:Option (List Pu)):List Pu:=Aw sg++(Aw cl++ol.getD [])
section
variable {P P':PD} {A:Ar} {sg cl:List (Int×List Pu)} {ol:Option (List Pu)} {N R:Nat}
def ES.aH(d:∀m,P'.bs m=P.bs m):∀ {a:Int} {l:List (Int×List Pu)},ES P a l->ES P' a l
 | _,[],_=>trivial
 | a,x::r,h=>by
  obtain⟨E,z⟩:=h;refine⟨?_,z.aH d⟩;rw[<-E];unfold PD.aW Gs;have e:∀Q:PD,DP Q.D Q.F ⟨(Ae x.1).toArray⟩=match Q.bs (Ae x.1) with|some c=>(c,0)|none=>([],8):=λQ=>@Jd Q (Ae x.1)
  rw[e P',e P,d]
def Zj{n:Int}(d:P'.bs (Ae n)=P.bs (Ae n))(a:Int):P'.aW n a=P.aW n a:=by
 unfold PD.aW Gs;have e:∀Q:PD,DP Q.D Q.F ⟨(Ae n).toArray⟩=match Q.bs (Ae n) with|some c=>(c,0)|none=>([],8):=λQ=>@Jd Q (Ae n)
 rw[e P',e P,d]
def ES.br:∀ {a:Int} {l:List (Int×List Pu)},ES P a l->(∀x∈l,P'.bs (Ae x.1)=P.bs (Ae x.1))->ES P' a l
 | _,[],_,_=>trivial
 | a,x::_,h,hb=>⟨(Zj (hb x (BF ..)) a).trans h.1,h.2.br λy d=>hb y (Bx _ d)⟩
def ES.bU:∀ {a:Int} {l:List (Int×List Pu)} {x:Int×List Pu},ES P a l->P.aW x.1 (a+(Aw l).length)=(x.2,0)->ES P a (l++[x])
 | a,[],x,_,h=>⟨by simpa[Aw] using h,trivial⟩
 | a,y::r,x,h,h2=>⟨h.1,h.2.bU (by
  rw[<-h2];congr 1
  simp only[Aw,N5,AY];omega)⟩
def O1:∀ {l:List (Int×List Pu)} {d:List Pu},ES P d.length l->P.bq (l.map (·.1)) d=(d++Aw l,0)
 | [],d,_=>by simp[PD.bq,Aw]
 | x::r,d,h=>by
  obtain⟨z,E⟩:=h;simp only[Hb,PD.bq];rw[z];dsimp only
  rw[Ad (by simp),O1 (by simpa using E)];simp[Aw,List.append_assoc]
def Zn{n a:Int}{l:List Pu}(h:P.aW n a=(l,0)):P.bs (Ae n)≠none:=by
 intro d;have e:DP P.D P.F ⟨(Ae n).toArray⟩=([],8):=by have:=@Jd P (Ae n);unfold PD.Co at this;rw[d]at this;exact this
 unfold PD.aW Gs at h;rw[e]at h;simp at h
def ES.DB:∀ {a:Int} {l:List (Int×List Pu)} {x:Int×List Pu},ES P a l->x∈l->P.bs (Ae x.1)≠none
 | a,y::r,x,h,d=>by
  rcases BR.1 d with rfl|d
  ·exact Zn h.1
  ·exact h.2.DB d
def Lay.dx(h:Lay P A sg cl ol)(hl:(Aw cl).length<=1099511627776):AN A.j.puts:=by rw[h.Gi];constructor<;>omega
def Lay.puts(h:Lay P A sg cl ol)(z:(Aw cl).length<=1099511627776):P.puts A.j.Am=(Aw cl++ol.getD [],0):=by
 have d:=h.AA;unfold PD.puts;cases ol with
 | none=>
  rw[d.2,O1 h.Am];simp
 | some l=>
  obtain⟨-,H,E,I,h4⟩:=d
  have L:ES P 0 (cl++[(A.j.A9,l)]):=h.Am.bU (by
   have:=h.Gi;rw[Nb,<-this]
   exact Ou (t:=[]) (h.dx z) I (by simp) (by simpa using E))
  have e:cl.map (·.1)++[A.j.A9]=(cl++[(A.j.A9,l)]).map (·.1):=by simp
  rw[H,e,O1 L];simp[Aw]
def Lay.b8(h:Lay P A sg cl ol):P.segs A.ix.segs=some sg:=by
 rw[<-h.segs];have d:∀l:List (Int×List Pu),(∀x∈l,x∈sg)->P.segs (l.map (·.1))=some l:=by
  intro l
  induction l with
  | nil=>intro _;rfl
  | cons x r ih=>
   intro z;obtain⟨⟨I,H⟩,L⟩:=h.Cw x (z x (BF ..));simp only[Hb,PD.segs];rw[X4 I H L];dsimp only
   rw[ih λy E=>z y (Bx _ E)];rfl
 exact d sg λ_ h=>h
def Lay.aH(h:Lay P A sg cl ol)(d:∀m,P'.bs m=P.bs m):Lay P' A sg cl ol:=by
 refine⟨h.DC,by rw[d];exact h.ix,h.segs,λx z=>by rw[d];exact h.Cw x z,h.CT,h.Jc,h.ED,h.Am.aH d,h.Gi,?_,⟨h.EB.1,h.EB.2.1,λn H z=>h.EB.2.2 n H (by rw[<-d];exact z)⟩,
  ⟨h.Em.1,λn H z=>h.Em.2 n H (by rw[<-d];exact z)⟩,λnm E=>by rw[d];exact h.AP nm E,h.H5,λnm E=>h.Ed nm (by rw[<-d];exact E),λn L I O=>h.Hf n L I (by rw[<-d];exact O)⟩
 have:=h.AA;cases ol with
 | none=>exact this
 | some l=>unfold V0 at this ⊢;rw[d];exact this
def Lay.C(h:Lay P A sg cl ol)(L:Cm P (N+A.AP.length) R):(A.C P).1=0/\(A.C P).2.1 = {A with AP:=[]}/\Cm (A.C P).2.2 N R/\(∀m,(A.C P).2.2.bs m=P.bs m)/\Lay (A.C P).2.2 {A with AP:=[]} sg cl ol:=by
 obtain⟨I,H,z⟩:=Cm.ax A.AP L h.AP;have e:A.C P=(0,{A with AP:=[]},(P.ax A.AP).2):=by unfold Ar.C;rw[Ad (by simp[I])]
 have d:=h.aH z;rw[e];exact⟨rfl,rfl,H,z,⟨d.DC,d.ix,d.segs,d.Cw,d.CT,d.Jc,d.ED,d.Am,d.Gi,d.AA,d.EB,d.Em,λnm E=>(by cases E),d.H5,d.Ed,d.Hf⟩⟩
def Lay.au(h:Lay P A sg cl none)(hc:Cm P (N+2) R)(hn:isNum (A.j.A9+1)=true)(hR:12<=R):
 (A.j.au P).1=0/\Cm (A.j.au P).2.2 N (R-12)/\Lay (A.j.au P).2.2 {A with j:=(A.j.au P).2.1} sg cl (some [])/\(A.j.au P).2.1.AA≠none:=by
 obtain⟨n,O⟩:∃n,A.j.A9+1=n:=⟨_,rfl⟩;have h0:P.bs (Ae n)=none:=by
  cases z:P.bs (Ae n) with
  | none=>rfl
  | some c=>have:=h.EB.2.2 n (O ▸ hn) (by rw[z];simp);omega
 obtain⟨a1,a2,a3⟩:=Cm.dP (N:=N+1) hc h0 (Zk n);obtain⟨-,b1,Y,b3⟩:=Cm.ad (N:=N) (nm:=Ae n) (c:=[]) a2 (by rw[a3];simp) (AE (Ae n)) (AQ A.j.puts) (by rw[CL];omega);rw[CL]at Y;have I:=h.AA;have e:A.j.au P=(0,⟨A.j.Am++[n],n,A.j.puts,some (n,AT (AE (Ae n)) (AQ A.j.puts))⟩,((P.ai (A8 (Ae n))).2.ad (A8 (Ae n)) (AE (Ae n)) (AQ A.j.puts)).2.2):=by
  unfold Jn.au;rw[O,Ad (by simp[a1])];dsimp only
  rw[Ad (by simp[b1])]
 rw[e];dsimp only
 have d:∀m,m≠Ae n->((P.ai (A8 (Ae n))).2.ad (A8 (Ae n)) (AE (Ae n)) (AQ A.j.puts)).2.2.bs m=P.bs m:=λm L=>by rw[b3,Ad L,a3,Ad L]
 have E:=b3 (Ae n);rw[Ah rfl,Es]at E;generalize ((P.ai (A8 (Ae n))).2.ad (A8 (Ae n)) (AE (Ae n)) (AQ A.j.puts)).2.2=P2 at d E Y;have H:=O ▸ hn;have W:∀x∈cl,x.1≠n:=λx z e=>by have:=(h.CT x z).1.2;omega
 refine⟨rfl,Y,⟨h.DC,?_,h.segs,λx z=>?_,λx z=>?_,λx z _=>W x z,⟨h.ED.1,λ_=>by have:=h.EB.2.1;dsimp only;omega⟩,?_,h.Gi,?_,?_,?_,λnm L=>?_,?_,λnm L=>?_,λk h1 h2 h3=>?_⟩,by simp⟩
 ·rw[d _ (Hg n).symm];exact h.ix
 ·rw[d _ (FR n x.1).symm];exact h.Cw x z
 ·obtain⟨⟨c1,c2⟩,c3⟩:=h.CT x z;exact⟨⟨c1,by dsimp only;omega⟩,c3⟩
 ·exact h.Am.br λx z=>d _ λe=>W x z (FN (h.CT x z).1.1 H e)
 ·refine⟨rfl,by dsimp only;rw[I.2],?_,by simp,H⟩;dsimp only
  rw[E];simp[DZ,DY]
 ·refine⟨by have:=h.EB.1;dsimp only;omega,by have:=h.EB.2.1;dsimp only;omega,λk X z=>?_⟩;dsimp only
  by_cases e:Ae k=Ae n
  ·have:=FN X H e;omega
  ·rw[d _ e]at z;have:=h.EB.2.2 k X z;omega
 ·refine⟨h.Em.1,λk X z=>h.Em.2 k X ?_⟩
  rwa [d _ (FR n k).symm]at z
 ·by_cases e:nm=Ae n
  ·subst e;rw[E];simp
  ·rw[d _ e];exact h.AP nm L
 ·dsimp only
  refine Ek.2 ⟨h.H5,by simp,λa ha b hb=>?_⟩;simp at hb;subst hb;rw[I.2]at ha;obtain⟨x,z,rfl⟩:=Ct.1 ha;have:=(h.CT x z).1.2;omega
 ·by_cases e:nm=Ae n
  ·subst e;rw[KP H];simp
  ·rw[d _ e]at L;exact h.Ed nm L
 ·dsimp only
  by_cases e:Ae k=Ae n
  ·have:=FN h1 H e;subst this;simp
  ·rw[d _ e]at h3;exact FE _ (h.Hf k h1 h2 h3)
def Lay.av{l:List Pu}(h:Lay P A sg cl (some l))(hc:Cm P (N+1) R)(p:Pu)(hp:Bi p)(hR:21<=R):
 (A.j.av P p).1=true/\(A.j.av P p).2.1=0/\Cm (A.j.av P p).2.2.2 N (R-21)/\Lay (A.j.av P p).2.2.2 {A with j:=(A.j.av P p).2.2.1} sg cl (some (l++[p])):=by
 obtain⟨W,h2,h3,h4,I⟩:=h.AA;obtain⟨n,hnn⟩:∃n,A.j.A9=n:=⟨_,rfl⟩;obtain⟨b0,b1,Y,b3⟩:=Cm.ad (N:=N) hc h3 (EY (Ae A.j.A9) A.j.puts l) (Bc p.1 p.2.1 p.2.2) (by rw[EW];omega);rw[EW]at Y;obtain⟨q1,q2⟩:=T7 (Ae A.j.A9) A.j.puts l p;unfold Jn.av;rw[W];dsimp only
 refine⟨b0,b1,Y,?_⟩;have d:∀m,m≠Ae A.j.A9->(P.ad (A8 (Ae A.j.A9)) (EY (Ae A.j.A9) A.j.puts l) (Bc p.1 p.2.1 p.2.2)).2.2.bs m=P.bs m:=λm H=>by rw[b3,Ad H]
 have E:=b3 (Ae A.j.A9);rw[Ah rfl]at E;generalize (P.ad (A8 (Ae A.j.A9)) (EY (Ae A.j.A9) A.j.puts l) (Bc p.1 p.2.1 p.2.2)).2.2=P2 at d E Y;refine⟨h.DC,?_,h.segs,λx z=>?_,h.CT,λx z _=>h.Jc x z (by simp),⟨h.ED.1,λ_=>h.ED.2 (by simp)⟩,?_,h.Gi,⟨?_,h2,?_,?_,I⟩,⟨h.EB.1,h.EB.2.1,λk O z=>?_⟩,⟨h.Em.1,λk O z=>?_⟩,λnm H=>?_,h.H5,λnm H=>?_,λk W X L=>?_⟩
 ·rw[d _ (Hg _).symm];exact h.ix
 ·rw[d _ (FR _ x.1).symm];exact h.Cw x z
 ·exact h.Am.br λx z=>d _ λe=>h.Jc x z (by simp) (FN (h.CT x z).1.1 I e)
 ·dsimp only;rw[q2]
 ·dsimp only;rw[E,q1]
 ·intro x z;rcases AU.1 z with z|z
  ·exact h4 x z
  ·simp at z;subst z;exact hp
 ·by_cases e:Ae k=Ae A.j.A9
  ·have:=FN O I e;show k<=A.j.A9;omega
  ·rw[d _ e]at z;exact h.EB.2.2 k O z
 ·rw[d _ (FR _ k).symm]at z;exact h.Em.2 k O z
 ·by_cases e:nm=Ae A.j.A9
  ·subst e;rw[E];simp
  ·rw[d _ e];exact h.AP nm H
 ·by_cases e:nm=Ae A.j.A9
  ·subst e;rw[KP I];simp
  ·rw[d _ e]at H;exact h.Ed nm H
 ·by_cases e:Ae k=Ae A.j.A9
  ·have:=FN W I e;subst this;show A.j.A9∈A.j.Am;rw[h2];simp
  ·rw[d _ e]at L;exact h.Hf k W X L
def Lay.ad(h:Lay P A sg cl ol)(hc:Cm P (N+A.AP.length+3) R)(Y:ol=none->isNum (A.j.A9+1)=true)(p:Pu)(O:Bi p)(hR:33<=R):
 (A.ad P p).1=true/\(A.ad P p).2.1=0/\Cm (A.ad P p).2.2.2 N (R-33)/\Lay (A.ad P p).2.2.2 (A.ad P p).2.2.1 sg cl (some (ol.getD []++[p]))/\(A.ad P p).2.2.1.AP=[]:=by
 obtain⟨s1,s2,s3,s4,s5⟩:=h.C (N:=N+3) (hc.aa (by omega) (As _));unfold Ar.ad;rw[Ad (by simp[s1])];dsimp only
 rw[s2];dsimp only
 generalize (A.C P).2.2=P1 at s3 s4 s5;cases ol with
 | none=>
  obtain⟨I,W,L,X⟩:=Lay.au (N:=N+1) s5 s3 (Y rfl) (by omega);dsimp only at I W L X;obtain⟨H,E,d,z⟩:=L.av (N:=N) W p O (by omega);dsimp only at H E d z;have e:A.j.ad P1 p=(A.j.au P1).2.1.av (A.j.au P1).2.2 p:=by
   unfold Jn.ad;rw[Ah h.AA.1,Ad (by simp[I])]
  rw[e];exact⟨H,E,d.aa (As _) (by omega),z,rfl⟩
 | some l=>
  obtain⟨H,E,d,z⟩:=s5.av (N:=N) (s3.aa (by omega) (As _)) p O (by omega);dsimp only at H E d z;have e:A.j.ad P1 p=A.j.av P1 p:=by
   unfold Jn.ad;rw[Ad (by rw[h.AA.1];simp)]
  rw[e];exact⟨H,E,d.aa (As _) (by omega),z,rfl⟩
def Lay.ae(h:Lay P A sg cl ol)(L:Cm P (N+A.AP.length+2) R):
 (A.ae P).1=0/\Cm (A.ae P).2.2 N R/\Lay (A.ae P).2.2 (A.ae P).2.1 sg cl ol/\(A.ae P).2.1 = {A with AP:=[]}:=by
 obtain⟨s1,s2,s3,s4,s5⟩:=h.C (N:=N+2) (L.aa (by omega) (As _));have E:((A.C P).2.1.j.ae (A.C P).2.2).1=0/\Cm ((A.C P).2.1.j.ae (A.C P).2.2).2 (N+1) R/\∀m,((A.C P).2.1.j.ae (A.C P).2.2).2.bs m=(A.C P).2.2.bs m:=by
  rw[s2];dsimp only
  unfold Jn.ae;cases ol with
  | none=>rw[h.AA.1];exact⟨rfl,s3.aa (by omega) (As _),λ_=>rfl⟩
  | some l=>
   rw[h.AA.1];have z:=s5.AA.2.2.1;dsimp only at z;exact Cm.ds (N:=N+1) s3 z
 obtain⟨H,I,d⟩:=E;obtain⟨d1,d2,d3⟩:=Cm.dQ (N:=N) I;unfold Ar.ae;rw[Ad (by simp[s1]),Ad (by simp[H])];refine⟨d1,d2,?_,s2⟩;dsimp only
 rw[s2];rw[s2]at d3 d;dsimp only at d3 d ⊢;exact s5.aH λm=>by rw[d3,d]
end
end
end Go.Proofs.YtodcnkbblippnaaGreatDoor
