/- Part 9 of a proof: walks of the program. -/
import Derived.Test.YtodcnkbblippnaaGreatDoorPk08
namespace Go.Proofs.YtodcnkbblippnaaGreatDoor
set_option maxRecDepth 100000
set_option maxHeartbeats 32000000
set_option linter.defProp false
open Go.Proofs.Tryz
section
open Go.RowKit
attribute [local go_sem ↓] CJ
def KY{lt nm:Bs}{v:Int}(h:E7 lt nm=some v):(1<=v/\v<=4611686018427387904)/\El lt v=nm:=by
 unfold E7 at h;cases hx:Lib.atoiAll (Lib.trimPrefix nm lt) with
 | ok x=>
  rw[hx]at h;dsimp only at h;split at h
  ·rename_i d;cases h;exact⟨⟨by omega,d.2.1⟩,d.2.2⟩
  ·cases h
 | «syntax»=>rw[hx]at h;cases h
 | range=>rw[hx]at h;cases h
def Ta{nm:Bs}:(H6 nm).1≠1/\(H6 nm).1≠2:=by
 unfold H6 Ic;split
 ·simp
 ·split<;>simp
def OI{nm:Bs}(h:(Bg nm).1=1):(1<=(Bg nm).2/\(Bg nm).2<=4611686018427387904)/\Ah (Bg nm).2=nm:=by
 unfold Bg at h ⊢;cases hx:E7 [108] nm with
 | some v=>exact KY hx
 | none=>
  rw[hx]at h;dsimp only at h;unfold H7 at h;cases hy:E7 [115] nm with
  | some v=>rw[hy]at h;cases h
  | none=>rw[hy]at h;exact absurd h Ta.1
def OG{nm:Bs}(h:(Bg nm).1=2):(1<=(Bg nm).2/\(Bg nm).2<=4611686018427387904)/\AJ (Bg nm).2=nm:=by
 unfold Bg at h ⊢;cases hx:E7 [108] nm with
 | some v=>rw[hx]at h;cases h
 | none=>
  rw[hx]at h;dsimp only at h ⊢;unfold H7 at h ⊢;cases hy:E7 [115] nm with
  | some v=>exact KY hy
  | none=>rw[hy]at h;exact absurd h Ta.2
def T2(nm:Bs):AE (Bg nm).2:=by
 unfold Bg;cases hx:E7 [108] nm with
 | some v=>have:=(KY hx).1;unfold AE;dsimp only;omega
 | none=>
  dsimp only
  unfold H7;cases hy:E7 [115] nm with
  | some v=>have:=(KY hy).1;unfold AE;dsimp only;omega
  | none=>dsimp only;unfold H6 Ic AE;split<;>(try split)<;>simp
def ZT(aA:Int)(l l':List Bs):BS aA (l++l')=BS aA l++BS aA l':=by simp[BS]
def Mn(aA:Int)(l:List Bs):(BS aA l).length<=l.length:=List.length_filterMap_le _ _
def OL{aA n:Int}{l:List Bs}(h:n∈BS aA l):aA<=n/\(1<=n/\n<=4611686018427387904)/\Ah n∈l:=by
 obtain⟨nm,I,d⟩:=LD.1 h;split at d
 ·rename_i z;cases d;obtain⟨E,H⟩:=OI z.1;exact⟨z.2,E,by rw[H];exact I⟩
 ·cases d
def KV(P:PD):P.Ay.length=P.D.A4.length:=by
 unfold PD.Ay dList;rw[Fx,MI _ _ (As _)]
def U4(l:List Int)(x d:Int):(l++[x]).getLastD d=x:=by
 rw[Kh];simp
def OO{w:World}{b:Nat}{P:PD}{Ft:Nat->Prop}{a c m:Nat}(h:Bk w b P Ft)(H:Fit P a c m)(I:CU a c m):
 Calls Tryz.prog 76 #[.pointer (some ⟨b,0,none⟩)] w λe w'=>∃v,e=.returned v/\Dp w' v P.Ay/\A3 (λ_=>False) w w'/\(∀g,v.ownBlock=some g->w.heap.size<=g):=by
 refine(A0d h (by have:=H.A4;have:=I.a;omega)).mono ?_;rintro e w'⟨v,E,d,L,z⟩;refine⟨v,E,?_,L,z⟩;have O:=KV P;unfold Dp;rw[O];rw[Xf]at d;exact d
section
variable {w:World} {b B:Nat} {P:PD} {Ft:Nat->Prop} {a c m:Nat} {aA:Int}
def A02(w:World)(h:Bk w b P Ft)(aD:∀k,Ft k->k<w.heap.size)(hF:Fit P a c m)(hl:CU a c m)(bI:a*m<=70368744177664)(hf:1<=aA/\aA<=4611686018427387904)(hL:Lets B w)(hE:HU w)(bP:∀nm∈P.Ay,nm.length<=281474976710656):
 Af 99 #[A5 b,A0 aA] w λe w'=>
  ((P.puts (BS aA P.Ay)).2≠0/\e=.returned (.tuple #[.pointer none,.slice none 0 0,A0 (P.puts (BS aA P.Ay)).2])/\A3 Ab w w')\/
  ((P.puts (BS aA P.Ay)).2=0/\∃d lv v,e=.returned (.tuple #[A5 d,v,A0 0])/\DC w' d b lv (.pointer none) (P.bQ aA)/\AZ w' v (P.puts (BS aA P.Ay)).1/\(∀k,Dj d lv (.pointer none) k->w.heap.size<=k)/\(∀g,v.ownBlock=some g->w.heap.size<=g)/\A3 Ab w w'):=by
 obtain⟨i0,hi,bG,bO,bL⟩:∃i0,Tryz.prog.info? 3=some i0/\i0.zero=some (A0 0)/\i0.size=1/\i0.bytes=8:=by
  have h:=Tryz.cY;cases O:Tryz.prog.info? 3 with
  | none=>rw[O]at h;cases h
  | some i=>rw[O]at h;simp at h;exact⟨i,rfl,h.1,h.2.1,h.2.2⟩
 have bZ:Hid (∀I,A3 Ab w I->Af 76 #[A5 b] I λe w'=>∃v,e=.returned v/\Dp w' v P.Ay/\A3 Ab I w'/\(∀g,v.ownBlock=some g->I.heap.size<=g)):=λI W=>OO (B3.ay h aD W) hF hl;have bY:Hid (∀I,A3 Ab w I->∀nm∈P.Ay,Af 97 #[.string ⟨nm.toArray⟩] I λe w'=>e=.returned (.tuple #[A0 (Bg nm).1,A0 (Bg nm).2])/\A3 Ab I w'):=λI W nm hm=>T1 I nm (bP nm hm) (hE.aM W) (hL.aM W);have aG:P.Ay.length<=a:=by rw[KV];exact hF.A4
 have bV:Hid (∀I d lv last,A3 Ab w I->DC I d b lv (.pointer none) ⟨BS aA P.Ay,last,0,none⟩->Af 106 #[A5 d] I λe w'=>∃v,e=.returned (.tuple #[v,A0 (P.puts (BS aA P.Ay)).2])/\AZ w' v (P.puts (BS aA P.Ay)).1/\(∀g,v.ownBlock=some g->I.heap.size<=g)/\A3 Ab I w'):=λI d lv last W hJ=>
  Oh I (B3.ay h aD W) (λk hk=>Bq (aD k hk) W.Ao) hJ hF hl (AR (Hv m (AR (Mn aA P.Ay) aG)) bI) (λn hn=>by obtain⟨_,h2,_⟩:=OL hn;exact HH (by omega) h2.2) (hL.aM W)
 have hnl2:P.Ay.length<=1073741824:=AR aG hl.a;have a7:Hid (P.bQ aA=⟨BS aA P.Ay,(BS aA P.Ay).getLastD (aA-1),(P.puts (BS aA P.Ay)).1.length,none⟩):=rfl;generalize hZ:P.bQ aA=Z at a7 ⊢;generalize hR:P.puts (BS aA P.Ay)=R at bV a7 ⊢;generalize P.Ay=ns at *;obtain⟨f1,f2⟩:=hf;have ew:IntKind.i64.wrap (aA-1)=aA-1:=by simp[IntKind.wrap,IntKind.bits,IntKind.signed];omega
 have aP:CK (w.alloc (.cells #[A5 b,.slice none 0 0,A0 (aA-1),A0 0,.pointer none] 208)) w.heap.size b (.slice none 0 0) (aA-1) 0 (.pointer none):=BO w _;have bX:Hid (A3 Ab w (w.alloc (.cells #[A5 b,.slice none 0 0,A0 (aA-1),A0 0,.pointer none] 208))):=(A3.I _ w).ai _;have bN:=A1 (bZ.o _ bX.o);have a9:=A1 aP;have bW:Hid (w.heap.size<(w.alloc (.cells #[A5 b,.slice none 0 0,A0 (aA-1),A0 0,.pointer none] 208)).heap.size):=by unfold Hid;simp
 go_enter func99,ntmps99
 go_wp2_with (fail);refine bN.o.mono ?_;rintro e I⟨v,rfl,hv,aV,aR⟩;obtain⟨na,a5,rfl,nc1,bB⟩:=(Dp.rd hv).Cg;unfold maxLen at bB;have b1:=A1 (Dp.rd hv);have bT:=A1 (a9.o.aj aV (λh=>h));have b0:Hid (A3 Ab w I):=bX.o.Aw aV λ_ h _=>h;have Y:Hid (w.heap.size<I.heap.size):=Bq bW.o aV.Ao;have bD:Hid (∀g,(Value.slice na ns.length a5).ownBlock=some g->w.heap.size<g):=λg E=>Bq bW.o (aR g E);generalize aP:w.heap.size=d at bT Y ⊢;have aT:=A1 aP;go_wp2;go_loopw [22] (λiv wr=>∃k:Nat,iv=A0 k/\k<=ns.length/\Hid (∃lv,CK wr d b lv ((BS aA (ns.take k)).getLastD (aA-1)) 0 (.pointer none)/\DD wr lv (BS aA (ns.take k))/\(∀g,lv.ownBlock=some g->I.heap.size<=g)/\A3 Ab w wr/\A3 (One d) I wr)) (λiv _=>ns.length-(intOf iv).toNat)
 case atStart=>exact⟨0,rfl,by omega,_,bT.o,CL _ _ _ _,λg E=>by simp[Value.ownBlock]at E,b0.o,A3.I _ _⟩
 case round=>
  obtain⟨k,rfl,hk,hI⟩:=hrel;obtain⟨lv,i1,i2,i3,i4,i5⟩:=hI.o;by_cases aF:k<ns.length
  ·obtain⟨g,o,rfl,d1⟩:=GG.at b1.o k aF;have aL:=BY aF;have a4:ns.take (k+1)=ns.take k++[ns[k]'aF]:=DB aF;generalize hne:(ns[k]'aF)=nm at d1 aL a4;(have hgj:d<g:=by have:=bD.o g rfl;have:=aT.o;omega);have e1:=i5.bH d1 (λh=>by have h':g=d:=h;omega);have aI:=A1 (bY.o wr i4 nm aL);have aS:=T2 nm;have aE:Hid (BS aA (ns.take (k+1))=BS aA (ns.take k)++(if (Bg nm).1=1/\aA<=(Bg nm).2 then [(Bg nm).2] else [])):=by
    unfold Hid;rw[a4,ZT]
    congr 1
    unfold BS;by_cases W:(Bg nm).1=1/\aA<=(Bg nm).2<;>simp[W]
   generalize hX:Bg nm=X at aI aE aS;obtain⟨s,n⟩:=X;dsimp only at aI aE aS;obtain⟨r1,r2⟩:=aS;have aN:Hid ((BS aA (ns.take k)).length<=ns.length):=AR (Mn _ _) (by rw[BW];omega);have aW:=A1 i1;have aH:=A1 i2;have aJ:=A1 i3;have aM:=A1 i4;have aX:=A1 i5;(have bE:(k:Int)<(ns.length:Int):=by omega);have hk0:(0:Int)<=(k:Int):=Gv _;generalize hlg:BS aA (ns.take k)=lg at aE aN aW aH;by_cases W:s=1/\aA<=n
   case neg=>
    (have L:Hid (BS aA (ns.take (k+1))=lg):=by rw[aE.o,Ae W,FA];rfl);by_cases hs:s=1
    ·subst hs;have bM:¬aA<=n:=λh=>W ⟨rfl,h⟩;go_wp2_with (go_at_call 97;refine aI.o.mono ?_;rintro e w6⟨rfl,H⟩;have z:=A1 H);go_roundw
     case rel=>exact⟨k+1,by go_num,by omega,lv,by rw[L.o];exact aW.o.aj z.o (λh=>h),by rw[L.o];exact Az aH.o λg E=>z.o.Ap g (AI aH.o E) (λh=>h),aJ.o,aM.o.Aw z.o λ_ h _=>h,aX.o.Aw z.o λ_ h _=>h.elim⟩
     case measure=>simp[intOf];omega
    ·(have hsb:(s==1)=false:=by simpa using hs);go_wp2_with (go_at_call 97;refine aI.o.mono ?_;rintro e w6⟨rfl,H⟩;have z:=A1 H);go_roundw
     case rel=>exact⟨k+1,by go_num,by omega,lv,by rw[L.o];exact aW.o.aj z.o (λh=>h),by rw[L.o];exact Az aH.o λg E=>z.o.Ap g (AI aH.o E) (λh=>h),aJ.o,aM.o.Aw z.o λ_ h _=>h,aX.o.Aw z.o λ_ h _=>h.elim⟩
     case measure=>simp[intOf];omega
   case pos=>
    (have L:Hid (BS aA (ns.take (k+1))=lg++[n]):=by rw[aE.o,Ai W];rfl);obtain⟨rfl,bM⟩:=W;obtain⟨ap,cp,rfl,hcap1,aU,-⟩:=B9 aH.o;unfold maxLen at aU;go_wp2_with (fail);refine aI.o.mono ?_;rintro e w6⟨rfl,H⟩;have aY:=aW.o.aj H (λh=>h);have g1:=aY.c1;have a0:Hid ((w6.alloc (.cells #[A0 n] 3)).ownsRow 0 3 1 (.slice ap lg.length cp) lg.length (DO lg)):=Az aH.o λg E=>(H.ai _).Ap g (AI aH.o E) (λh=>h)
    have bA:=A1 (Src.bb (size:=1) (B:=w6.heap.size) underlying26 w6 #[A0 n] 3 (by simp) 1 1 rfl (JP [n]));have a6:=A1 (aY.aj ((A3.I Ab w6).ai (.cells #[A0 n] 3)) (λh=>h));have bU:Hid (A3 Ab wr (w6.alloc (.cells #[A0 n] 3))):=H.ai _;have c71:=a6.o.c1;go_wp2_with (at_builtin;refine D5 rfl (.tmp 42) (.tmp 44) 26 26 rfl 3 i0 _ 1 8 underlying26 hi bG bO bL rfl (by decide) (.slice ap lg.length cp) lg.length (DO lg) (by rfl) a0.o _ 1 _ (by rfl) bA.o (by have:=aN.o;omega) ?_;intro a8 aB w8 hA;have aZ:=A1 (hA.Ak (S:=λk=>(Value.slice ap lg.length cp).ownBlock=some k) λ_ h=>h);have bK:=a6.o.aj aZ.o (λh=>by have:=aJ.o _ h;have:=Y.o;omega);have g81:=bK.c1;have f81:=bK.fz 1;have bJ:=bK.s1 (.slice a8 (lg.length+1) aB);have g82:=bJ.c2;have f82:=bJ.fz 2;have a3:=A1 (bJ.s2 n);have a1:=A1 hA.AB;have bH:=A1 hA.Ck);go_roundw
    case rel=>
     (have e:(lg++[n]).length=lg.length+1:=by simp);have aO:∀g,(Value.slice a8 (lg.length+1) aB).ownBlock=some g->I.heap.size<=g:=λg E=>by
      rcases bH.o with h|h
      ·rw[h]at E;exact aJ.o g E
      ·rw[h]at E;cases E;have:=aX.o.Ao;have:=bU.o.Ao;omega
     have k8:A3 (λk=>(Value.slice ap lg.length cp).ownBlock=some k) wr w8:=(bU.o.aa λ_ _ h=>h.elim).Aw aZ.o λ_ h _=>h;have a2:A3 (λk=>k=d\/(Value.slice ap lg.length cp).ownBlock=some k) wr ((w8.setCell (Ac d 1) (.slice a8 (lg.length+1) aB)).setCell (Ac d 2) (A0 n)):=
      ((k8.aa λ_ _ h=>.inr h).aq (b:=d) (.inl rfl) 1 _).aq (b:=d) (.inl rfl) 2 _
     refine⟨k+1,by go_num,by omega,.slice a8 (lg.length+1) aB,by rw[L.o,U4];exact a3.o,?_,aO,?_,?_⟩
     ·rw[L.o];unfold DD;rw[L6,e];exact Az a1.o λg E=>by
       have h1:=aO g E;have h2:=Y.o;rw[GK _ _ _ _ (λe=>by have e':g=d:=e;omega),GK _ _ _ _ (λe=>by have e':g=d:=e;omega)]
     ·exact aM.o.Aw a2 λx O aD=>by
       have h2:=aT.o;rcases O with rfl|O
       ·omega
       ·have:=aJ.o x O;have:=Y.o;omega
     ·exact aX.o.Aw a2 λx O aD=>by
       rcases O with rfl|O
       ·rfl
       ·have:=aJ.o x O;omega
    case measure=>simp[intOf];omega
  ·(obtain rfl:k=ns.length:=by omega);rw[Cl]at i1 i2;(have bE:¬((ns.length:Int)<(ns.length:Int)):=by omega);have aQ:=A1 (bV.o wr d lv _ i4 ⟨i1,i2,.inl ⟨rfl,rfl⟩⟩);obtain⟨bS,bR⟩:=R;dsimp only at aQ a7;have aW:=A1 i1;have aH:=A1 i2;have aJ:=A1 i3;have aM:=A1 i4;have aX:=A1 i5;by_cases hr:bR=0
   case neg=>
    (have hrb:(bR !=0)=true:=by simpa using hr);go_wp2_with (go_at_call 106;refine aQ.o.mono ?_;rintro e w6⟨v,rfl,-,-,H⟩;have z:=A1 H);go_ret3;exact⟨rfl,aM.o.Aw z.o λ_ h _=>h⟩
   case pos=>
    subst hr;go_wp2_with (fail);refine aQ.o.mono ?_;rintro e w6⟨v,rfl,hv,aR,H⟩;obtain⟨va,vcap,rfl,vc1,bF,-⟩:=B9 hv;unfold maxLen at bF;have aY:=aW.o.aj H (λh=>h);have g63:=aY.c3;have f63:=aY.fz 3;have a6:=A1 (aY.s3 bS.length);have bC:=A1 hv;have aK:=A1 aR;have z:=A1 H;go_wp2;go_ret3;(have bQ:∀g,lv.ownBlock=some g->g≠d:=λg E e=>by have:=aJ.o g E;have:=Y.o;omega);have h2:=aT.o;have k7:A3 (One d) wr (w6.setCell (Ac d 3) (A0 bS.length)):=(z.o.aa (S':=One d) λ_ _ h=>h.elim).aq (b:=d) rfl 3 _;refine⟨d,lv,_,rfl,?_,?_,λx O=>?_,λg E=>?_,?_⟩
    ·rw[a7.o];exact⟨a6.o,Az aH.o λg E=>k7.Ap g (AI aH.o E) (bQ g E),.inl ⟨rfl,rfl⟩⟩
    ·exact Az bC.o λg E=>GK _ _ _ _ (λe=>by
      have e':g=d:=e;have:=aK.o g E;have:=aM.o.Ao;have:=aX.o.Ao;have:=Y.o
      omega)
    ·rcases O with rfl|O|O
     ·omega
     ·have:=aJ.o x O;have:=Y.o;omega
     ·cases O
    ·have:=aK.o g E;have:=aM.o.Ao;omega
    ·exact aM.o.Aw k7 λx O aD=>by have e':x=d:=O;omega
end
end
section
open Go.RowKit
def JI{α:Type}{l:List α}(h:l.Nodup){i j:Nat}(E:i<l.length)(z:j<l.length)(e:l[i]'E=l[j]'z):i=j:=by
 have H:=Ke.1 h;rcases PX i j with d|d|d
 ·exact absurd e (H i j E z d)
 ·exact d
 ·exact absurd e.symm (H j i z E d)
def JH{es:List AO}(h:(es.map (·.2)).Nodup){a b:AO}(d:a∈es)(E:b∈es)(e:a.2=b.2):a=b:=by
 obtain⟨i,H,rfl⟩:=DW d;obtain⟨j,z,rfl⟩:=DW E;have:i=j:=JI h (by simpa using H) (by simpa using z) (by simpa using e);subst this;rfl
def E8{es:List AO}{nm:ByteArray}{f:Nat}(h:lookup es nm=some f):(nm,f)∈es:=by
 induction es with
 | nil=>cases h
 | cons e r ih=>
  unfold lookup at h;split at h
  ·rename_i d;cases h;subst d;exact BC ..
  ·exact Bw _ (ih h)
def IV{es:List AO}{nm:ByteArray}:lookup es nm=none↔∀e∈es,e.1≠nm:=by
 induction es with
 | nil=>simp[lookup]
 | cons e r ih=>
  unfold lookup;by_cases d:e.1=nm
  ·simp[d]
  ·simp only[d,C7,ih,BQ,forall_eq_or_imp,JJ,OC,true_and]
def lookup_append(es d:List AO)(nm:ByteArray):lookup (es++d) nm=(lookup es nm).or (lookup d nm):=by
 induction es with
 | nil=>simp[lookup]
 | cons e r ih=>
  simp only[Fz,lookup];split
  ·simp
  ·exact ih
def L0(es:List AO)(p:ByteArray->Bool)(nm:ByteArray):lookup (es.filter λe=>p e.1) nm=if p nm then lookup es nm else none:=by
 induction es with
 | nil=>simp[lookup]
 | cons e r ih=>
  simp only[Fc];by_cases z:e.1=nm
  ·subst z;by_cases h:p e.1
   ·simp[h,lookup]
   ·(have d:p e.1=false:=by simpa using h);rw[d]at ih ⊢;simpa using ih
  ·by_cases h:p e.1
   ·simp only[h,Ch,lookup,z,C7,ih]
   ·(have d:p e.1=false:=by simpa using h);simp only[d,lookup,z,C7];simpa using ih
def J6(es:List AO)(nm:ByteArray):(B4 es nm<0↔lookup es nm=none):=by
 rcases IW es nm with⟨z,d⟩|⟨k,hk,z,d,h3⟩
 ·simp[z,d]
 ·simp only[z,d];exact⟨λh=>by omega,λh=>by cases h⟩
def Ub(es:List AO)(nm:ByteArray)(O:(es.map (·.1)).Nodup)(h:¬B4 es nm<0):
 es.take (B4 es nm).toNat++es.drop ((B4 es nm).toNat+1)=es.filter λe=>decide (e.1≠nm):=by
 induction es with
 | nil=>simp[B4]at h
 | cons e r ih=>
  have d:e.1∉r.map (·.1)/\(r.map (·.1)).Nodup:=by simpa using O
  unfold B4 at h ⊢;by_cases E:e.1=nm
  ·subst E;simp only[Ch,Int.toNat_zero,EV,Et,GH,DJ,Dq];rw[Kk (by simp)];rw[List.filter_eq_self.2];intro x L;simp only[Dn,JJ];rintro z;exact d.1 (z ▸ DV L)
  ·simp only[E,C7]at h ⊢;by_cases H:B4 r nm<0
   ·simp[H]at h
   ·simp only[H,C7]at h ⊢;(have I:(B4 r nm+1).toNat=(B4 r nm).toNat+1:=by omega);rw[I,Fa,DJ,Fz,ih d.2 H,IA (by simp[E])]
def RI(es:List AO)(old nm:ByteArray)(Y:(es.map (·.1)).Nodup)(h:¬B4 es old<0):
 Dm es (B4 es old).toNat nm es.length=es.filter λe=>decide (e.1≠old/\e.1≠nm):=by
 have H:∀k,k<=es.length->Dm es (B4 es old).toNat nm k=(es.take k).filter λe=>decide (e.1≠old/\e.1≠nm):=by
  intro k
  induction k with
  | zero=>intro _;simp[Dm]
  | succ k ih=>
   intro hk;(have d:k<es.length:=by omega);have z:(k=(B4 es old).toNat)↔(es[k]'d).1=old:=by
    rcases Pd es old with⟨L,_⟩|⟨m,hm,L,I⟩
    ·omega
    ·rw[L];constructor
     ·intro e;have W:k=m:=by simpa using e
      subst W;exact I
     ·intro e;have:k=m:=JI Y (by simpa using d) (by simpa using hm) (by simp[e,I]);simp[this]
   rw[DB d,LH,<-ih (by omega)];by_cases E:k≠(B4 es old).toNat/\(es[k]'d).1≠nm
   ·rw[RH es _ nm k d E,IA]
    ·simp
    ·simp only[Dn];exact⟨λe=>E.1 (z.2 e),E.2⟩
   ·rw[Ob es _ nm k d E,Kk]
    ·simp
    ·simp only[Dn];intro O;exact E ⟨λe=>O.1 (z.1 e),O.2⟩
 have:=H es.length (As _)
 rwa [Cl]at this
def NF(F:Nat->FC)(es:List AO)(p:AO->Bool):B6 F (es.filter p)<=B6 F es:=by
 induction es with
 | nil=>simp[B6]
 | cons e r ih=>
  rw[Fc];split
  ·simp only[B6];omega
  ·simp only[B6];omega
def QB(F:Nat->FC)(f:Nat)(c:FC)(es:List AO)(h:∀e∈es,e.2≠f):B6 (upd F f c) es=B6 F es:=by
 induction es with
 | nil=>simp[B6]
 | cons e r ih=>
  simp only[B6,upd,h e (BC ..),C7];rw[<-ih λx d=>h x (Bw _ d)]
def QC(F:Nat->FC)(f:Nat)(c:FC)(es:List AO)(L:(es.map (·.2)).Nodup)(h:∃e∈es,e.2=f):B6 (upd F f c) es+(F f).1.length=B6 F es+c.1.length:=by
 induction es with
 | nil=>obtain⟨e,E,_⟩:=h;cases E
 | cons e r ih=>
  have z:e.2∉r.map (·.2)/\(r.map (·.2)).Nodup:=by simpa using L
  by_cases E:e.2=f
  ·subst E;have:B6 (upd F e.2 c) r=B6 F r:=QB F _ c r λx H d=>z.1 (d ▸ DV H);simp only[B6,this];simp[upd];omega
  ·obtain⟨x,H,d⟩:=h;have I:∃x∈r,x.2=f:=by
    rcases BQ.1 H with rfl|H
    ·exact absurd d E
    ·exact⟨x,H,d⟩
   have:=ih z.2 I;simp only[B6,upd,E,C7]at this ⊢;omega
def PD.fl(P:PD)(nm:Bs):Option FC:=(lookup P.D.A4 (A9 nm)).map P.F
structure Cm (P:PD) (N R:Nat):Prop where
 AF:P.D.n.AF=false
 BX:P.D.n.BX=0
 BV:P.D.n.BV=0
 AY:0<=P.D.n.AY/\P.D.n.AY+N<=4611686018427387904
 AG:(B6 P.F P.D.A4:Int)+R<=P.D.n.AG
 Au:(P.D.A4.map (·.2)).Nodup
 Ce:(P.D.A4.map (·.1)).Nodup
section
variable {P:PD} {N R:Nat} {nm:Bs}
def Cm.aa{N' R':Nat}(h:Cm P N R)(hN:N'<=N)(hR:R'<=R):Cm P N' R':=
 ⟨h.AF,h.BX,h.BV,⟨h.AY.1,by have:=h.AY.2;omega⟩,by have:=h.AG;omega,h.Au,h.Ce⟩
def Cm.bg(h:Cm P (N+1) R):bg P.D.n=(true,0,{P.D.n with AY:=P.D.n.AY+1}):=by
 obtain⟨c1,c2⟩:=h.AY;have e:wrap64 (P.D.n.AY+1)=P.D.n.AY+1:=by unfold wrap64;omega
 unfold Go.Proofs.YtodcnkbblippnaaGreatDoor.bg;dsimp only
 rw[e,Ae (by simp[h.AF]),Ae (by rw[h.BX];omega),Ae (by rw[h.BV];omega)]
def A1N:P.fl nm=none↔lookup P.D.A4 (A9 nm)=none:=by unfold PD.fl;simp
def Mx{c:FC}(h:P.fl nm=some c):∃f,lookup P.D.A4 (A9 nm)=some f/\P.F f=c:=by
 unfold PD.fl at h;simpa using h
def SQ(h:nm≠[]):A9 nm≠ByteArray.empty:=λe=>h (by have:A9 nm=A9 []:=e;exact FY.1 this)
def Cm.ak(h:Cm P (N+1) R)(Y:P.fl nm=none)(d:nm≠[]):
 (P.ak (A9 nm)).1=0/\Cm (P.ak (A9 nm)).2 N R/\∀m,(P.ak (A9 nm)).2.fl m=if m=nm then some ([],0) else P.fl m:=by
 have O:=A1N.1 Y;have hx:¬(A9 nm=ByteArray.empty\/B4 P.D.A4 (A9 nm)≥0):=by
  rintro (h|h)
  ·exact SQ d h
  ·have:=(J6 P.D.A4 (A9 nm)).2 O;omega
 have z:∀e∈P.D.A4,e.2≠P.D.AU:=λe E W=>P.D.cz (.inl ⟨e,E,W⟩);unfold PD.ak CT;rw[Ae hx];dsimp only
 rw[h.bg];dsimp only
 rw[Ai rfl];refine⟨rfl,⟨h.AF,h.BX,h.BV,by have:=h.AY;dsimp only;omega,?_,?_,?_⟩,λm=>?_⟩
 ·have:=h.AG;dsimp only
  rw[Kz,QB _ _ _ _ z];simp only[B6,upd,Ch,Iw];omega
 ·dsimp only
  rw[Eg,GI];refine⟨h.Au,by simp,λa L b H=>?_⟩;simp at H;subst H;obtain⟨e,E,rfl⟩:=Cr.1 L;exact z e E
 ·dsimp only
  rw[Eg,GI];refine⟨h.Ce,by simp,λa L b H=>?_⟩;simp at H;subst H;obtain⟨e,E,rfl⟩:=Cr.1 L;exact(IV.1 O) e E
 ·unfold PD.fl;dsimp only
  rw[lookup_append];by_cases I:m=nm
  ·subst I;rw[O];simp[lookup,upd]
  ·have d:¬A9 nm=A9 m:=λe=>I (FY.1 e).symm;simp only[lookup,d,C7,Vj,I];cases hk:lookup P.D.A4 (A9 m) with
   | none=>rfl
   | some f=>
    have:f≠P.D.AU:=z _ (E8 hk);simp[upd,this]
def KU(l:Bs):(A9 l).size=l.length:=by simp[A9,ByteArray.size]
def Cm.an{c:FC}(h:Cm P (N+1) R)(H:P.fl nm=some c)(l:Bs)(hl:l.length<=R):
 (P.an (A9 nm) l).1=0/\Cm (P.an (A9 nm) l).2 N (R-l.length)/\∀m,(P.an (A9 nm) l).2.fl m=if m=nm then some (c.1++l,c.2) else P.fl m:=by
 obtain⟨f,z,rfl⟩:=Mx H;have hroom:=h.AG;have d:¬((A9 l).size:Int)>G2 {P.D with n:={P.D.n with AY:=P.D.n.AY+1}} P.F:=by
  unfold G2;rw[KU];dsimp only;omega
 unfold PD.an Bp;rw[z];dsimp only
 rw[h.bg];dsimp only
 rw[Ai rfl];unfold BB;rw[Ae d];dsimp only
 have I:(A9 l).data.toList.take ((A9 l).size:Int).toNat=l:=by rw[KU];simp[A9]
 rw[I];have hu:=QC P.F f ((P.F f).1++l,(P.F f).2) P.D.A4 h.Au ⟨_,E8 z,rfl⟩;refine⟨rfl,⟨h.AF,h.BX,h.BV,by have:=h.AY;dsimp only;omega,?_,h.Au,h.Ce⟩,λm=>?_⟩
 ·dsimp only
  simp only[B1]at hu;omega
 ·unfold PD.fl;dsimp only
  by_cases E:m=nm
  ·subst E;rw[z];simp[upd]
  ·rw[Ae E];cases hk:lookup P.D.A4 (A9 m) with
   | none=>rfl
   | some g=>
    have:g≠f:=λe=>E (by
     have:=JH h.Au (E8 hk) (E8 z) e
     exact FY.1 (PO this).1)
    simp[upd,this]
def Cm.ae{c:FC}(h:Cm P (N+1) R)(z:P.fl nm=some c):
 (P.ae (A9 nm)).1=0/\Cm (P.ae (A9 nm)).2 N R/\∀m,((P.ae (A9 nm)).2.fl m).map (·.1)=(P.fl m).map (·.1):=by
 obtain⟨f,d,rfl⟩:=Mx z;unfold PD.ae CG;rw[d];dsimp only
 rw[h.bg];dsimp only
 rw[Ai rfl];have hu:=QC P.F f ((P.F f).1,(P.F f).1.length) P.D.A4 h.Au ⟨_,E8 d,rfl⟩;refine⟨rfl,⟨h.AF,h.BX,h.BV,by have:=h.AY;dsimp only;omega,?_,h.Au,h.Ce⟩,λm=>?_⟩
 ·have:=h.AG;dsimp only at hu ⊢;omega
 ·unfold PD.fl;dsimp only
  cases hk:lookup P.D.A4 (A9 m) with
  | none=>rfl
  | some g=>
   by_cases e:g=f
   ·subst e;simp[upd]
   ·simp[upd,e]
def Cm.aJ(h:Cm P (N+1) R):P.aJ.1=0/\Cm P.aJ.2 N R/\∀m,P.aJ.2.fl m=P.fl m:=by
 unfold PD.aJ DK;dsimp only
 rw[h.bg];dsimp only
 rw[Ai rfl];exact⟨rfl,⟨h.AF,h.BX,h.BV,by have:=h.AY;dsimp only;omega,h.AG,h.Au,h.Ce⟩,λ_=>rfl⟩
def Cm.cu(h:Cm P (N+1) R)(_p:ByteArray->Bool)(es:List AO)(hu:B6 P.F es<=B6 P.F P.D.A4)(z:(es.map (·.2)).Nodup)(d:(es.map (·.1)).Nodup):
 Cm ⟨{P.D with A4:=es,Av:=P.D.Av++[es],n:={P.D.n with AY:=P.D.n.AY+1}},P.F⟩ N R:=
 ⟨h.AF,h.BX,h.BV,by have:=h.AY;dsimp only;omega,by have:=h.AG;dsimp only;omega,z,d⟩
def Cm.aH{c:FC}(h:Cm P (N+1) R)(H:P.fl nm=some c):
 (P.aH (A9 nm)).1=0/\Cm (P.aH (A9 nm)).2 N R/\∀m,(P.aH (A9 nm)).2.fl m=if m=nm then none else P.fl m:=by
 obtain⟨f,E,rfl⟩:=Mx H;have z:¬B4 P.D.A4 (A9 nm)<0:=λh=>by rw[J6,E]at h;cases h
 unfold PD.aH Dh;rw[Ae z];dsimp only
 rw[h.bg];dsimp only
 rw[Ai rfl,Ub _ _ h.Ce z];refine⟨rfl,h.cu (λ_=>true) _ (NF _ _ _) (h.Au.sublist (GZ.map _)) (h.Ce.sublist (GZ.map _)),λm=>?_⟩;unfold PD.fl;dsimp only
 rw[L0 P.D.A4 (λx=>decide (x≠A9 nm))];by_cases d:m=nm
 ·subst d;simp
 ·have:A9 m≠A9 nm:=λe=>d (FY.1 e);simp[this,d]
def Cm.aO{c:FC}{old:Bs}(h:Cm P (N+1) R)(h0:P.fl old=some c)(E:nm≠[])(hd:old≠nm):
 (P.aO (A9 old) (A9 nm)).1=0/\Cm (P.aO (A9 old) (A9 nm)).2 N R/\∀m,(P.aO (A9 old) (A9 nm)).2.fl m=if m=nm then some c else if m=old then none else P.fl m:=by
 obtain⟨f,Y,rfl⟩:=Mx h0;have hx:¬B4 P.D.A4 (A9 old)<0:=λh=>by rw[J6,Y]at h;cases h
 have z:=E8 Y;unfold PD.aO CV;rw[Y];dsimp only
 rw[Ae (SQ E),h.bg];dsimp only
 rw[Ai rfl,RI _ _ _ h.Ce hx];have L:(P.D.A4.filter λe=>decide (e.1≠A9 old/\e.1≠A9 nm))=(P.D.A4.filter λe=>decide (e.1≠A9 old)).filter λe=>decide (e.1≠A9 nm):=by
  rw[VD];congr 1;funext e;simp[and_comm]
 have hparts:B6 P.F (P.D.A4.filter λe=>decide (e.1≠A9 old))+(P.F f).1.length<=B6 P.F P.D.A4:=by
  have W:∀es:List AO,(A9 old,f)∈es->B6 P.F (es.filter λe=>decide (e.1≠A9 old))+(P.F f).1.length<=B6 P.F es:=by
   intro es
   induction es with
   | nil=>intro h;cases h
   | cons e r ih=>
    intro d;by_cases H:e.1=A9 old
    ·rw[Kk (by simp[H])];rcases BQ.1 d with d|d
     ·subst d;have:=NF P.F r λe=>decide (e.1≠A9 old);simp only[B6];omega
     ·have:=ih d;simp only[B6];omega
    ·rw[IA (by simp[H])];rcases BQ.1 d with d|d
     ·subst d;exact absurd rfl H
     ·have:=ih d;simp only[B6];omega
  exact W _ z
 refine⟨rfl,h.cu (λ_=>true) _ ?_ ?_ ?_,λm=>?_⟩
 ·rw[Kz,L];have:=NF P.F (P.D.A4.filter λe=>decide (e.1≠A9 old)) λe=>decide (e.1≠A9 nm);simp only[B6];omega
 ·rw[Eg,GI];refine⟨h.Au.sublist (GZ.map _),by simp,λa ha b I=>?_⟩;simp at I;subst I;obtain⟨e,H,rfl⟩:=Cr.1 ha;obtain⟨aB,aA⟩:=GX.1 H;intro aD;have:=JH h.Au aB z aD;subst this;simp at aA
 ·rw[Eg,GI];refine⟨h.Ce.sublist (GZ.map _),by simp,λa ha b I=>?_⟩;simp at I;subst I;obtain⟨e,H,rfl⟩:=Cr.1 ha;have:=(GX.1 H).2;simp at this;exact this.2
 ·unfold PD.fl;dsimp only
  rw[lookup_append,L0 P.D.A4 (λx=>decide (x≠A9 old/\x≠A9 nm))];by_cases d:m=nm
  ·subst d;simp[lookup]
  ·have E:¬A9 nm=A9 m:=λe=>d (FY.1 e).symm;have O:A9 m≠A9 nm:=λe=>d (FY.1 e);simp only[lookup,E,C7,Vj,d];by_cases ho:m=old
   ·subst ho;simp
   ·have:A9 m≠A9 old:=λe=>ho (FY.1 e);simp[this,O,ho]
end
def A1i(l:List ByteArray)(x:ByteArray):(ins l x).Perm (x::l):=by
 unfold ins;refine List.perm_middle.trans ?_;rw[DM]
def Ui(es:List AO):∀k,k<=es.length->(EJ es k).Perm ((es.take k).map (·.1)):=by
 intro k
 induction k with
 | zero=>intro _;simp[EJ]
 | succ k ih=>
  intro hk;have d:k<es.length:=by omega
  rw[MH es k d,DB d,Eg];refine(A1i _ _).trans ?_;refine((ih (by omega)).cons _).trans ?_;exact(List.perm_append_singleton _ _).symm
def Ld(es:List AO):(dList es).Perm (es.map (·.1)):=by
 have:=Ui es es.length (As _)
 rwa [Cl]at this
def PD.bs(P:PD)(nm:Bs):Option Bs:=(P.fl nm).map (·.1)
section
variable {P P':PD} {N R:Nat} {nm:Bs}
def H5:nm∈P.Ay↔P.bs nm≠none:=by
 unfold PD.Ay PD.bs PD.fl;rw[Cr];constructor
 ·rintro⟨b,z,rfl⟩;have:=(Ld P.D.A4).mem_iff.1 z;obtain⟨e,d,rfl⟩:=Cr.1 this;cases hk:lookup P.D.A4 (A9 e.1.data.toList) with
  | none=>rw[Ge]at hk;exact absurd rfl (IV.1 hk e d)
  | some f=>simp
 ·intro h;cases hk:lookup P.D.A4 (A9 nm) with
  | none=>rw[hk]at h;exact absurd rfl h
  | some f=>
   refine⟨A9 nm,(Ld P.D.A4).mem_iff.2 (Cr.2 ⟨_,E8 hk,rfl⟩),by simp[A9]⟩
def Cm.cO(h:Cm P N R):P.Ay.Nodup:=by
 unfold PD.Ay;have z:=(Ld P.D.A4).nodup_iff.2 h.Ce;rw[List.Nodup,LA];refine List.Pairwise.imp (λd e=>d ?_) z;rename_i a b;rw[<-Ge a,<-Ge b,e]
def Iq:P.bs nm=none↔P.fl nm=none:=by unfold PD.bs;simp
def Lh{c:Bs}(h:P.bs nm=some c):∃k,P.fl nm=some (c,k):=by
 unfold PD.bs at h;cases hx:P.fl nm with
 | none=>rw[hx]at h;cases h
 | some x=>rw[hx]at h;obtain⟨a,k⟩:=x;simp at h;subst h;exact⟨k,rfl⟩
def Cm.dR(h:Cm P (N+1) R)(H:P.bs nm=none)(d:nm≠[]):
 (P.ak (A9 nm)).1=0/\Cm (P.ak (A9 nm)).2 N R/\∀m,(P.ak (A9 nm)).2.bs m=if m=nm then some [] else P.bs m:=by
 obtain⟨E,z,I⟩:=h.ak (Iq.1 H) d;refine⟨E,z,λm=>?_⟩;unfold PD.bs;rw[I m];split<;>rfl
def Cm.fq{c:Bs}(h:Cm P (N+1) R)(I:P.bs nm=some c)(l:Bs)(z:l.length<=R):
 (P.an (A9 nm) l).1=0/\Cm (P.an (A9 nm) l).2 N (R-l.length)/\∀m,(P.an (A9 nm) l).2.bs m=if m=nm then some (c++l) else P.bs m:=by
 obtain⟨k,d⟩:=Lh I;obtain⟨H,E,L⟩:=h.an d l z;refine⟨H,E,λm=>?_⟩;unfold PD.bs;rw[L m];split<;>rfl
def Cm.dr{c:Bs}(h:Cm P (N+1) R)(z:P.bs nm=some c):
 (P.ae (A9 nm)).1=0/\Cm (P.ae (A9 nm)).2 N R/\∀m,(P.ae (A9 nm)).2.bs m=P.bs m:=by
 obtain⟨k,d⟩:=Lh z;exact h.ae d
def Cm.dS(h:Cm P (N+1) R):P.aJ.1=0/\Cm P.aJ.2 N R/\∀m,P.aJ.2.bs m=P.bs m:=by
 obtain⟨z,d,E⟩:=h.aJ;exact⟨z,d,λm=>by unfold PD.bs;rw[E m]⟩
def Cm.fX{c:Bs}(h:Cm P (N+1) R)(H:P.bs nm=some c):
 (P.aH (A9 nm)).1=0/\Cm (P.aH (A9 nm)).2 N R/\∀m,(P.aH (A9 nm)).2.bs m=if m=nm then none else P.bs m:=by
 obtain⟨k,d⟩:=Lh H;obtain⟨E,z,I⟩:=h.aH d;refine⟨E,z,λm=>?_⟩;unfold PD.bs;rw[I m];split<;>rfl
def Cm.fO{c:Bs}{old:Bs}(h:Cm P (N+1) R)(L:P.bs old=some c)(d:nm≠[])(z:old≠nm):
 (P.aO (A9 old) (A9 nm)).1=0/\Cm (P.aO (A9 old) (A9 nm)).2 N R/\∀m,(P.aO (A9 old) (A9 nm)).2.bs m=if m=nm then some c else if m=old then none else P.bs m:=by
 obtain⟨k,E⟩:=Lh L;obtain⟨I,H,O⟩:=h.aO E d z;refine⟨I,H,λm=>?_⟩;unfold PD.bs;rw[O m];split
 ·rfl
 ·split<;>rfl
def Ja:P.Cp nm=match P.bs nm with|some c=>(c,0)|none=>([],8):=by
 unfold PD.Cp DQ PD.bs PD.fl;cases lookup P.D.A4 (A9 nm)<;>rfl
def Uh:CH P.D P.F (A9 nm)=match P.bs nm with|some c=>((c.length:Int),0)|none=>(0,8):=by
 unfold CH PD.bs PD.fl;cases lookup P.D.A4 (A9 nm)<;>rfl
def EE(s:Nat)(l:Bs):(AT s l).length=l.length+4:=by simp[AT,Hh]
def Cm.ad{c:Bs}(h:Cm P (N+1) R)(z:P.bs nm=some c)(s:Nat)(l:Bs)(hl:l.length+4<=R):
 (P.ad (A9 nm) s l).1=true/\(P.ad (A9 nm) s l).2.1=0/\Cm (P.ad (A9 nm) s l).2.2 N (R-(l.length+4))/\∀m,(P.ad (A9 nm) s l).2.2.bs m=if m=nm then some (c++AT s l) else P.bs m:=by
 have H:=EE s l;obtain⟨I,d,E⟩:=h.fq z (AT s l) (by omega);rw[H]at d;refine⟨?_,I,d,E⟩;show Hb P.D P.F (A9 nm) (AT s l)=true;unfold Hb;have e:=@Uh (P.an (A9 nm) (AT s l)).2 nm;have L:CH (Bp P.D P.F (A9 nm) ⟨(AT s l).toArray⟩).2.1 (Bp P.D P.F (A9 nm) ⟨(AT s l).toArray⟩).2.2 (A9 nm)=CH (P.an (A9 nm) (AT s l)).2.D (P.an (A9 nm) (AT s l)).2.F (A9 nm):=rfl;rw[L,e,E nm,Uh,z];simp only[Ch,B1];simp only[Dn];omega
def Cm.aI(h:Cm P (N+3) R)(W:P.bs nm=none)(d:nm≠[])(s:Nat)(l:Bs)(I:l.length+4<=R):
 (P.aI nm s l).1=0/\Cm (P.aI nm s l).2 N (R-(l.length+4))/\∀m,(P.aI nm s l).2.bs m=if m=nm then some (AT s l) else P.bs m:=by
 obtain⟨L,O,z⟩:=Cm.dR (N:=N+2) h W d;obtain⟨-,H,Y,E⟩:=Cm.ad (N:=N+1) (nm:=nm) (c:=[]) O (by rw[z];simp) s l I;obtain⟨c1,c2,c3⟩:=Cm.dr (N:=N) (nm:=nm) (c:=AT s l) Y (by rw[E];simp);unfold PD.aI;rw[Ae (by simp[L]),Ae (by simp[H])];refine⟨c1,c2,λm=>?_⟩;rw[c3,E,z];split
 ·simp
 ·rfl
def WE(s:Nat)(l:Bs):HG s (AT s l)=some l:=by
 unfold HG;have hp:=EE s l;have d:(AT s l).length-4=l.length:=by omega
 rw[Ae (by omega),d];have z:(AT s l).take l.length=l:=by simp[AT]
 have h:(AT s l).drop l.length=Cd (AW s l):=by simp[AT]
 rw[z,h,Ai rfl]
def RR{l:Bs}(h:P.bs nm=some (AT (AH nm) l)):P.a1 nm=(l,0):=by
 unfold PD.a1;rw[Ja,h];simp[WE]
def Yz(h:P.bs nm=none):P.a1 nm=([],8):=by
 unfold PD.a1;rw[Ja,h];simp
def Cm.az:∀(l:List Bs) {P:PD},Cm P (N+l.length) R->(∀m∈l,P.bs m≠none)->(PD.az l P).1=0/\Cm (PD.az l P).2 N R/\∀m,(PD.az l P).2.bs m=P.bs m
 | [],P,h,_=>⟨rfl,h,λ_=>rfl⟩
 | x::r,P,h,hm=>by
  obtain⟨c,W⟩:=Ls.1 (hm x (BC ..));obtain⟨H,I,z⟩:=Cm.dr (N:=N+r.length) (by simpa[Nat.add_assoc] using h) W;obtain⟨E,L,O⟩:=Cm.az r I λm d=>by rw[z];exact hm m (Bw _ d)
  unfold PD.az;rw[Ae (by simp[H])];exact⟨E,L,λm=>by rw[O,z]⟩
def Cm.aL:∀(l:List Bs) {P:PD},Cm P (N+l.length) R->l.Nodup->(∀m∈l,P.bs m≠none)->(PD.aL l P).1=0/\Cm (PD.aL l P).2 N R/\∀m,(PD.aL l P).2.bs m=if m∈l then none else P.bs m
 | [],P,h,_,_=>⟨rfl,h,λm=>by simp[PD.aL]⟩
 | x::r,P,h,hn,hm=>by
  have d:=Kf.1 hn;obtain⟨c,Y⟩:=Ls.1 (hm x (BC ..));obtain⟨I,L,E⟩:=Cm.fX (N:=N+r.length) (by simpa[Nat.add_assoc] using h) Y;obtain⟨H,O,W⟩:=Cm.aL r L d.2 λm z=>by
   (have e:m≠x:=λe=>by subst e;exact d.1 z);rw[E,Ae e];exact hm m (Bw _ z)
  unfold PD.aL;rw[Ae (by simp[I])];refine⟨H,O,λm=>?_⟩;rw[W,E];by_cases e:m=x
  ·subst e;simp
  ·simp[e]
end
def TI:∀(l:List Int) (k:Nat) (r:Bs),(∀n∈l,AE n)->l.length<k->r.length<8->Gh k (l.flatMap AS++r)=l
 | [],k,r,_,_,hr=>by
  cases k with
  | zero=>rfl
  | succ k=>simp[Gh,hr]
 | n::t,k,r,hn,hk,hr=>by
  cases k with
  | zero=>simp at hk
  | succ k=>
   (have e:(n::t).flatMap AS++r=AS n++(t.flatMap AS++r):=by simp[List.append_assoc]);have d:=CP n;rw[e];unfold Gh;rw[Ae (by simp[d]),Mu n (hn n (BC ..))];rw[VF (by rw[d]),TI t k r (λx h=>hn x (Bw _ h)) (by simp at hk;omega) hr]
def J5(l:List Int):(l.flatMap AS).length=8*l.length:=by
 induction l with
 | nil=>rfl
 | cons n t ih=>rw[Nj,B1,ih,CP,Cx];omega
def A09(l:List Int)(h:∀n∈l,AE n):Ew (l.flatMap AS)=l:=by
 unfold Ew;cases l with
 | nil=>rfl
 | cons n t=>
  have:=TI (n::t) ((n::t).flatMap AS).length [] h (by rw[J5];simp) (by simp);simpa using this
structure Np (ix:Ix):Prop where
 B8:isNum ix.B8=true
 segs:∀n∈ix.segs,isNum n=true
 EN:Cz Cj ix.segs=true
def OW{n:Int}(h:isNum n=true):AE n:=by
 unfold isNum at h;simp at h;constructor<;>omega
def A1y{ix:Ix}(h:Np ix):indexOf (Ci ix.B8 ix.segs,0)=some ix:=by
 have z:Ci ix.B8 ix.segs=(ix.B8::ix.segs).flatMap AS:=by simp[Ci]
 have hall:∀n∈ix.B8::ix.segs,isNum n=true:=λn d=>by
  rcases BQ.1 d with rfl|d
  ·exact h.B8
  ·exact h.segs n d
 have e:Ew (Ci ix.B8 ix.segs)=ix.B8::ix.segs:=by
  rw[z];exact A09 _ λn d=>OW (hall n d)
 have E:(Ci ix.B8 ix.segs).length=(ix.B8::ix.segs).length*8:=by rw[z,J5];omega
 unfold indexOf;dsimp only
 rw[Ae (by decide),e,Ae (by simp[E]),Ae,Ai]
 ·simp
 ·simpa using h.EN
 ·have:(ix.B8::ix.segs).all isNum=true:=Nn.2 hall;rw[this];simp
def A1x:indexOf ([],8)=some ⟨1,[]⟩:=by simp[indexOf]
def EY(p:Pu):(Bb p.1 p.2.1 p.2.2).length=17:=by simp[Bb,CP]
def S7{p:Pu}(h:Bh p)(r:Bs):Me (Bb p.1 p.2.1 p.2.2++r)=p/\((Bb p.1 p.2.1 p.2.2++r).headD 0).toNat<8:=by
 obtain⟨a,t,v⟩:=p;obtain⟨⟨L,I⟩,z,d⟩:=h;dsimp only at L I z d ⊢;have H:=CP t;have E:((UInt8.ofNat (a % 256).toNat).toNat:Int)=a:=by
  have:(a % 256).toNat=a.toNat:=by omega
  rw[this];simp;omega
 unfold Me Bb;simp only[Fz,List.headD_cons,DJ,Dq,Cc];rw[E,Mu t z,VF (by rw[H]),Mu v d];exact⟨rfl,by omega⟩
def Ri:∀(l:List Pu) (k:Nat),(∀p∈l,Bh p)->l.length<k->EC k (Cf l)=some (l,[])
 | [],k,_,hk=>by
  cases k with
  | zero=>simp at hk
  | succ k=>simp[EC,Cf]
 | p::t,k,hp,hk=>by
  cases k with
  | zero=>simp at hk
  | succ k=>
   (have e:Cf (p::t)=Bb p.1 p.2.1 p.2.2++Cf t:=by simp[Cf]);obtain⟨z,h⟩:=S7 (hp p (BC ..)) (Cf t);have d:=EY p;rw[e];unfold EC;rw[Ae (by simp[d]),Ai h,VF (by rw[d]),Ri t k (λx E=>hp x (Bw _ E)) (by simp at hk;omega),z];rfl
def I4(l:List Pu):(Cf l).length=17*l.length:=by
 induction l with
 | nil=>rfl
 | cons p t ih=>
  have e:Cf (p::t)=Bb p.1 p.2.1 p.2.2++Cf t:=by simp[Cf]
  rw[e,B1,ih,EY,Cx];omega
def XE{l:List Pu}(h:∀p∈l,Bh p)(d:Cz Co l=true):IG (Cf l,0)=some l:=by
 unfold IG;dsimp only
 rw[Ae (by decide)];cases l with
 | nil=>simp[Cf,EC,d]
 | cons p t=>
  rw[Ri (p::t) _ h (by rw[I4];simp)];simp[d]
def E1:Nat->List Pu->Bs
 | _,[]=>[]
 | s,p::r=>AT s (Bb p.1 p.2.1 p.2.2)++E1 (AW s (Bb p.1 p.2.1 p.2.2)) r
def Hl:Nat->List Pu->Nat
 | s,[]=>s
 | s,p::r=>Hl (AW s (Bb p.1 p.2.1 p.2.2)) r
def Tm:∀(l:List Pu) (s:Nat) (p:Pu),E1 s (l++[p])=E1 s l++AT (Hl s l) (Bb p.1 p.2.1 p.2.2)/\Hl s (l++[p])=AW (Hl s l) (Bb p.1 p.2.1 p.2.2)
 | [],s,p=>by simp[E1,Hl]
 | x::r,s,p=>by
  obtain⟨h,d⟩:=Tm r (AW s (Bb x.1 x.2.1 x.2.2)) p;simp only[Fz,E1,Hl,h,d,Cc,and_self]
def IY:∀(l:List Pu) (s:Nat),(E1 s l).length=21*l.length
 | [],_=>rfl
 | p::r,s=>by
  simp only[E1,B1,EE,EY,IY r,Cx];omega
def Mc:∀(l:List Pu) (s k:Nat) (t:Bs),(∀p∈l,Bh p)->l.length<k->t.length<21->DE k s (E1 s l++t)=(l,true)
 | [],s,k,t,_,_,ht=>by simp only[E1,Et];exact RT ht
 | p::r,s,k,t,hp,hk,ht=>by
  cases k with
  | zero=>simp at hk
  | succ k=>
   have z:=hp p (BC ..);have h17:=EY p;have I:=Mc r (AW s (Bb p.1 p.2.1 p.2.2)) k t (λx L=>hp x (Bw _ L)) (by simp at hk;omega) ht;obtain⟨H,E⟩:=S7 z [];have d:Bb p.1 p.2.1 p.2.2=UInt8.ofNat (p.1 % 256).toNat::(AS p.2.1++AS p.2.2):=rfl;simp only[FA]at H E;have e:E1 s (p::r)++t=UInt8.ofNat (p.1 % 256).toNat::(AS p.2.1++AS p.2.2)++Cd (AW s (Bb p.1 p.2.1 p.2.2))++(E1 (AW s (Bb p.1 p.2.1 p.2.2)) r++t):=by
    simp only[E1,AT,d,Cc]
   rw[e,RW (by simp[CP]) (Hh _) (by rw[<-d]) (by rw[d]at E;exact E)];rw[<-d,I];have h:=H;unfold Me at h;rw[d]at h;simp only[List.headD_cons,DJ,Dq]at h;rw[h]
def E2(nm:Bs)(ahead:Int)(l:List Pu):Bs:=AT (AH nm) (AS ahead)++E1 (AW (AH nm) (AS ahead)) l
def F4(nm:Bs)(ahead:Int)(l:List Pu):Nat:=Hl (AW (AH nm) (AS ahead)) l
def IZ(nm:Bs)(ahead:Int)(l:List Pu):(E2 nm ahead l).length=12+21*l.length:=by
 unfold E2;rw[B1,EE,CP,IY]
def To(nm:Bs)(ahead:Int)(l:List Pu)(p:Pu):E2 nm ahead (l++[p])=E2 nm ahead l++AT (F4 nm ahead l) (Bb p.1 p.2.1 p.2.2)/\F4 nm ahead (l++[p])=AW (F4 nm ahead l) (Bb p.1 p.2.1 p.2.2):=by
 obtain⟨h,d⟩:=Tm l (AW (AH nm) (AS ahead)) p;unfold E2 F4;rw[h,d,Cc];exact⟨rfl,rfl⟩
def RY(nm:Bs)(ahead:Int)(l:List Pu)(t:Bs)(h:AE ahead)(d:∀p∈l,Bh p)(z:t.length<21):Ga (AH nm) ahead (E2 nm ahead l++t)=(l,0):=by
 have e:E2 nm ahead l++t=AS ahead++Cd (AW (AH nm) (AS ahead))++(E1 (AW (AH nm) (AS ahead)) l++t):=by
  simp only[E2,AT,Cc]
 rw[e,RX (CP _) (Hh _)];have E:BM (AS ahead)=ahead:=by have:=Mu ahead h [];simpa using this
 rw[Ai ⟨rfl,E⟩,Mc l _ _ t d (by rw[B1,IY];omega) z];simp
def YE(s:Nat)(ahead:Int)(t:Bs)(d:t.length<12):Ga s ahead t=([],0):=by
 unfold Ga;rw[Ai d]
section
variable {P:PD} {n ahead:Int}
def Tk{c:Bs}(h:P.bs (Ah n)=some c):P.aX n ahead=Ga (AH (Ah n)) ahead c:=by
 have d:=@Ja P (Ah n);unfold PD.Cp at d;rw[h]at d;unfold PD.aX Gz;have e:DQ P.D P.F ⟨(Ah n).toArray⟩=(c,0):=d;rw[e];simp
def A1t{ix:Ix}(h:Np ix)(d:P.bs AL=some (AT (AH AL) (Ci ix.B8 ix.segs))):P.a8=some ix:=by
 unfold PD.a8;rw[RR d,A1y h]
def A1u(d:P.bs AL=none):P.a8=some ⟨1,[]⟩:=by
 unfold PD.a8;rw[Yz d,A1x]
def XA{l:List Pu}(h:∀p∈l,Bh p)(z:Cz Co l=true)(d:P.bs (AJ n)=some (AT (AH (AJ n)) (Cf l))):P.Cy n=some l:=by
 unfold PD.Cy;rw[RR d,XE h z]
def OM{l:List Pu}{t:Bs}(d:AE ahead)(h:∀p∈l,Bh p)(z:t.length<21)(E:P.bs (Ah n)=some (E2 (Ah n) ahead l++t)):P.aX n ahead=(l,0):=by
 rw[Tk E,RY _ _ _ _ d h z]
end
def IU(n:Int):Ah n=108::(Lib.repeatL [48] (19-(Lib.itoa n).length)++Lib.itoa n):=by simp[Ah,BP,El,D9]
def Ib(n:Int):AJ n=115::(Lib.repeatL [48] (19-(Lib.itoa n).length)++Lib.itoa n):=by simp[AJ,BP,El,D9]
def Tc{lt:Bs}{a b:Int}(d:isNum a=true)(E:isNum b=true)(h:El lt a=El lt b):a=b:=by
 unfold isNum at d E;simp at d E;have z:=Ml lt (n:=a) (by omega) (by omega);have H:=Ml lt (n:=b) (by omega) (by omega);rw[h,H]at z;simpa using z.symm
def FW{a b:Int}(d:isNum a=true)(z:isNum b=true)(h:Ah a=Ah b):a=b:=Tc (lt:=D9 1) d z (by simpa[Ah,BP] using h)
def KT{a b:Int}(d:isNum a=true)(z:isNum b=true)(h:AJ a=AJ b):a=b:=Tc (lt:=D9 2) d z (by simpa[AJ,BP] using h)
def G1(a b:Int):Ah a≠AJ b:=by rw[IU,Ib];simp
def Hk(a:Int):Ah a≠AL:=by rw[IU];simp[AL]
def Jy(a:Int):AJ a≠AL:=by rw[Ib];simp[AL]
def L1(a:Int):Ah a≠Bo:=by rw[IU];simp[Bo]
def M3(a:Int):AJ a≠Bo:=by rw[Ib];simp[Bo]
def J4:AL≠Bo:=by simp[AL,Bo]
def KX{n:Int}(h:isNum n=true):Bg (Ah n)=(1,n):=by
 have d:1<=n/\n<=4611686018427387904:=by unfold isNum at h;simpa using h
 unfold Bg;have e:E7 [108] (Ah n)=some n:=by
  have:=Ml (D9 1) (n:=n) (by omega) d.2;simpa[Ah,BP,D9] using this
 rw[e]
def KZ{c d:UInt8}{r:Bs}(h:c≠d):E7 [c] (d::r)=none:=by
 cases hx:E7 [c] (d::r) with
 | none=>rfl
 | some v=>have:=(KY hx).2;simp[El]at this;exact absurd this.1 h
def OH{n:Int}(h:isNum n=true):Bg (AJ n)=(2,n):=by
 have d:1<=n/\n<=4611686018427387904:=by unfold isNum at h;simpa using h
 have e:E7 [115] (AJ n)=some n:=by
  have:=Ml (D9 2) (n:=n) (by omega) d.2;simpa[AJ,BP,D9] using this
 have z:E7 [108] (AJ n)=none:=by rw[Ib];exact KZ (by decide)
 unfold Bg H7;rw[z,e]
def T3:Bg AL=(3,0):=by
 have h:E7 [108] AL=none:=KZ (by decide);have d:E7 [115] AL=none:=KZ (by decide);unfold Bg H7;rw[h,d];simp[H6]
def ZW(a:Int):Ah a≠[]:=by rw[IU];simp
def XB(a:Int):AJ a≠[]:=by rw[Ib];simp
def EU(P:PD):Int->List (Int×List Pu)->Prop
 | _,[]=>True
 | a,x::r=>P.aX x.1 a=(x.2,0)/\EU P (a+x.2.length) r
def Ax(l:List (Int×List Pu)):List Pu:=l.flatMap (·.2)
def Vi(P:PD)(j:Jn)(cl:List (Int×List Pu)):Option (List Pu)->Prop
 | none=>j.AB=none/\j.Am=cl.map (·.1)
 | some l=>j.AB=some (j.Aa,F4 (Ah j.Aa) j.puts l)/\j.Am=cl.map (·.1)++[j.Aa]/\P.bs (Ah j.Aa)=some (E2 (Ah j.Aa) j.puts l)/\(∀p∈l,Bh p)/\isNum j.Aa=true
structure Lay (P:PD) (A:Ar) (sg cl:List (Int×List Pu)) (ol:Option (List Pu)):Prop where
 DG:Np A.ix
 ix:(P.bs AL=none/\A.ix=⟨1,[]⟩)\/P.bs AL=some (AT (AH AL) (Ci A.ix.B8 A.ix.segs))
 segs:sg.map (·.1)=A.ix.segs
 Cy:∀x∈sg,((∀p∈x.2,Bh p)/\Cz Co x.2=true)/\P.bs (AJ x.1)=some (AT (AH (AJ x.1)) (Cf x.2))
 CW:∀x∈cl,(isNum x.1=true/\x.1<=A.j.Aa)/\∀p∈x.2,Bh p
 J9:∀x∈cl,ol≠none->x.1≠A.j.Aa
 EI:(∀x∈cl,A.ix.B8<=x.1)/\(ol≠none->A.ix.B8<=A.j.Aa)
 Am:EU P 0 cl
 Gq:A.j.puts=((Ax cl).length:Int)
 AB:Vi P A.j cl ol
 EG:0<=A.j.Aa/\A.ix.B8<=A.j.Aa+1/\∀n,isNum n=true->P.bs (Ah n)≠none->n<=A.j.Aa
 Ev:0<=A.Aa/\∀n,isNum n=true->P.bs (AJ n)≠none->n<=A.Aa
 AQ:∀nm∈A.AQ,P.bs nm≠none
 H8:A.j.Am.Pairwise (· < ·)
 Ek:∀nm,P.bs nm≠none->(Bg nm).1≠0
 Hj:∀n,isNum n=true->A.ix.B8<=n->P.bs (Ah n)≠none->n∈A.j.Am
def B7(sg cl:List (Int×List Pu))(ol:Option (List Pu)):List Pu:=Ax sg++(Ax cl++ol.getD [])
section
variable {P P':PD} {A:Ar} {sg cl:List (Int×List Pu)} {ol:Option (List Pu)} {N R:Nat}
def EU.ay(d:∀m,P'.bs m=P.bs m):∀ {a:Int} {l:List (Int×List Pu)},EU P a l->EU P' a l
 | _,[],_=>trivial
 | a,x::r,h=>by
  obtain⟨E,z⟩:=h;refine⟨?_,z.ay d⟩;rw[<-E];unfold PD.aX Gz;have e:∀Q:PD,DQ Q.D Q.F ⟨(Ah x.1).toArray⟩=match Q.bs (Ah x.1) with|some c=>(c,0)|none=>([],8):=λQ=>@Ja Q (Ah x.1)
  rw[e P',e P,d]
def ZV{n:Int}(d:P'.bs (Ah n)=P.bs (Ah n))(a:Int):P'.aX n a=P.aX n a:=by
 unfold PD.aX Gz;have e:∀Q:PD,DQ Q.D Q.F ⟨(Ah n).toArray⟩=match Q.bs (Ah n) with|some c=>(c,0)|none=>([],8):=λQ=>@Ja Q (Ah n)
 rw[e P',e P,d]
def EU.bD:∀ {a:Int} {l:List (Int×List Pu)},EU P a l->(∀x∈l,P'.bs (Ah x.1)=P.bs (Ah x.1))->EU P' a l
 | _,[],_,_=>trivial
 | a,x::_,h,hb=>⟨(ZV (hb x (BC ..)) a).trans h.1,h.2.bD λy d=>hb y (Bw _ d)⟩
def EU.bU:∀ {a:Int} {l:List (Int×List Pu)} {x:Int×List Pu},EU P a l->P.aX x.1 (a+(Ax l).length)=(x.2,0)->EU P a (l++[x])
 | a,[],x,_,h=>⟨by simpa[Ax] using h,trivial⟩
 | a,y::r,x,h,h2=>⟨h.1,h.2.bU (by
  rw[<-h2];congr 1
  simp only[Ax,Nj,B1];omega)⟩
def Oi:∀ {l:List (Int×List Pu)} {d:List Pu},EU P d.length l->P.bp (l.map (·.1)) d=(d++Ax l,0)
 | [],d,_=>by simp[PD.bp,Ax]
 | x::r,d,h=>by
  obtain⟨z,E⟩:=h;simp only[He,PD.bp];rw[z];dsimp only
  rw[Ae (by simp),Oi (by simpa using E)];simp[Ax,List.append_assoc]
def ZZ{n a:Int}{l:List Pu}(h:P.aX n a=(l,0)):P.bs (Ah n)≠none:=by
 intro d;have e:DQ P.D P.F ⟨(Ah n).toArray⟩=([],8):=by have:=@Ja P (Ah n);unfold PD.Cp at this;rw[d]at this;exact this
 unfold PD.aX Gz at h;rw[e]at h;simp at h
def EU.DF:∀ {a:Int} {l:List (Int×List Pu)} {x:Int×List Pu},EU P a l->x∈l->P.bs (Ah x.1)≠none
 | a,y::r,x,h,d=>by
  rcases BQ.1 d with rfl|d
  ·exact ZZ h.1
  ·exact h.2.DF d
def Lay.dw(h:Lay P A sg cl ol)(hl:(Ax cl).length<=1099511627776):AE A.j.puts:=by rw[h.Gq];constructor<;>omega
def Lay.puts(h:Lay P A sg cl ol)(z:(Ax cl).length<=1099511627776):P.puts A.j.Am=(Ax cl++ol.getD [],0):=by
 have d:=h.AB;unfold PD.puts;cases ol with
 | none=>
  rw[d.2,Oi h.Am];simp
 | some l=>
  obtain⟨-,H,E,I,h4⟩:=d
  have L:EU P 0 (cl++[(A.j.Aa,l)]):=h.Am.bU (by
   have:=h.Gq;rw[Nq,<-this]
   exact OM (t:=[]) (h.dw z) I (by simp) (by simpa using E))
  have e:cl.map (·.1)++[A.j.Aa]=(cl++[(A.j.Aa,l)]).map (·.1):=by simp
  rw[H,e,Oi L];simp[Ax]
def Lay.b8(h:Lay P A sg cl ol):P.segs A.ix.segs=some sg:=by
 rw[<-h.segs];have d:∀l:List (Int×List Pu),(∀x∈l,x∈sg)->P.segs (l.map (·.1))=some l:=by
  intro l
  induction l with
  | nil=>intro _;rfl
  | cons x r ih=>
   intro z;obtain⟨⟨I,H⟩,L⟩:=h.Cy x (z x (BC ..));simp only[He,PD.segs];rw[XA I H L];dsimp only
   rw[ih λy E=>z y (Bw _ E)];rfl
 exact d sg λ_ h=>h
def Lay.ay(h:Lay P A sg cl ol)(d:∀m,P'.bs m=P.bs m):Lay P' A sg cl ol:=by
 refine⟨h.DG,by rw[d];exact h.ix,h.segs,λx z=>by rw[d];exact h.Cy x z,h.CW,h.J9,h.EI,h.Am.ay d,h.Gq,?_,⟨h.EG.1,h.EG.2.1,λn H z=>h.EG.2.2 n H (by rw[<-d];exact z)⟩,
  ⟨h.Ev.1,λn H z=>h.Ev.2 n H (by rw[<-d];exact z)⟩,λnm E=>by rw[d];exact h.AQ nm E,h.H8,λnm E=>h.Ek nm (by rw[<-d];exact E),λn L I O=>h.Hj n L I (by rw[<-d];exact O)⟩
 have:=h.AB;cases ol with
 | none=>exact this
 | some l=>unfold Vi at this ⊢;rw[d];exact this
def Lay.C(h:Lay P A sg cl ol)(L:Cm P (N+A.AQ.length) R):(A.C P).1=0/\(A.C P).2.1 = {A with AQ:=[]}/\Cm (A.C P).2.2 N R/\(∀m,(A.C P).2.2.bs m=P.bs m)/\Lay (A.C P).2.2 {A with AQ:=[]} sg cl ol:=by
 obtain⟨I,H,z⟩:=Cm.az A.AQ L h.AQ;have e:A.C P=(0,{A with AQ:=[]},(P.az A.AQ).2):=by unfold Ar.C;rw[Ae (by simp[I])]
 have d:=h.ay z;rw[e];exact⟨rfl,rfl,H,z,⟨d.DG,d.ix,d.segs,d.Cy,d.CW,d.J9,d.EI,d.Am,d.Gq,d.AB,d.EG,d.Ev,λnm E=>(by cases E),d.H8,d.Ek,d.Hj⟩⟩
def Lay.ax(h:Lay P A sg cl none)(hc:Cm P (N+2) R)(hn:isNum (A.j.Aa+1)=true)(hR:12<=R):
 (A.j.ax P).1=0/\Cm (A.j.ax P).2.2 N (R-12)/\Lay (A.j.ax P).2.2 {A with j:=(A.j.ax P).2.1} sg cl (some [])/\(A.j.ax P).2.1.AB≠none:=by
 obtain⟨n,O⟩:∃n,A.j.Aa+1=n:=⟨_,rfl⟩;have h0:P.bs (Ah n)=none:=by
  cases z:P.bs (Ah n) with
  | none=>rfl
  | some c=>have:=h.EG.2.2 n (O ▸ hn) (by rw[z];simp);omega
 obtain⟨a1,a2,a3⟩:=Cm.dR (N:=N+1) hc h0 (ZW n);obtain⟨-,b1,b2,b3⟩:=Cm.ad (N:=N) (nm:=Ah n) (c:=[]) a2 (by rw[a3];simp) (AH (Ah n)) (AS A.j.puts) (by rw[CP];omega);rw[CP]at b2;have I:=h.AB;have e:A.j.ax P=(0,⟨A.j.Am++[n],n,A.j.puts,some (n,AW (AH (Ah n)) (AS A.j.puts))⟩,((P.ak (A9 (Ah n))).2.ad (A9 (Ah n)) (AH (Ah n)) (AS A.j.puts)).2.2):=by
  unfold Jn.ax;rw[O,Ae (by simp[a1])];dsimp only
  rw[Ae (by simp[b1])]
 rw[e];dsimp only
 have d:∀m,m≠Ah n->((P.ak (A9 (Ah n))).2.ad (A9 (Ah n)) (AH (Ah n)) (AS A.j.puts)).2.2.bs m=P.bs m:=λm L=>by rw[b3,Ae L,a3,Ae L]
 have E:=b3 (Ah n);rw[Ai rfl,Et]at E;generalize ((P.ak (A9 (Ah n))).2.ad (A9 (Ah n)) (AH (Ah n)) (AS A.j.puts)).2.2=P2 at d E b2;have H:=O ▸ hn;have W:∀x∈cl,x.1≠n:=λx z e=>by have:=(h.CW x z).1.2;omega
 refine⟨rfl,b2,⟨h.DG,?_,h.segs,λx z=>?_,λx z=>?_,λx z _=>W x z,⟨h.EI.1,λ_=>by have:=h.EG.2.1;dsimp only;omega⟩,?_,h.Gq,?_,?_,?_,λnm L=>?_,?_,λnm L=>?_,λk h1 h2 h3=>?_⟩,by simp⟩
 ·rw[d _ (Hk n).symm];exact h.ix
 ·rw[d _ (G1 n x.1).symm];exact h.Cy x z
 ·obtain⟨⟨c1,c2⟩,c3⟩:=h.CW x z;exact⟨⟨c1,by dsimp only;omega⟩,c3⟩
 ·exact h.Am.bD λx z=>d _ λe=>W x z (FW (h.CW x z).1.1 H e)
 ·refine⟨rfl,by dsimp only;rw[I.2],?_,by simp,H⟩;dsimp only
  rw[E];simp[E2,E1]
 ·refine⟨by have:=h.EG.1;dsimp only;omega,by have:=h.EG.2.1;dsimp only;omega,λk Y z=>?_⟩;dsimp only
  by_cases e:Ah k=Ah n
  ·have:=FW Y H e;omega
  ·rw[d _ e]at z;have:=h.EG.2.2 k Y z;omega
 ·refine⟨h.Ev.1,λk Y z=>h.Ev.2 k Y ?_⟩
  rwa [d _ (G1 n k).symm]at z
 ·by_cases e:nm=Ah n
  ·subst e;rw[E];simp
  ·rw[d _ e];exact h.AQ nm L
 ·dsimp only
  refine Es.2 ⟨h.H8,by simp,λa ha b hb=>?_⟩;simp at hb;subst hb;rw[I.2]at ha;obtain⟨x,z,rfl⟩:=Cr.1 ha;have:=(h.CW x z).1.2;omega
 ·by_cases e:nm=Ah n
  ·subst e;rw[KX H];simp
  ·rw[d _ e]at L;exact h.Ek nm L
 ·dsimp only
  by_cases e:Ah k=Ah n
  ·have:=FW h1 H e;subst this;simp
  ·rw[d _ e]at h3;exact FN _ (h.Hj k h1 h2 h3)
def Lay.aw{l:List Pu}(h:Lay P A sg cl (some l))(hc:Cm P (N+1) R)(p:Pu)(hp:Bh p)(hR:21<=R):
 (A.j.aw P p).1=true/\(A.j.aw P p).2.1=0/\Cm (A.j.aw P p).2.2.2 N (R-21)/\Lay (A.j.aw P p).2.2.2 {A with j:=(A.j.aw P p).2.2.1} sg cl (some (l++[p])):=by
 obtain⟨W,h2,h3,h4,I⟩:=h.AB;obtain⟨n,hnn⟩:∃n,A.j.Aa=n:=⟨_,rfl⟩;obtain⟨b0,b1,b2,b3⟩:=Cm.ad (N:=N) hc h3 (F4 (Ah A.j.Aa) A.j.puts l) (Bb p.1 p.2.1 p.2.2) (by rw[EY];omega);rw[EY]at b2;obtain⟨q1,q2⟩:=To (Ah A.j.Aa) A.j.puts l p;unfold Jn.aw;rw[W];dsimp only
 refine⟨b0,b1,b2,?_⟩;have d:∀m,m≠Ah A.j.Aa->(P.ad (A9 (Ah A.j.Aa)) (F4 (Ah A.j.Aa) A.j.puts l) (Bb p.1 p.2.1 p.2.2)).2.2.bs m=P.bs m:=λm H=>by rw[b3,Ae H]
 have E:=b3 (Ah A.j.Aa);rw[Ai rfl]at E;generalize (P.ad (A9 (Ah A.j.Aa)) (F4 (Ah A.j.Aa) A.j.puts l) (Bb p.1 p.2.1 p.2.2)).2.2=P2 at d E b2;refine⟨h.DG,?_,h.segs,λx z=>?_,h.CW,λx z _=>h.J9 x z (by simp),⟨h.EI.1,λ_=>h.EI.2 (by simp)⟩,?_,h.Gq,⟨?_,h2,?_,?_,I⟩,⟨h.EG.1,h.EG.2.1,λk O z=>?_⟩,⟨h.Ev.1,λk O z=>?_⟩,λnm H=>?_,h.H8,λnm H=>?_,λk W Y L=>?_⟩
 ·rw[d _ (Hk _).symm];exact h.ix
 ·rw[d _ (G1 _ x.1).symm];exact h.Cy x z
 ·exact h.Am.bD λx z=>d _ λe=>h.J9 x z (by simp) (FW (h.CW x z).1.1 I e)
 ·dsimp only;rw[q2]
 ·dsimp only;rw[E,q1]
 ·intro x z;rcases AV.1 z with z|z
  ·exact h4 x z
  ·simp at z;subst z;exact hp
 ·by_cases e:Ah k=Ah A.j.Aa
  ·have:=FW O I e;show k<=A.j.Aa;omega
  ·rw[d _ e]at z;exact h.EG.2.2 k O z
 ·rw[d _ (G1 _ k).symm]at z;exact h.Ev.2 k O z
 ·by_cases e:nm=Ah A.j.Aa
  ·subst e;rw[E];simp
  ·rw[d _ e];exact h.AQ nm H
 ·by_cases e:nm=Ah A.j.Aa
  ·subst e;rw[KX I];simp
  ·rw[d _ e]at H;exact h.Ek nm H
 ·by_cases e:Ah k=Ah A.j.Aa
  ·have:=FW W I e;subst this;show A.j.Aa∈A.j.Am;rw[h2];simp
  ·rw[d _ e]at L;exact h.Hj k W Y L
def Lay.ad(h:Lay P A sg cl ol)(hc:Cm P (N+A.AQ.length+3) R)(hn:ol=none->isNum (A.j.Aa+1)=true)(p:Pu)(O:Bh p)(hR:33<=R):
 (A.ad P p).1=true/\(A.ad P p).2.1=0/\Cm (A.ad P p).2.2.2 N (R-33)/\Lay (A.ad P p).2.2.2 (A.ad P p).2.2.1 sg cl (some (ol.getD []++[p]))/\(A.ad P p).2.2.1.AQ=[]:=by
 obtain⟨s1,s2,s3,s4,s5⟩:=h.C (N:=N+3) (hc.aa (by omega) (As _));unfold Ar.ad;rw[Ae (by simp[s1])];dsimp only
 rw[s2];dsimp only
 generalize (A.C P).2.2=P1 at s3 s4 s5;cases ol with
 | none=>
  obtain⟨I,W,L,Y⟩:=Lay.ax (N:=N+1) s5 s3 (hn rfl) (by omega);dsimp only at I W L Y;obtain⟨H,E,d,z⟩:=L.aw (N:=N) W p O (by omega);dsimp only at H E d z;have e:A.j.ad P1 p=(A.j.ax P1).2.1.aw (A.j.ax P1).2.2 p:=by
   unfold Jn.ad;rw[Ai h.AB.1,Ae (by simp[I])]
  rw[e];exact⟨H,E,d.aa (As _) (by omega),z,rfl⟩
 | some l=>
  obtain⟨H,E,d,z⟩:=s5.aw (N:=N) (s3.aa (by omega) (As _)) p O (by omega);dsimp only at H E d z;have e:A.j.ad P1 p=A.j.aw P1 p:=by
   unfold Jn.ad;rw[Ae (by rw[h.AB.1];simp)]
  rw[e];exact⟨H,E,d.aa (As _) (by omega),z,rfl⟩
def Lay.ae(h:Lay P A sg cl ol)(L:Cm P (N+A.AQ.length+2) R):
 (A.ae P).1=0/\Cm (A.ae P).2.2 N R/\Lay (A.ae P).2.2 (A.ae P).2.1 sg cl ol/\(A.ae P).2.1 = {A with AQ:=[]}:=by
 obtain⟨s1,s2,s3,s4,s5⟩:=h.C (N:=N+2) (L.aa (by omega) (As _));have E:((A.C P).2.1.j.ae (A.C P).2.2).1=0/\Cm ((A.C P).2.1.j.ae (A.C P).2.2).2 (N+1) R/\∀m,((A.C P).2.1.j.ae (A.C P).2.2).2.bs m=(A.C P).2.2.bs m:=by
  rw[s2];dsimp only
  unfold Jn.ae;cases ol with
  | none=>rw[h.AB.1];exact⟨rfl,s3.aa (by omega) (As _),λ_=>rfl⟩
  | some l=>
   rw[h.AB.1];have z:=s5.AB.2.2.1;dsimp only at z;exact Cm.dr (N:=N+1) s3 z
 obtain⟨H,I,d⟩:=E;obtain⟨d1,d2,d3⟩:=Cm.dS (N:=N) I;unfold Ar.ae;rw[Ae (by simp[s1]),Ae (by simp[H])];refine⟨d1,d2,?_,s2⟩;dsimp only
 rw[s2];rw[s2]at d3 d;dsimp only at d3 d ⊢;exact s5.ay λm=>by rw[d3,d]
end
end
end Go.Proofs.YtodcnkbblippnaaGreatDoor
