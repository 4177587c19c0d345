/- Part 9 of a proof: walks of the program. -/
import Derived.Test.YtodcnkbblippnaaGreatDoorPart08
namespace Go.Proofs.YtodcnkbblippnaaGreatDoor
set_option maxRecDepth 100000
set_option maxHeartbeats 32000000
set_option linter.defProp false
open Go.Proofs.Tryz
section
open Go.RowKit
attribute [local go_sem ↓] C5
section
variable {w:World} {b B jb:Nat} {P:PD} {Ft:Nat->Prop} {a c m:Nat} {lv ov:Value} {J:Jn}
def Je(w:World)(h:B4 w b P Ft)(W:∀k,Ft k->k<w.heap.size)(hJ:Cy w jb b lv ov J)(hF:Fit P a c m)(hl:BL a c m)(hm:J.Ah.length*m<=70368744177664)(hn:∀n∈J.Ah,By n)(hL:Lets B w):
 Ac 106 #[A4 jb] w λe w'=>∃v,e=.returned (.tuple #[v,A0 (P.Ag J.Ah).2])/\AO w' v (P.Ag J.Ah).1/\(∀g,v.ownBlock=some g->w.heap.size<=g)/\A2 A7 w w':=by
 obtain⟨i0,hi,aO,aS,aR⟩:=Dr FK;have c0:=hJ.Ae.c0;have c1:=hJ.Ae.c1;have aF:=A1 (Cs.rd hJ.Ah);obtain⟨la,lcap,rfl,lc1,aL⟩:=aF.o.BU;unfold maxLen at aL;have aU:Hid (P.Ag J.Ah=P.bd J.Ah []):=rfl;generalize hR:P.Ag J.Ah=R at aU ⊢;have aY:Hid (∀w1,A2 A7 w w1->∀n∈J.Ah,∀ahead,Ac 149 #[A4 b,A0 n,A0 ahead] w1 λe w'=>∃v,e=.returned (.tuple #[v,A0 (P.aR n ahead).2])/\AO w' v (P.aR n ahead).1/\(∀g,v.ownBlock=some g->w1.heap.size<=g)/\A2 A7 w1 w'):=λw1 hc n aQ ahead=>
  Py w1 ahead (AP.au h W hc) (λk hk=>Bc (W k hk) hc.Af) (hn n aQ) (hL.ao hc) (by have h1:(D6 P.D P.F ⟨(B9 1 n).toArray⟩).1.length<=m:=Ho hF (Ai n);have:=hl.m;omega)
 have aZ:Hid (∀n ahead,(P.aR n ahead).1.length*21<=m):=λn ahead=>QE hF n ahead;have aV:=A1 hm;generalize J.Ah=Ah at *;have a0:∀k,k<=Ah.length->k*m<=70368744177664:=λk hk=>Az (GS m hk) aV.o;have aP:=A1 a0
 go_enter func106,ntmps106
 go_wp2;go_loopw [4,14] (λv iv wr=>∃(k:Nat) (d:List Pu),iv=A0 k/\k<=Ah.length/\Hid (AO wr v d/\(∀g,v.ownBlock=some g->w.heap.size<=g)/\A2 A7 w wr/\d.length*21<=k*m/\R=P.bd (Ah.drop k) d)) (λ_ iv _=>Ah.length-(intOf iv).toNat)
 case atStart=>exact⟨0,[],rfl,by omega,BW _ _ _ _,λg E=>by simp[Value.ownBlock]at E,A2.C _ _,by simp,aU.o⟩
 case round=>
  obtain⟨k,d,rfl,hk,hI⟩:=hrel;obtain⟨i1,i2,i3,i4,i5⟩:=hI.o;obtain⟨ap,cp,rfl,hcap1,Y,-⟩:=AR i1;unfold maxLen at Y;by_cases z:k<Ah.length
  ·obtain⟨g,o,rfl,d1⟩:=C4.at aF.o k z;have U:=Cx z;have aG:=EH z;generalize hne:(Ah[k]'z)=n at d1 U aG;have e1:=i3.af d1;have e0:=i3.af c0;have I:=A1 (aY.o wr i3 n U d.length);have O:=A1 (aZ.o n d.length);rw[aG]at i5;have aI:Hid (R=if (P.aR n d.length).2≠0 then ([],(P.aR n d.length).2) else P.bd (Ah.drop (k+1)) (d++(P.aR n d.length).1)):=i5;generalize hX:P.aR n d.length=X at I O aI;obtain⟨aA,aM⟩:=X;dsimp only at I O aI;have aH:=A1 i1;have aJ:=A1 i2;have aB:=A1 i3;have aT:=A1 i4;(have aN:(k:Int)<(Ah.length:Int):=by omega);have hk0:=C3 k;by_cases hx:aM=0
   case neg=>
    (have hxb:(aM !=0)=true:=by simpa using hx);(have Z:R=([],aM):=by rw[aI.o,Am hx]);subst Z;go_wp2_with (go_at_call 149;refine I.m ?_;rintro e w6⟨v,rfl,-,-,L⟩;have H:=A1 L);go_ret2;exact⟨_,rfl,BW _ _ _ _,λg E=>by simp[Value.ownBlock]at E,aB.o.tr H.o⟩
   case pos=>
    subst hx;(have aX:Hid (R=P.bd (Ah.drop (k+1)) (d++aA)):=by unfold Hid;rw[aI.o,Ad (by simp)]);have a1:=A1 (aP.o (k+1) z);go_wp2_with (fail);refine I.m ?_;rintro e w6⟨v,rfl,hv,hvo,L⟩;obtain⟨ap2,cp2,rfl,-,V,-⟩:=AR hv;unfold maxLen at V;have H:=A1 L;have aD:Hid (w6.ownsRow 0 113 3 (.slice ap d.length cp) d.length (Bv d)):=Aq aH.o λg E=>L.Ao g (Av aH.o E) (λh=>h);have aE:=A1 (Src.bo underlying97 hv (FE aA));go_wp2_with (at_builtin;refine C7 rfl (.tmp 32) (.tmp 33) 97 97 rfl 113 i0 _ 3 24 underlying97 hi aO aS aR rfl (by decide) (.slice ap d.length cp) d.length (Bv d) (by rfl) aD.o _ aA.length _ (by rfl) aE.o (by have:=O.o;have:=aT.o;have:=a1.o;rw[ID]at this;omega) ?_;intro a8 cap8 w8 hA;have aW:=A1 hA);go_roundw
    case rel=>
     have hA:=aW.o;have aK:=hA.Aj (S:=λk=>(Value.slice ap d.length cp).ownBlock=some k) λ_ h=>h;refine⟨k+1,d++aA,by go_num,by omega,?_,?_,?_,?_,aX.o⟩
     ·(have e:(d++aA).length=d.length+aA.length:=by simp);unfold AO;rw[G1,e];exact hA.AA
     ·intro g E;rcases hA.BJ with h|h
      ·rw[h]at E;exact aJ.o g E
      ·rw[h]at E;cases E;have:=aB.o.Af;have:=H.o.Af;omega
     ·exact(aB.o.tr H.o).As aK λy hy W=>by have:=aJ.o y hy;omega
     ·have:=O.o;have:=aT.o;rw[ID];simp only[B2];omega
    case measure=>simp[intOf];omega
  ·(obtain rfl:k=Ah.length:=by omega);have aH:=A1 i1;have aJ:=A1 i2;have aB:=A1 i3;(have Z:R=(d,0):=by rw[i5,Fz];rfl);subst Z;(have aN:¬((Ah.length:Int)<(Ah.length:Int)):=by omega);go_wp2;go_ret2;exact⟨_,rfl,aH.o,aJ.o,aB.o⟩
end
def I3{lt nm:Bs}{v:Int}(h:Dp lt nm=some v):(1<=v/\v<=4611686018427387904)/\D0 lt v=nm:=by
 unfold Dp at h;cases hx:Lib.atoiAll (Lib.trimPrefix nm lt) with
 | ok x=>
  rw[hx]at h;dsimp only at h;split at h
  ·rename_i d;cases h;exact⟨⟨by omega,d.2.1⟩,d.2.2⟩
  ·cases h
 | «syntax»=>rw[hx]at h;cases h
 | range=>rw[hx]at h;cases h
def Qs{nm:Bs}:(Fp nm).1≠1/\(Fp nm).1≠2:=by
 unfold Fp GB;split
 ·simp
 ·split<;>simp
def Qq{nm:Bs}(h:(Bg nm).1=1):(1<=(Bg nm).2/\(Bg nm).2<=4611686018427387904)/\Ai (Bg nm).2=nm:=by
 unfold Bg at h ⊢;cases hx:Dp [108] nm with
 | some v=>exact I3 hx
 | none=>
  rw[hx]at h;dsimp only at h;unfold FG at h;cases hy:Dp [115] nm with
  | some v=>rw[hy]at h;cases h
  | none=>rw[hy]at h;exact absurd h Qs.1
def LS(nm:Bs):AE (Bg nm).2:=by
 unfold Bg;cases hx:Dp [108] nm with
 | some v=>have:=(I3 hx).1;unfold AE;dsimp only;omega
 | none=>
  dsimp only
  unfold FG;cases hy:Dp [115] nm with
  | some v=>have:=(I3 hy).1;unfold AE;dsimp only;omega
  | none=>dsimp only;unfold Fp GB AE;split<;>(try split)<;>simp
def Qx(aA:Int)(l l':List Bs):Bn aA (l++l')=Bn aA l++Bn aA l':=by simp[Bn]
def Js(aA:Int)(l:List Bs):(Bn aA l).length<=l.length:=List.length_filterMap_le _ _
def M8{aA n:Int}{l:List Bs}(h:n∈Bn aA l):aA<=n/\(1<=n/\n<=4611686018427387904)/\Ai n∈l:=by
 obtain⟨nm,H,d⟩:=List.mem_filterMap.1 h;split at d
 ·rename_i y;cases d;obtain⟨z,E⟩:=Qq y.1;exact⟨y.2,z,by rw[E];exact H⟩
 ·cases d
def GA(P:PD):P.ad.length=P.D.A3.length:=by
 unfold PD.ad dList;rw[Gh,MJ _ _ (Aw _)]
def MC(l:List Int)(x d:Int):(l++[x]).getLastD d=x:=by
 rw[Kg];simp
def Jt{w:World}{b:Nat}{P:PD}{Ft:Nat->Prop}{a c m:Nat}(h:B4 w b P Ft)(E:Fit P a c m)(H:BL a c m):
 Calls Tryz.prog 76 #[.pointer (some ⟨b,0,none⟩)] w λe w'=>∃v,e=.returned v/\Cl w' v P.ad/\A2 (λ_=>False) w w'/\(∀g,v.ownBlock=some g->w.heap.size<=g):=by
 refine(QH h (by have:=E.A3;have:=H.a;omega)).mono ?_;rintro e w'⟨v,z,d,I,y⟩;refine⟨v,z,?_,I,y⟩;have J:=GA P;unfold Cl;rw[J];rw[Oz]at d;exact d
section
variable {w:World} {b B:Nat} {P:PD} {Ft:Nat->Prop} {a c m:Nat} {aA:Int}
def R1(w:World)(h:B4 w b P Ft)(V:∀k,Ft k->k<w.heap.size)(hF:Fit P a c m)(hl:BL a c m)(bE:a*m<=70368744177664)(hf:1<=aA/\aA<=4611686018427387904)(hL:Lets B w)(hE:Fg w)(bL:∀nm∈P.ad,nm.length<=281474976710656):
 Ac 99 #[A4 b,A0 aA] w λe w'=>
  ((P.Ag (Bn aA P.ad)).2≠0/\e=.returned (.tuple #[.pointer none,.slice none 0 0,A0 (P.Ag (Bn aA P.ad)).2])/\A2 A7 w w')\/
  ((P.Ag (Bn aA P.ad)).2=0/\∃d lv v,e=.returned (.tuple #[A4 d,v,A0 0])/\Cy w' d b lv (.pointer none) (P.bC aA)/\AO w' v (P.Ag (Bn aA P.ad)).1/\(∀k,C9 d lv (.pointer none) k->w.heap.size<=k)/\(∀g,v.ownBlock=some g->w.heap.size<=g)/\A2 A7 w w'):=by
 obtain⟨i0,hi,bC,bK,bH⟩:∃i0,Tryz.prog.info? 3=some i0/\i0.zero=some (A0 0)/\i0.size=1/\i0.bytes=8:=by
  have h:=Tryz.bS;cases J:Tryz.prog.info? 3 with
  | none=>rw[J]at h;cases h
  | some i=>rw[J]at h;simp at h;exact⟨i,rfl,h.1,h.2.1,h.2.2⟩
 have bV:Hid (∀H,A2 A7 w H->Ac 76 #[A4 b] H λe w'=>∃v,e=.returned v/\Cl w' v P.ad/\A2 A7 H w'/\(∀g,v.ownBlock=some g->H.heap.size<=g)):=λH L=>Jt (AP.au h V L) hF hl;have bU:Hid (∀H,A2 A7 w H->∀nm∈P.ad,Ac 97 #[.string ⟨nm.toArray⟩] H λe w'=>e=.returned (.tuple #[A0 (Bg nm).1,A0 (Bg nm).2])/\A2 A7 H w'):=λH L nm hm=>LR H nm (bL nm hm) (hE.ao L) (hL.ao L);have aB:P.ad.length<=a:=by rw[GA];exact hF.A3
 have bR:Hid (∀H d lv last,A2 A7 w H->Cy H d b lv (.pointer none) ⟨Bn aA P.ad,last,0,none⟩->Ac 106 #[A4 d] H λe w'=>∃v,e=.returned (.tuple #[v,A0 (P.Ag (Bn aA P.ad)).2])/\AO w' v (P.Ag (Bn aA P.ad)).1/\(∀g,v.ownBlock=some g->H.heap.size<=g)/\A2 A7 H w'):=λH d lv last L hJ=>
  Je H (AP.au h V L) (λk hk=>Bc (V k hk) L.Af) hJ hF hl (Az (GS m (Az (Js aA P.ad) aB)) bE) (λn hn=>by obtain⟨_,h2,_⟩:=M8 hn;exact Fo (by omega) h2.2) (hL.ao L)
 have hnl2:P.ad.length<=1073741824:=Az aB hl.a;have a3:Hid (P.bC aA=⟨Bn aA P.ad,(Bn aA P.ad).getLastD (aA-1),(P.Ag (Bn aA P.ad)).1.length,none⟩):=rfl;generalize hZ:P.bC aA=Z at a3 ⊢;generalize hR:P.Ag (Bn aA P.ad)=R at bR a3 ⊢;generalize P.ad=ns at *;obtain⟨f1,f2⟩:=hf;have ew:IntKind.i64.wrap (aA-1)=aA-1:=by simp[IntKind.wrap,IntKind.bits,IntKind.signed];omega
 have aL:Bz (w.alloc (.cells #[A4 b,.slice none 0 0,A0 (aA-1),A0 0,.pointer none] 208)) w.heap.size b (.slice none 0 0) (aA-1) 0 (.pointer none):=Bw w _;have bT:Hid (A2 A7 w (w.alloc (.cells #[A4 b,.slice none 0 0,A0 (aA-1),A0 0,.pointer none] 208))):=(A2.C _ w).ae _;have bJ:=A1 (bV.o _ bT.o);have a4:=A1 aL;have bS:Hid (w.heap.size<(w.alloc (.cells #[A4 b,.slice none 0 0,A0 (aA-1),A0 0,.pointer none] 208)).heap.size):=by unfold Hid;simp
 go_enter func99,ntmps99
 go_wp2_with (fail);refine bJ.o.mono ?_;rintro e H⟨v,rfl,hv,aR,aN⟩;obtain⟨na,a1,rfl,nc1,a6⟩:=(Cl.rd hv).BU;unfold maxLen at a6;have bX:=A1 (Cl.rd hv);have bP:=A1 (a4.o.Ap aR (λh=>h));have bW:Hid (A2 A7 w H):=bT.o.As aR λ_ h _=>h;have O:Hid (w.heap.size<H.heap.size):=Bc bS.o aR.Af;have a9:Hid (∀g,(Value.slice na ns.length a1).ownBlock=some g->w.heap.size<g):=λg z=>Bc bS.o (aN g z);generalize aL:w.heap.size=d at bP O ⊢;have aP:=A1 aL;go_wp2;go_loopw [22] (λiv wr=>∃k:Nat,iv=A0 k/\k<=ns.length/\Hid (∃lv,Bz wr d b lv ((Bn aA (ns.take k)).getLastD (aA-1)) 0 (.pointer none)/\Cs wr lv (Bn aA (ns.take k))/\(∀g,lv.ownBlock=some g->H.heap.size<=g)/\A2 A7 w wr/\A2 (One d) H wr)) (λiv _=>ns.length-(intOf iv).toNat)
 case atStart=>exact⟨0,rfl,by omega,_,bP.o,BW _ _ _ _,λg z=>by simp[Value.ownBlock]at z,bW.o,A2.C _ _⟩
 case round=>
  obtain⟨k,rfl,hk,hI⟩:=hrel;obtain⟨lv,i1,i2,i3,i4,i5⟩:=hI.o;by_cases Y:k<ns.length
  ·obtain⟨g,o,rfl,d1⟩:=Es.at bX.o k Y;have aH:=Cx Y;have a0:ns.take (k+1)=ns.take k++[ns[k]'Y]:=D9 Y;generalize hne:(ns[k]'Y)=nm at d1 aH a0;(have hgj:d<g:=by have:=a9.o g rfl;have:=aP.o;omega);have e1:=i5.bq d1 (λh=>by have h':g=d:=h;omega);have aE:=A1 (bU.o wr i4 nm aH);have aO:=LS nm;have W:Hid (Bn aA (ns.take (k+1))=Bn aA (ns.take k)++(if (Bg nm).1=1/\aA<=(Bg nm).2 then [(Bg nm).2] else [])):=by
    unfold Hid;rw[a0,Qx]
    congr 1
    unfold Bn;by_cases L:(Bg nm).1=1/\aA<=(Bg nm).2<;>simp[L]
   generalize hX:Bg nm=X at aE W aO;obtain⟨s,n⟩:=X;dsimp only at aE W aO;obtain⟨r1,r2⟩:=aO;have aJ:Hid ((Bn aA (ns.take k)).length<=ns.length):=Az (Js _ _) (by rw[Dg];omega);have aS:=A1 i1;have aD:=A1 i2;have aF:=A1 i3;have aI:=A1 i4;have aT:=A1 i5;(have bA:(k:Int)<(ns.length:Int):=by omega);have hk0:(0:Int)<=(k:Int):=EU _;generalize hlg:Bn aA (ns.take k)=lg at W aJ aS aD;by_cases L:s=1/\aA<=n
   case neg=>
    (have I:Hid (Bn aA (ns.take (k+1))=lg):=by rw[W.o,Ad L,EI];rfl);by_cases hs:s=1
    ·subst hs;have bI:¬aA<=n:=λh=>L ⟨rfl,h⟩;go_wp2_with (go_at_call 97;refine aE.o.mono ?_;rintro e w6⟨rfl,E⟩;have y:=A1 E);go_roundw
     case rel=>exact⟨k+1,by go_num,by omega,lv,by rw[I.o];exact aS.o.Ap y.o (λh=>h),by rw[I.o];exact Aq aD.o λg z=>y.o.Ao g (Av aD.o z) (λh=>h),aF.o,aI.o.As y.o λ_ h _=>h,aT.o.As y.o λ_ h _=>h.elim⟩
     case measure=>simp[intOf];omega
    ·(have hsb:(s==1)=false:=by simpa using hs);go_wp2_with (go_at_call 97;refine aE.o.mono ?_;rintro e w6⟨rfl,E⟩;have y:=A1 E);go_roundw
     case rel=>exact⟨k+1,by go_num,by omega,lv,by rw[I.o];exact aS.o.Ap y.o (λh=>h),by rw[I.o];exact Aq aD.o λg z=>y.o.Ao g (Av aD.o z) (λh=>h),aF.o,aI.o.As y.o λ_ h _=>h,aT.o.As y.o λ_ h _=>h.elim⟩
     case measure=>simp[intOf];omega
   case pos=>
    (have I:Hid (Bn aA (ns.take (k+1))=lg++[n]):=by rw[W.o,Am L];rfl);obtain⟨rfl,bI⟩:=L;obtain⟨ap,cp,rfl,hcap1,aQ,-⟩:=AR aD.o;unfold maxLen at aQ;go_wp2_with (fail);refine aE.o.mono ?_;rintro e w6⟨rfl,E⟩;have aU:=aS.o.Ap E (λh=>h);have g1:=aU.c1;have aW:Hid ((w6.alloc (.cells #[A0 n] 3)).ownsRow 0 3 1 (.slice ap lg.length cp) lg.length (CI lg)):=Aq aD.o λg z=>(E.ae _).Ao g (Av aD.o z) (λh=>h)
    have a5:=A1 (Src.aW (size:=1) (B:=w6.heap.size) underlying26 w6 #[A0 n] 3 (by simp) 1 1 rfl (GH [n]));have a2:=A1 (aU.Ap ((A2.C A7 w6).ae (.cells #[A0 n] 3)) (λh=>h));have bQ:Hid (A2 A7 wr (w6.alloc (.cells #[A0 n] 3))):=E.ae _;have c71:=a2.o.c1;go_wp2_with (at_builtin;refine C7 rfl (.tmp 42) (.tmp 44) 26 26 rfl 3 i0 _ 1 8 underlying26 hi bC bK bH rfl (by decide) (.slice ap lg.length cp) lg.length (CI lg) (by rfl) aW.o _ 1 _ (by rfl) a5.o (by have:=aJ.o;omega) ?_;intro a8 U w8 hA;have aV:=A1 (hA.Aj (S:=λk=>(Value.slice ap lg.length cp).ownBlock=some k) λ_ h=>h);have bG:=a2.o.Ap aV.o (λh=>by have:=aF.o _ h;have:=O.o;omega);have g81:=bG.c1;have f81:=bG.fz 1;have bF:=bG.s1 (.slice a8 (lg.length+1) U);have g82:=bF.c2;have f82:=bF.fz 2;have aZ:=A1 (bF.s2 n);have aX:=A1 hA.AA;have bD:=A1 hA.BJ);go_roundw
    case rel=>
     (have e:(lg++[n]).length=lg.length+1:=by simp);have aK:∀g,(Value.slice a8 (lg.length+1) U).ownBlock=some g->H.heap.size<=g:=λg z=>by
      rcases bD.o with h|h
      ·rw[h]at z;exact aF.o g z
      ·rw[h]at z;cases z;have:=aT.o.Af;have:=bQ.o.Af;omega
     have k8:A2 (λk=>(Value.slice ap lg.length cp).ownBlock=some k) wr w8:=(bQ.o.U λ_ _ h=>h.elim).As aV.o λ_ h _=>h;have aY:A2 (λk=>k=d\/(Value.slice ap lg.length cp).ownBlock=some k) wr ((w8.setCell (A8 d 1) (.slice a8 (lg.length+1) U)).setCell (A8 d 2) (A0 n)):=
      ((k8.U λ_ _ h=>.inr h).ak (b:=d) (.inl rfl) 1 _).ak (b:=d) (.inl rfl) 2 _
     refine⟨k+1,by go_num,by omega,.slice a8 (lg.length+1) U,by rw[I.o,MC];exact aZ.o,?_,aK,?_,?_⟩
     ·rw[I.o];unfold Cs;rw[Hi,e];exact Aq aX.o λg z=>by
       have h1:=aK g z;have h2:=O.o;rw[EV _ _ _ _ (λe=>by have e':g=d:=e;omega),EV _ _ _ _ (λe=>by have e':g=d:=e;omega)]
     ·exact aI.o.As aY λx J V=>by
       have h2:=aP.o;rcases J with rfl|J
       ·omega
       ·have:=aF.o x J;have:=O.o;omega
     ·exact aT.o.As aY λx J V=>by
       rcases J with rfl|J
       ·rfl
       ·have:=aF.o x J;omega
    case measure=>simp[intOf];omega
  ·(obtain rfl:k=ns.length:=by omega);rw[CP]at i1 i2;(have bA:¬((ns.length:Int)<(ns.length:Int)):=by omega);have aM:=A1 (bR.o wr d lv _ i4 ⟨i1,i2,.inl ⟨rfl,rfl⟩⟩);obtain⟨bO,bN⟩:=R;dsimp only at aM a3;have aS:=A1 i1;have aD:=A1 i2;have aF:=A1 i3;have aI:=A1 i4;have aT:=A1 i5;by_cases hr:bN=0
   case neg=>
    (have hrb:(bN !=0)=true:=by simpa using hr);go_wp2_with (go_at_call 106;refine aM.o.mono ?_;rintro e w6⟨v,rfl,-,-,E⟩;have y:=A1 E);go_ret3;exact⟨rfl,aI.o.As y.o λ_ h _=>h⟩
   case pos=>
    subst hr;go_wp2_with (fail);refine aM.o.mono ?_;rintro e w6⟨v,rfl,hv,aN,E⟩;obtain⟨va,vcap,rfl,vc1,bB,-⟩:=AR hv;unfold maxLen at bB;have aU:=aS.o.Ap E (λh=>h);have g63:=aU.c3;have f63:=aU.fz 3;have a2:=A1 (aU.s3 bO.length);have a7:=A1 hv;have aG:=A1 aN;have y:=A1 E;go_wp2;go_ret3;(have bM:∀g,lv.ownBlock=some g->g≠d:=λg z e=>by have:=aF.o g z;have:=O.o;omega);have h2:=aP.o;have k7:A2 (One d) wr (w6.setCell (A8 d 3) (A0 bO.length)):=(y.o.U (S':=One d) λ_ _ h=>h.elim).ak (b:=d) rfl 3 _;refine⟨d,lv,_,rfl,?_,?_,λx J=>?_,λg z=>?_,?_⟩
    ·rw[a3.o];exact⟨a2.o,Aq aD.o λg z=>k7.Ao g (Av aD.o z) (bM g z),.inl ⟨rfl,rfl⟩⟩
    ·exact Aq a7.o λg z=>EV _ _ _ _ (λe=>by
      have e':g=d:=e;have:=aG.o g z;have:=aI.o.Af;have:=aT.o.Af;have:=O.o
      omega)
    ·rcases J with rfl|J|J
     ·omega
     ·have:=aF.o x J;have:=O.o;omega
     ·cases J
    ·have:=aG.o g z;have:=aI.o.Af;omega
    ·exact aI.o.As k7 λx J V=>by have e':x=d:=J;omega
end
def JD(w:World)(jb b:Nat)(J:Jn)(P:PD)(FT:Nat->Prop):Prop:=
 ∃lv ov Ft,Cy w jb b lv ov J/\B4 w b P Ft/\(∀k,Ft k->k<w.heap.size)/\(∀k,C9 jb lv ov k->¬Ft k)/\∀k,Ft k\/C9 jb lv ov k->FT k
def JD.aq{w w':World}{jb b:Nat}{J:Jn}{P:PD}{FT:Nat->Prop}(h:JD w jb b J P FT)(z:EC FT w w')(L:w.heap.size<=w'.heap.size):JD w' jb b J P FT:=by
 obtain⟨lv,ov,Ft,I,E,O,H,y⟩:=h;exact⟨lv,ov,Ft,I.aq λk d=>z k (y k (.inr d)),E.aq λk d=>z k (y k (.inl d)),λk d=>Bc (O k d) L,H,y⟩
def Al.jd{w w':World}{jb b:Nat}{J:Jn}{P:PD}{FT S:Nat->Prop}{lv ov:Value}{Ft:Nat->Prop}(V:A2 S w w')(U:∀k,k<w.heap.size->S k->FT k)(z:Cy w' jb b lv ov J)(H:B4 w' b P Ft)(E:∀k,Ft k->k<w'.heap.size)(I:∀k,C9 jb lv ov k->¬Ft k)(L:∀k,Ft k->FT k\/w.heap.size<=k)(O:∀k,C9 jb lv ov k->FT k\/w.heap.size<=k):
 Al w FT w' (λw' d=>JD w' jb b J P d):=
 ⟨V.U U,λk=>Ft k\/C9 jb lv ov k,⟨lv,ov,Ft,z,H,E,I,λ_ h=>h⟩,λk y=>y.elim (E k) λh=>z.lt h,λk y=>y.elim (L k) (O k)⟩
def Cy.ne{w:World}{jb b:Nat}{lv ov:Value}{J:Jn}(h:Cy w jb b lv ov J){g:Nat}(d:lv.ownBlock=some g):g≠jb:=by
 obtain⟨c,y⟩:=BA h.Ah d;exact Cb y h.Ae (by decide)
def AK.bR{w:World}{lb:Nat}{p:Value}{name:ByteArray}{s n:Nat}{v:Value}{xs:List Value}(h:AK w lb 237 p name s)(d:w.ownsRow 0 3 1 v n xs){g:Nat}(y:v.ownBlock=some g):g≠lb:=by
 obtain⟨c,z⟩:=BA d y;exact Cb z h (by decide)
def AK.b9{w:World}{lb jb b:Nat}{p:Value}{name:ByteArray}{s:Nat}{lv ov:Value}{last Ag:Int}(h:AK w lb 237 p name s)(d:Bz w jb b lv last Ag ov):lb≠jb:=Cb h d (by decide)
section
variable {w:World} {b B jb lb:Nat} {P:PD} {Ft FT:Nat->Prop} {a c m:Nat} {lv ov:Value} {J:Jn} {n:Int}
def LN(w:World)(h:Cy w jb b lv ov J)(d:AE (J.A9+1)):
 Ac 199 #[A4 jb] w (Ak (A0 (J.A9+1)) λw'=>w=w'):=by
 have c2:=h.Ae.c2;obtain⟨r1,r2⟩:=d;have ew:wrap64 (J.A9+1)=J.A9+1:=by unfold wrap64;omega
 go_enter func199,ntmps199
 go_wp2;go_ret;exact⟨rfl,rfl⟩
def Qw(w:World)(W:Cy w jb b lv ov J)(hl:J.Ah.length<=1073741824):
 Ac 136 #[A4 jb] w λe w'=>∃v,e=.returned v/\Cs w' v J.Ah/\(∀g,v.ownBlock=some g->w.heap.size<=g)/\A2 A7 w w':=by
 obtain⟨d,hi,I,L,O⟩:∃d,Tryz.prog.info? 3=some d/\d.zero=some (A0 0)/\d.size=1/\d.bytes=8:=by
  have h:=Tryz.bS;cases hx:Tryz.prog.info? 3 with
  | none=>rw[hx]at h;cases h
  | some i=>rw[hx]at h;simp at h;exact⟨i,rfl,h.1,h.2.1,h.2.2⟩
 have c1:=W.Ae.c1;have y:=A1 (Src.bo underlying26 W.Ah (GH J.Ah));have z:Hid (w.ownsRow 0 3 1 (.slice none 0 0) 0 []):=BW _ _ _ _;generalize J.Ah=l at *
 go_enter func136,ntmps136
 go_wp2_with (at_builtin;refine C7 rfl (.const (.slice none 0 0)) (.tmp 6) 26 26 rfl 3 d _ 1 8 underlying26 hi I L O rfl (by decide) (.slice none 0 0) 0 [] (by rfl) z.o _ l.length _ (by rfl) y.o (by omega) ?_;intro Y cap8 w8 H;have Z:=A1 H);go_ret;have H:=Z.o;have U:=H.Aj (S:=λ_=>False) λ_ h=>by simp[Value.ownBlock]at h
 refine⟨_,rfl,?_,?_,U⟩
 ·have:=H.AA;simp only[Ej,ED]at this ⊢;exact this
 ·intro g V;have E:=H.BJ;simp only[ED]at E;cases Y with
  | none=>simp[Value.ownBlock]at V
  | some x=>
   simp[Value.ownBlock]at E V;omega
def QJ(w:World)(y:Cy w jb b lv ov J):
 Ac 201 #[A4 jb] w (Ak (.tuple #[]) λw'=>Cy w' jb b (.slice none 0 0) (.pointer none) ⟨[],J.A9,0,none⟩/\A2 (One jb) w w'):=by
 have h:=y.Ae.s1 (.slice none 0 0);have d:=h.s3 0;have z:=d.s4 (.pointer none);have c1:=y.Ae.c1;have f1:=y.Ae.fz 1;have c3:=h.c3;have f3:=h.fz 3;have c4:=d.c4;have f4:=d.fz 4;have H:=A1 z
 go_enter func201,ntmps201
 go_wp2;go_end0;exact⟨rfl,⟨H.o,BW _ _ _ _,.inl ⟨rfl,rfl⟩⟩,((((A2.C (One jb) w).ak (b:=jb) rfl 1 _).ak (b:=jb) rfl 3 _).ak (b:=jb) rfl 4 _)⟩
def Qn(w:World)(ahead:Int)(h:B4 w b P Ft)(E:∀k,Ft k->k<w.heap.size)(Y:By n)(O:Lets B w)(Z:AE ahead)(H:Fit P a c m)(z:BL (a+1) (c+1) (m+12)):
 Ac 236 #[A4 b,A0 n,A0 ahead] w λe w'=>
  ((P.al (Aa (Ai n))).1≠0/\e=.returned (.tuple #[.pointer none,A0 (P.al (Aa (Ai n))).1])/\Al w Ft w' (λw' d=>B4 w' b (P.al (Aa (Ai n))).2 d))\/
  ((P.al (Aa (Ai n))).1=0/\((P.al (Aa (Ai n))).2.aa (Aa (Ai n)) (AB (Ai n)) (AG ahead)).2.1≠0/\e=.returned (.tuple #[.pointer none,A0 ((P.al (Aa (Ai n))).2.aa (Aa (Ai n)) (AB (Ai n)) (AG ahead)).2.1])/\Al w Ft w' (λw' d=>B4 w' b ((P.al (Aa (Ai n))).2.aa (Aa (Ai n)) (AB (Ai n)) (AG ahead)).2.2 d))\/
  ((P.al (Aa (Ai n))).1=0/\((P.al (Aa (Ai n))).2.aa (Aa (Ai n)) (AB (Ai n)) (AG ahead)).2.1=0/\∃lb,e=.returned (.tuple #[A4 lb,A0 0])/\w.heap.size<=lb/\AK w' lb 237 (A4 b) ⟨(Ai n).toArray⟩ (Ay (AB (Ai n)) (AG ahead))/\
    A2 Ft w w'/\∃d,B4 w' b ((P.al (Aa (Ai n))).2.aa (Aa (Ai n)) (AB (Ai n)) (AG ahead)).2.2 d/\(∀k,d k->k<w'.heap.size)/\(∀k,d k->Ft k\/w.heap.size<=k)/\¬d lb):=by
 have y:=H.al (Aa (Ai n));have V:(Ba (AB (Ai n)) (AG ahead)).length=12:=by simp[Ba,EY,CO]
 have L:=y.aw (Aa (Ai n)) (Ba (AB (Ai n)) (AG ahead));have U:=GM L (Aa (Ai n));have I:=GM y (Aa (Ai n));have hm:=z.m;exact Qm w ahead P.D.Bq (P.al (Aa (Ai n))).2.D ((P.al (Aa (Ai n))).2.aw (Aa (Ai n)) (Ba (AB (Ai n)) (AG ahead))).2.D (P.al (Aa (Ai n))).2.F ((P.al (Aa (Ai n))).2.aw (Aa (Ai n)) (Ba (AB (Ai n)) (AG ahead))).2.F _ _ h E Y O Z P.D.b8
  (by have:=H.A3;have:=H.Aj;have:=z.a;have:=z.c;omega) rfl rfl rfl y.Bl (Az y.cT (Az (IF z.a (Az (Tc m 12) z.m)) (by decide))) y.BY
  (λf W=>by have:=y.BF f (Ea W);omega) ⟨Kn U (by rw[V];omega),Kn I (by omega)⟩
def T3(p:Pu)(name:ByteArray)(s:Nat)(I:AK w lb 237 (A4 b) name s)(hs:s<4294967296)(h:B4 w b P Ft)(y:∀k,Ft k->k<w.heap.size)(hn:¬Ft lb)(Y:Cw p)(d:Fit P a c m)(L:BL a c (m+21)):
 Ac 191 #[A4 lb,CH p] w (Ak (.tuple #[.bool (P.aa name s (AW p.1 p.2.1 p.2.2)).1,A0 (P.aa name s (AW p.1 p.2.1 p.2.2)).2.1]) λw'=>
  AK w' lb 237 (A4 b) name (Ay s (AW p.1 p.2.1 p.2.2))/\Gl w Ft lb w' b (P.aa name s (AW p.1 p.2.1 p.2.2)).2.2):=by
 obtain⟨⟨U,h2⟩,Z,O⟩:=Y;have E:(Ba s (AW p.1 p.2.1 p.2.2)).length=21:=by simp[Ba,EY,Jj]
 have V:=d.aw name (Ba s (AW p.1 p.2.1 p.2.2));have W:=GM V name;have H:=GM d name;have hm:=L.m;have z:BL a c m:=⟨L.a,L.c,by omega⟩;exact T2 w lb name s p.1 p.2.1 p.2.2 ⟨U,by omega⟩ Z O I hs h y hn d.Bl (d.cH z) d.BY (λf I=>by have:=d.BF f (Ea I);omega) ⟨Kn W (by rw[E];omega),Kn H (by omega)⟩
end
def JE:∃d,Tryz.prog.info? 3=some d/\d.zero=some (A0 0)/\d.size=1/\d.bytes=8:=by
 have h:=Tryz.bS;cases hx:Tryz.prog.info? 3 with
 | none=>rw[hx]at h;cases h
 | some i=>rw[hx]at h;simp at h;exact⟨i,rfl,h.1,h.2.1,h.2.2⟩
section
variable {w:World} {b B jb lb:Nat} {P:PD} {Ft FT:Nat->Prop} {a c m:Nat} {lv ov:Value} {J:Jn} {n:Int}
def SH(w:World)(h:JD w jb b J P FT)(ho:J.AA=none)(hn:By (J.A9+1))(hr:AE (J.A9+1))(hp:AE J.Ag)(bC:J.Ah.length<=1073741824)(hL:Lets B w)(hF:Fit P a c m)(hl:BL (a+1) (c+1) (m+12)):
 Ac 190 #[A4 jb] w (Ak (A0 (J.av P).1) λw'=>Al w FT w' (λw' aS=>JD w' jb b (J.av P).2.1 (J.av P).2.2 aS)):=by
 obtain⟨i0,hi,bK,bV,bS⟩:=JE;obtain⟨lv,ov,Ft,hJ,hD,aR,aL,aM⟩:=h;have bM:ov=.pointer none:=by
  rcases hJ.AA with⟨_,h⟩|⟨n,s,lb,h,_⟩
  ·exact h
  ·rw[ho]at h;cases h
 subst bM
 have aB:Hid (J.av P=if (P.al (Aa (Ai (J.A9+1)))).1≠0 then ((P.al (Aa (Ai (J.A9+1)))).1,J,(P.al (Aa (Ai (J.A9+1)))).2) else
  if ((P.al (Aa (Ai (J.A9+1)))).2.aa (Aa (Ai (J.A9+1))) (AB (Ai (J.A9+1))) (AG J.Ag)).2.1≠0 then (((P.al (Aa (Ai (J.A9+1)))).2.aa (Aa (Ai (J.A9+1))) (AB (Ai (J.A9+1))) (AG J.Ag)).2.1,J,((P.al (Aa (Ai (J.A9+1)))).2.aa (Aa (Ai (J.A9+1))) (AB (Ai (J.A9+1))) (AG J.Ag)).2.2) else
  (0,⟨J.Ah++[J.A9+1],J.A9+1,J.Ag,some (J.A9+1,Ay (AB (Ai (J.A9+1))) (AG J.Ag))⟩,((P.al (Aa (Ai (J.A9+1)))).2.aa (Aa (Ai (J.A9+1))) (AB (Ai (J.A9+1))) (AG J.Ag)).2.2)):=rfl
 have aI:Hid (∀w1,A2 A7 w w1->_):=λw1 W=>Qn w1 J.Ag (AP.au hD aR W) (λk d=>Bc (aR k d) W.Af) hn (hL.ao W) hp hF hl;have bR:Hid (∀w1,A2 A7 w w1->_):=λw1 W=>LN w1 (hJ.an W) hr;generalize hR:J.av P=R at aB ⊢;obtain⟨L,aZ⟩:∃L,J.A9+1=L:=⟨_,rfl⟩;rw[aZ]at aB aI bR hr hn;have aH:(Ai L).length<=100:=LK hn.2.2;obtain⟨nm,aP⟩:∃nm,Ai L=nm:=⟨_,rfl⟩;rw[aP]at aB aI;obtain⟨s0,aT⟩:∃s0,AB nm=s0:=⟨_,rfl⟩;have aK:s0<4294967296:=by rw[<-aT];exact Gr nm
 rw[aT]at aB aI;obtain⟨C,hC⟩:∃C,P.al (Aa nm)=C:=⟨_,rfl⟩;rw[hC]at aB aI;obtain⟨A,hA⟩:∃A,C.2.aa (Aa nm) s0 (AG J.Ag)=A:=⟨_,rfl⟩;rw[hA]at aB aI;have bA:Ay s0 (AG J.Ag)<4294967296:=Gn _ _ aK;obtain⟨s1,aJ⟩:∃s1,Ay s0 (AG J.Ag)=s1:=⟨_,rfl⟩;rw[aJ]at aB aI bA;have c0:=hJ.Ae.I.c0;have c3:=hJ.Ae.I.c3;have bD:=A1 hJ;have a2:=A1 aL;have aF:=A1 aM;have HO:=A1 ho;have aN:=A1 aZ;have bO:=A1 aP;have a6:=A1 bC;have aY:=A1 (bR.o w.drew (A2.C _ w).I);have aA:=A1 (aI.o w.drew (A2.C _ w).I);clear hC hA hR aT aK aJ aH aP aZ hJ hD aR aL aM ho bC hL hF hl hp bR aI;have z:Hid (∀wx,A2 Ft w.drew wx->Cy wx jb b lv (.pointer none) J):=λwx O=>(bD.o.an (A2.C A7 w).I).Aj O a2.o
 have aD:Hid (∀wx (bN:PD),Al w.drew Ft wx (λw' y=>B4 w' b bN y)->Al w FT wx (λw' aS=>JD w' jb b J bN aS)):=λwx bN O=>by
  obtain⟨r1,y,r2,r3,r4⟩:=O;exact Al.jd ((A2.C Ft w).I.tr r1) (λk _ d=>aF.o k (.inl d)) (z.o wx r1) r2 r3 (λk d O=>by rcases r4 k O with h|h;exact a2.o k d h;have:=bD.o.lt d;have h':w.heap.size<=k:=h;omega) (λk d=>(r4 k d).imp (λh=>aF.o k (.inl h)) id) (λk d=>.inl (aF.o k (.inr d)))
 by_cases W:C.1=0
 case neg=>
  have aE:R=(C.1,J,C.2):=by rw[aB.o,Am W]
  subst aE;have E:Hid (Ac 236 #[A4 b,A0 L,A0 J.Ag] w.drew (Ak (.tuple #[.pointer none,A0 C.1]) λw'=>Al w.drew Ft w' (λw' y=>B4 w' b C.2 y))):=by
   refine aA.m ?_;rintro e w' (⟨_,h2,h3⟩|⟨h1,_⟩|⟨h1,_⟩)
   ·exact⟨h2,h3⟩
   ·exact absurd h1 W
   ·exact absurd h1 W
  have aX:(C.1 !=0)=true:=by simpa using W
  obtain⟨C1,b4⟩:=C;dsimp only at E aX ⊢;clear aA aB
  go_enter func190,ntmps190
  go_wp2;refine BH (λw'=>A5 w' jb 0 (A4 b)/\A5 w' jb 3 (A0 J.Ag)) 15
   (Bj [0,1,2,3,4,6,7,8,9,5,10,11,12,13,14] [5,10]) ⟨c0,c3⟩ ?_
  iterate 9 (refine B5 ?_;(try simp only[An]))
  refine B7 λK H=>?_;go_simp;refine aY.m ?_;rintro e w3⟨rfl,rfl⟩;refine H _ _ ⟨c0,c3⟩ (λhS=>?_);clear H K hS
  (try simp only[An])
  refine B7 λK H=>?_;go_simp;refine E.m ?_;rintro e Z⟨rfl,hI⟩;have Y:=z.o Z hI.1;refine H _ _ ⟨Y.Ae.c0,Y.Ae.c3⟩ (λhS=>?_);have bP:=A1 (aD.o Z b4 hI);clear H K hS hI Y E aD z
  (try simp only[An])
  iterate 4 (refine B5 ?_;(try simp only[An]))
  refine Bd ?_;simp only[BD,BC];go_wp2;go_ret;exact⟨rfl,bP.o⟩
 case pos=>
 by_cases ha:A.2.1=0
 case neg=>
  have aE:R=(A.2.1,J,A.2.2):=by rw[aB.o,Ad (by simpa using W),Am ha]
  subst aE;have E:Hid (Ac 236 #[A4 b,A0 L,A0 J.Ag] w.drew (Ak (.tuple #[.pointer none,A0 A.2.1]) λw'=>Al w.drew Ft w' (λw' y=>B4 w' b A.2.2 y))):=by
   refine aA.m ?_;rintro e w' (⟨h1,_⟩|⟨_,_,h2,h3⟩|⟨_,h1,_⟩)
   ·exact absurd W h1
   ·exact⟨h2,h3⟩
   ·exact absurd h1 ha
  have aX:(A.2.1 !=0)=true:=by simpa using ha
  obtain⟨b2,b1,bZ⟩:=A;dsimp only at E aX ⊢;clear aA aB
  go_enter func190,ntmps190
  go_wp2;refine BH (λw'=>A5 w' jb 0 (A4 b)/\A5 w' jb 3 (A0 J.Ag)) 15
   (Bj [0,1,2,3,4,6,7,8,9,5,10,11,12,13,14] [5,10]) ⟨c0,c3⟩ ?_
  iterate 9 (refine B5 ?_;(try simp only[An]))
  refine B7 λK H=>?_;go_simp;refine aY.m ?_;rintro e w3⟨rfl,rfl⟩;refine H _ _ ⟨c0,c3⟩ (λhS=>?_);clear H K hS
  (try simp only[An])
  refine B7 λK H=>?_;go_simp;refine E.m ?_;rintro e Z⟨rfl,hI⟩;have Y:=z.o Z hI.1;refine H _ _ ⟨Y.Ae.c0,Y.Ae.c3⟩ (λhS=>?_);have bP:=A1 (aD.o Z bZ hI);clear H K hS hI Y E aD z
  (try simp only[An])
  iterate 4 (refine B5 ?_;(try simp only[An]))
  refine Bd ?_;simp only[BD,BC];go_wp2;go_ret;exact⟨rfl,bP.o⟩
 case pos=>
  have aE:R=(0,⟨J.Ah++[L],L,J.Ag,some (L,s1)⟩,A.2.2):=by rw[aB.o,Ad (by simpa using W),Ad (by simpa using ha)]
  subst aE;have E:Hid (Ac 236 #[A4 b,A0 L,A0 J.Ag] w.drew λe w'=>∃lb,e=.returned (.tuple #[A4 lb,A0 0])/\w.drew.heap.size<=lb/\AK w' lb 237 (A4 b) ⟨nm.toArray⟩ s1/\A2 Ft w.drew w'/\∃y,B4 w' b A.2.2 y/\(∀k,y k->k<w'.heap.size)/\(∀k,y k->Ft k\/w.drew.heap.size<=k)/\¬y lb):=by
   refine aA.m ?_;rintro e w' (⟨h1,_⟩|⟨_,h1,_⟩|⟨_,_,h2⟩)
   ·exact absurd W h1
   ·exact absurd ha h1
   ·exact h2
  obtain⟨b2,b1,bZ⟩:=A;dsimp only at E ⊢;clear aA aB aD
  go_enter func190,ntmps190
  go_wp2;refine BH (λw'=>A5 w' jb 0 (A4 b)/\A5 w' jb 3 (A0 J.Ag)) 15
   (Bj [0,1,2,3,4,6,7,8,9,5,10,11,12,13,14] [5,10]) ⟨c0,c3⟩ ?_
  iterate 9 (refine B5 ?_;(try simp only[An]))
  refine B7 λK H=>?_;go_simp;refine aY.m ?_;rintro e w3⟨rfl,rfl⟩;refine H _ _ ⟨c0,c3⟩ (λhS=>?_);clear H K hS
  (try simp only[An])
  refine B7 λK H=>?_;go_simp;refine E.m ?_;rintro e Z⟨lb,rfl,aH,a4,aV,bF,q1,q2,q3,q4⟩;have Y:=z.o Z aV;refine H _ _ ⟨Y.Ae.c0,Y.Ae.c3⟩ (λhS=>?_);have a1:=A1 Y;have bJ:Hid (w.heap.size<=lb):=aH;have aU:=A1 a4;have bX:Hid (A2 Ft w Z):=(A2.C Ft w).I.tr aV;have b9:=A1 q1;have bW:=A1 q2;have bG:Hid (∀k,bF k->Ft k\/w.heap.size<=k):=q3;have b0:=A1 q4;clear H K hS aV aH a4 q1 q2 q3 q4 E z
  (try simp only[An])
  iterate 4 (refine B5 ?_;(try simp only[An]))
  refine Bd ?_;simp only[BD,BC];have b5:=a1.o.Ae.s4 (A4 lb);have g44:=Y.Ae.c4;have f44:=Y.Ae.fz 4;have g52:=b5.c2;have f52:=b5.fz 2;have bH:=A1 (b5.s2 L);have ew:wrap64 (J.A9+1)=L:=by have:=aN.o;have:=hr.1;have:=hr.2;unfold wrap64;omega
  have ew2:IntKind.i64.wrap (J.A9+1)=L:=by have:=aN.o;have:=hr.1;have:=hr.2;simp[IntKind.wrap,IntKind.bits,IntKind.signed];omega
  have c5:A2 (One jb) Z ((Z.setCell (A8 jb 4) (A4 lb)).setCell (A8 jb 2) (A0 L)):=((A2.C (One jb) Z).ak (b:=jb) rfl 4 _).ak (b:=jb) rfl 2 _;have a3:=A1 c5;clear b5 Y c5;have a9:Hid (lb≠jb):=aU.o.b9 a1.o.Ae;have aG:Hid (∀g,lv.ownBlock=some g->g≠jb/\g≠lb):=λg U=>⟨a1.o.ne U,aU.o.bR a1.o.Ah U⟩
  go_wp2;generalize (Z.setCell (A8 jb 4) (A4 lb)).setCell (A8 jb 2) (A0 L)=w6 at bH a3 ⊢;have aW:Hid (w6.ownsRow 0 3 1 lv J.Ah.length (CI J.Ah)):=Aq a1.o.Ah λg U=>a3.o.Ao g (Av a1.o.Ah U) (aG.o g U).1;have bQ:=A1 (aU.o.Ap a3.o a9.o);have b3:=bH.o.I.c1;have b7:=bH.o.I.c2;obtain⟨ap,cp,rfl,hcap1,a0,-⟩:=AR aW.o;unfold maxLen at a0;refine BH (λw'=>A5 w' jb 1 (.slice ap J.Ah.length cp)/\A5 w' jb 2 (A0 L)) 11
   (Bj [0,1,2,3,4,5,6,7,8,9,10] [9,10]) ⟨b3,b7⟩ ?_
  iterate 9 (refine B5 ?_;(try simp only[An]))
  refine B7 λK H=>?_;go_simp;have ka:A2 A7 w6 (w6.aC #[A0 L] 3).drew:=((A2.C _ _).ae _).I;have bI:=bH.o.Ap ka (λh=>h);have bU:Hid ((w6.aC #[A0 L] 3).drew.ownsRow 0 3 1 (.slice ap J.Ah.length cp) J.Ah.length (CI J.Ah)):=Aq aW.o λg U=>ka.Ao g (Av aW.o U) (λh=>h);have bE:Hid (Src Tryz.prog 1 26 (AH w6.heap.size 1 1) 1 #[A0 L].toList (w6.aC #[A0 L] 3).drew):=by
   have hb:(w6.aC #[A0 L] 3).drew.heap[w6.heap.size]?=some (.cells #[A0 L] 3 (0,0)):=Bw w6 _;exact Src.bJ underlying26 hb 1 1 rfl (GH [L])
  refine H _ _ ⟨bI.c1,bI.c2⟩ (λhS=>?_)
  (try simp only[An])
  refine Em rfl (by rfl) (λK H=>?_);refine H0 (.tmp 37) (.tmp 42) 26 26 rfl 3 i0 _ 1 8 underlying26 hi bK bV bS rfl (by decide) (.slice ap J.Ah.length cp) J.Ah.length (CI J.Ah) (by rfl) bU.o _ 1 _ (by rfl) bE.o (by have:=a6.o;omega) ?_;intro a8 I w8 hA;have aO:=hA.Aj (S:=λk=>(Value.slice ap J.Ah.length cp).ownBlock=some k) λ_ h=>h;have a5:=bI.Ap aO (λh=>(aG.o _ h).1 rfl);refine H _ _ ⟨a5.c1,a5.c2⟩ (λhS=>?_);have g81:=a5.c1;have f81:=a5.fz 1;have b6:=A1 (a5.s1 (.slice a8 (J.Ah.length+1) I));have bT:=A1 ((bQ.o.Ap ka (λh=>h)).Ap aO (λh=>(aG.o _ h).2 rfl));have a7:=A1 hA.AA;have bL:=A1 hA.BJ;have bY:Hid (A2 (λk=>(Value.slice ap J.Ah.length cp).ownBlock=some k) w6 w8):=(ka.U λ_ _ h=>h.elim).tr aO;have b8:Hid (w6.heap.size<=w8.heap.size/\w6.heap.size<=(w6.aC #[A0 L] 3).drew.heap.size):=⟨bY.o.Af,ka.Af⟩
  (try simp only[An])
  refine Bd ?_;simp only[BD,BC];go_wp2;go_ret;have V:∀g,(Value.slice a8 (J.Ah.length+1) I).ownBlock=some g->(Value.slice ap J.Ah.length cp).ownBlock=some g\/w6.heap.size<=g:=λg U=>by
   rcases bL.o with h|h
   ·rw[h]at U;exact .inl U
   ·rw[h]at U;cases U;exact .inr b8.o.2
  have s46:=a3.o.Af;have s04:=bX.o.Af;have jbl:=bD.o.Ae.lt;have bB:∀g,(Value.slice a8 (J.Ah.length+1) I).ownBlock=some g->g≠jb:=λg U=>by
   rcases V g U with h|h
   ·exact(aG.o g h).1
   ·omega
  have kf:A2 (One jb) w8 (w8.setCell (A8 jb 1) (.slice a8 (J.Ah.length+1) I)):=(A2.C (One jb) w8).ak (b:=jb) rfl 1 _;have aQ:A2 (λk=>k=jb\/(Value.slice ap J.Ah.length cp).ownBlock=some k) Z (w8.setCell (A8 jb 1) (.slice a8 (J.Ah.length+1) I)):=
   ((a3.o.U λ_ _ h=>.inl h).As bY.o λ_ h _=>.inr h).As kf λ_ h _=>.inl h
  refine⟨rfl,Al.jd (lv:=.slice a8 (J.Ah.length+1) I) (ov:=(A4 lb)) (Ft:=bF) ((bX.o.U (S':=λk=>Ft k\/k=jb\/(Value.slice ap J.Ah.length cp).ownBlock=some k) λ_ _ h=>.inl h).As aQ λ_ h _=>.inr h) ?_ ⟨b6.o,?_,.inr ⟨L,s1,lb,rfl,rfl,?_,bA⟩⟩ ?_ ?_ ?_ ?_ ?_⟩
  ·rintro k _ (h|rfl|h)
   ·exact aF.o k (.inl h)
   ·exact aF.o _ (.inr (.inl rfl))
   ·exact aF.o k (.inr (.inr (.inl h)))
  ·(have e:(J.Ah++[L]).length=J.Ah.length+1:=by simp);unfold Cs;rw[Hi,e];exact Aq a7.o λg U=>EV _ _ _ _ (λe=>bB g U e)
  ·rw[bO.o];exact bT.o.Ap kf a9.o
  ·refine AP.aq b9.o (aQ.au bW.o λk d O=>?_);rcases bG.o k d with h|h
   ·rcases O with rfl|O
    ·exact a2.o _ (.inl rfl) h
    ·exact a2.o k (.inr (.inl O)) h
   ·rcases O with rfl|O
    ·omega
    ·have:=Av bD.o.Ah O;omega
  ·exact λk d=>Bc (bW.o k d) aQ.Af
  ·rintro k (rfl|d|d) O
   ·rcases bG.o _ O with h|h
    ·exact a2.o _ (.inl rfl) h
    ·omega
   ·rcases V k d with h|h
    ·rcases bG.o k O with h' | h'
     ·exact a2.o k (.inr (.inl h)) h'
     ·have:=Av bD.o.Ah h;omega
    ·have:=bW.o k O;omega
   ·cases d;exact b0.o O
  ·exact λk d=>(bG.o k d).imp (λh=>aF.o k (.inl h)) id
  ·rintro k (rfl|d|d)
   ·exact .inl (aF.o _ (.inr (.inl rfl)))
   ·rcases V k d with h|h
    ·exact .inl (aF.o k (.inr (.inr (.inl h))))
    ·exact .inr (by omega)
   ·cases d;exact .inr bJ.o
end
def Jy{w:World}{jb b:Nat}{lv ov:Value}{J:Jn}(h:Cy w jb b lv ov J){n:Int}{s:Nat}(y:J.AA=some (n,s)):∃lb,ov=(A4 lb)/\AK w lb 237 (A4 b) ⟨(Ai n).toArray⟩ s/\s<4294967296:=by
 rcases h.AA with⟨d,_⟩|⟨n',s',lb,d,z,H,E⟩
 ·rw[y]at d;cases d
 ·rw[y]at d;cases d;exact⟨lb,z,H,E⟩
section
variable {w w' w1 w2:World} {b B jb lb pb:Nat} {P:PD} {Ft FT:Nat->Prop} {a c m:Nat} {lv ov:Value} {J:Jn} {n:Int} {s:Nat}
def Cy.dw{P':PD}(z:Cy w jb b lv (.pointer (some ⟨lb,0,none⟩)) J)(Z:J.AA=some (n,s))(_hlt:∀k,Ft k->k<w.heap.size)(y:∀k,C9 jb lv (.pointer (some ⟨lb,0,none⟩)) k->¬Ft k)(d:∀k,Ft k\/C9 jb lv (.pointer (some ⟨lb,0,none⟩)) k->FT k){s':Nat}(I:s'<4294967296)(Y:AK w' lb 237 (.pointer (some ⟨b,0,none⟩)) ⟨(Ai n).toArray⟩ s')(hI:Gl w Ft lb w' b P'):
 Al w FT w' (λw' O=>JD w' jb b {J with AA:=some (n,s')} P' O):=by
 obtain⟨lb',e,V,_⟩:=Jy z Z;cases e;obtain⟨L,Ft',r2,W,U⟩:=hI;have n1:lb≠jb:=V.b9 z.Ae;have n2:∀g,lv.ownBlock=some g->g≠lb:=λg H=>V.bR z.Ah H;refine Al.jd L ?_ ⟨z.Ae.Ap L ?_,?_,.inr ⟨n,s',lb,rfl,rfl,Y,I⟩⟩ r2 W ?_ ?_ ?_
 ·rintro k _ (h|rfl)
  ·exact d k (.inl h)
  ·exact d _ (.inr (.inr (.inr rfl)))
 ·rintro (h|h)
  ·exact y _ (.inl rfl) h
  ·exact n1 h.symm
 ·exact Aq z.Ah λg H=>L.Ao g (Av z.Ah H) λh=>by
   rcases h with h|h
   ·exact y g (.inr (.inl H)) h
   ·exact n2 g H h
 ·exact λk E hx=>by
   rcases U k hx with h|h
   ·exact y k E h
   ·have:=z.lt E;omega
 ·exact λk E=>(U k E).imp (λh=>d k (.inl h)) id
 ·exact λk E=>.inl (d k (.inr E))
def R5(w:World)(p:Pu)(h:JD w jb b J P FT)(hp:Cw p)(hn:J.AA=none->By (J.A9+1)/\AE (J.A9+1)/\AE J.Ag)(bI:J.Ah.length<=1073741824)(hL:Lets B w)(hF:Fit P a c m)(hl:BL (a+1) (c+1) (m+33)):
 Ac 148 #[A4 jb,CH p] w (Ak (.tuple #[.bool (J.aa P p).1,A0 (J.aa P p).2.1]) λw'=>Al w FT w' (λw' E=>JD w' jb b (J.aa P p).2.2.1 (J.aa P p).2.2.2 E)):=by
 obtain⟨z,y,d⟩:=p;unfold CH;dsimp only
 obtain⟨I,H,L,Z,bG,aI,aJ,aD⟩:=h;have a6:BL (a+1) (c+1) (m+12):=⟨hl.a,hl.c,by have:=hl.m;omega⟩;have bH:Bk (w.aC #[A0 z,A0 y,A0 d] 113) w.heap.size z y d:=Bw w _;have k0:A2 A7 w (w.aC #[A0 z,A0 y,A0 d] 113):=(A2.C _ w).ae _;have sz:w.heap.size<(w.aC #[A0 z,A0 y,A0 d] 113).heap.size:=by simp
 have hex:JD w jb b J P (λk=>L k\/C9 jb I H k):=⟨I,H,L,Z,bG,aI,aJ,λ_ h=>h⟩;have aK:∀k,(L k\/C9 jb I H k)->k<w.heap.size:=λk hk=>hk.elim (aI k) λh=>Z.lt h;have h1:JD (w.aC #[A0 z,A0 y,A0 d] 113) jb b J P (λk=>L k\/C9 jb I H k):=hex.aq (k0.au aK λ_ _ h=>h) k0.Af;have a9:=hL.ao k0
 have AD:Hid (∀(w1:World) (W:Jn) (Y:PD) (U:Nat->Prop) (n:Int) (s:Nat),A2 (λk=>L k\/C9 jb I H k) (w.aC #[A0 z,A0 y,A0 d] 113) w1->(∀k,U k->(L k\/C9 jb I H k)\/(w.aC #[A0 z,A0 y,A0 d] 113).heap.size<=k)->JD w1 jb b W Y U->W.AA=some (n,s)->Fit Y (a+1) (c+1) (m+12)->
  ∃lb,A5 w1 jb 4 (A4 lb)/\Bk w1 w.heap.size z y d/\Ac 191 #[A4 lb,.agg #[A0 z,A0 y,A0 d]] w1.drew (Ak (.tuple #[.bool (W.aH Y (z,y,d)).1,A0 (W.aH Y (z,y,d)).2.1]) λw'=>
   w'.cell? (A8 jb 4)=some (A4 lb)/\Bk w' w.heap.size z y d/\Al w FT w' (λw' E=>JD w' jb b (W.aH Y (z,y,d)).2.2.1 (W.aH Y (z,y,d)).2.2.2 E))):=λw1 W Y U n s aS aN bF aO bD=>by
  obtain⟨lv,ov,Ft,hJ,hD,aL,aA,aB⟩:=bF;obtain⟨lb,rfl,h3,h4⟩:=Jy hJ aO;have aG:=bH.Ap aS (λhx=>by have:=aK _ hx;omega);have aY:¬U w.heap.size:=λhx=>by
   rcases aN _ hx with h|h
   ·have:=aK _ h;omega
   ·omega
  have kd:A2 A7 w1 w1.drew:=(A2.C _ w1).I;have a1:=hJ.an kd;have aH:∀k,Ft k->k<w1.drew.heap.size:=aL;refine⟨lb,hJ.Ae.c4,aG,(T3 (z,y,d) _ s (h3.Ap kd (λh=>h)) h4 (AP.au hD aL kd) aH (λhx=>aA _ (.inr (.inr rfl)) hx) hp bD ⟨hl.a,hl.c,by have:=hl.m;omega⟩).mono ?_⟩;rintro e w'⟨rfl,hf,V⟩;have he:W.aH Y (z,y,d)=((Y.aa (Aa (Ai n)) s (AW z y d)).1,(Y.aa (Aa (Ai n)) s (AW z y d)).2.1,{W with AA:=some (n,Ay s (AW z y d))},(Y.aa (Aa (Ai n)) s (AW z y d)).2.2):=by unfold Jn.aH;rw[aO]
  rw[he];have bA:=Cy.dw a1 aO aH aA aB (Gn s (AW z y d) h4) hf V
  have a8:Bz w' jb b lv W.A9 W.Ag (A4 lb):=a1.Ae.Ap V.1 (by
   rintro (h|h)
   ·exact aA _ (.inl rfl) h
   ·exact h3.b9 hJ.Ae h.symm)
  refine⟨rfl,a8.c4,aG.I.Ap V.1 (by
   rintro (h|h)
   ·exact aY (aB _ (.inl h))
   ·exact aY (aB _ (.inr (.inr (.inr (by rw[h])))))),?_⟩
  have aV:Al (w.aC #[A0 z,A0 y,A0 d] 113) (λk=>L k\/C9 jb I H k) w' (λw' E=>JD w' jb b {W with AA:=some (n,Ay s (AW z y d))} (Y.aa (Aa (Ai n)) s (AW z y d)).2.2 E):=by
   obtain⟨q1,a5,q2,q3,q4⟩:=bA.aN kd;exact⟨aS.As q1 λx hx aL=>(aN x hx).resolve_right (by omega),a5,q2,q3,λk hk=>(q4 k hk).elim (λh=>aN k h) λh=>.inr (Az aS.Af h)⟩
  exact(aV.aN k0).bV aD
 by_cases ho:J.AA=none
 case pos=>
  have aU:H=.pointer none:=by
   rcases Z.AA with⟨_,h⟩|⟨n,s,lb,h,_⟩
   ·exact h
   ·rw[ho]at h;cases h
  obtain⟨n1,n2,n3⟩:=hn ho;have a2:=A1 (SH _ h1 ho n1 n2 n3 bI a9 hF a6);have c4:=(Z.an k0).Ae.c4;rw[aU]at c4;have aW:Hid (J.aa P (z,y,d)=if (J.av P).1≠0 then (false,(J.av P).1,(J.av P).2.1,(J.av P).2.2) else (J.av P).2.1.aH (J.av P).2.2 (z,y,d)):=by unfold Hid Jn.aa;rw[Am ho]
  have aQ:Hid (Fit (J.av P).2.2 (a+1) (c+1) (m+12)):=by
   (have hp:(Ba (AB (Ai (J.A9+1))) (AG J.Ag)).length=12:=by simp[Ba,EY,CO]);have a0:=hF.al (Aa (Ai (J.A9+1)));have aM:=a0.aw (Aa (Ai (J.A9+1))) (Ba (AB (Ai (J.A9+1))) (AG J.Ag));rw[hp]at aM;unfold Hid Jn.av;split
   ·exact a0.U (Aw _) (Aw _) (by omega)
   ·dsimp only
    split
    ·exact aM
    ·exact aM
  have bB:Hid ((J.av P).1=0->∃n s,(J.av P).2.1.AA=some (n,s)):=λh0=>by
   unfold Jn.av at h0 ⊢;split
   ·rename_i hc;rw[Am hc]at h0;exact absurd h0 hc
   ·rename_i hc;rw[Ad hc]at h0;dsimp only at h0 ⊢;split
    ·rename_i hd;rw[Am hd]at h0;exact absurd h0 hd
    ·exact⟨_,_,rfl⟩
  have bE:Hid (∀wx bC bJ,Al (w.aC #[A0 z,A0 y,A0 d] 113) (λk=>L k\/C9 jb I H k) wx (λw' E=>JD w' jb b bC bJ E)->Al w FT wx (λw' E=>JD w' jb b bC bJ E)):=λwx bC bJ hx=>(hx.aN k0).bV aD
  generalize hR:J.aa P (z,y,d)=R at aW ⊢;generalize hG:J.av P=G at a2 aW aQ bB;obtain⟨a7,a4,a3⟩:=G;dsimp only at a2 aW aQ bB;by_cases hg:a7=0
  case neg=>
   (have aE:R=(false,a7,a4,a3):=by rw[aW.o,Am hg]);subst aE;(have hgb:(a7 !=0)=true:=by simpa using hg)
   go_enter func148,ntmps148
   go_wp2_with (go_at_call 190;refine a2.m ?_;rintro e w2⟨rfl,V⟩;have aX:=A1 (bE.o _ _ _ V));go_ret2;exact⟨rfl,aX.o⟩
  case pos=>
   subst hg;(have aE:R=a4.aH a3 (z,y,d):=by rw[aW.o,Ad (by simp)]);obtain⟨n,s,aF⟩:=bB.o rfl
   have aZ:Hid (∀w2,Al (w.aC #[A0 z,A0 y,A0 d] 113) (λk=>L k\/C9 jb I H k) w2 (λw' E=>JD w' jb b a4 a3 E)->∃lb,A5 w2 jb 4 (A4 lb)/\Bk w2 w.heap.size z y d/\Ac 191 #[A4 lb,.agg #[A0 z,A0 y,A0 d]] w2.drew (Ak (.tuple #[.bool R.1,A0 R.2.1]) λw'=>
    w'.cell? (A8 jb 4)=some (A4 lb)/\Bk w' w.heap.size z y d/\Al w FT w' (λw' E=>JD w' jb b R.2.2.1 R.2.2.2 E))):=λw2 V=>by
    obtain⟨q1,U,q2,q3,q4⟩:=V;rw[aE];exact AD.o w2 a4 a3 U n s q1 q4 q2 aF aQ.o
   obtain⟨bM,bL,bK,bN⟩:=R;dsimp only at aZ
   go_enter func148,ntmps148
   go_wp2_with (fail);refine a2.m ?_;rintro e w2⟨rfl,V⟩;obtain⟨lb,aR,O,aT⟩:=aZ.o w2 V;have aP:=A1 aT;have d4:A5 w2.drew jb 4 (A4 lb):=aR;have d0:=O.I.c0;have d1:=O.I.c1;have d2:=O.I.c2;go_wp2;refine BH (λw'=>A5 w' jb 4 (A4 lb)/\A5 w' w.heap.size 0 (A0 z)/\A5 w' w.heap.size 1 (A0 y)/\A5 w' w.heap.size 2 (A0 d)) 8
    (Bj [0,1,2,3,4,5,6,7] [5]) ⟨d4,d0,d1,d2⟩ ?_
   iterate 5 (refine B5 ?_;(try simp only[An]))
   refine B7 λK hK=>?_;go_simp;refine aP.m ?_;rintro e w3⟨rfl,e4,eb,V⟩;refine hK _ _ ⟨e4,eb.c0,eb.c1,eb.c2⟩ (λhS=>?_);have aX:=A1 V
   (try simp only[An])
   iterate 2 (refine B5 ?_;(try simp only[An]))
   refine Bd ?_;simp only[BD,BC];go_wp2;go_ret2;exact⟨rfl,aX.o⟩
 case neg=>
  obtain⟨⟨n,s⟩,aF⟩:∃x,J.AA=some x:=Ng.1 ho;obtain⟨lb0,aU,-,-⟩:=Jy Z aF;have aE:J.aa P (z,y,d)=J.aH P (z,y,d):=by unfold Jn.aa;rw[Ad ho]
  obtain⟨lb,aR,O,aT⟩:=AD.o _ J P _ n s (A2.C _ _) (λk hk=>.inl hk) h1 aF (hF.U (by omega) (by omega) (by omega));rw[<-aE]at aT;generalize hR:J.aa P (z,y,d)=R at aT ⊢;obtain⟨bM,bL,bK,bN⟩:=R;dsimp only at aT ⊢;have aP:=A1 aT;have d4:(w.aC #[A0 z,A0 y,A0 d] 113).drew.cell? (A8 jb 4)=some (A4 lb):=aR;have d0:=O.I.c0;have d1:=O.I.c1;have d2:=O.I.c2
  go_enter func148,ntmps148
  go_wp2;refine BH (λw'=>A5 w' jb 4 (A4 lb)/\A5 w' w.heap.size 0 (A0 z)/\A5 w' w.heap.size 1 (A0 y)/\A5 w' w.heap.size 2 (A0 d)) 8
   (Bj [0,1,2,3,4,5,6,7] [5]) ⟨d4,d0,d1,d2⟩ ?_
  iterate 5 (refine B5 ?_;(try simp only[An]))
  refine B7 λK hK=>?_;go_simp;refine aP.m ?_;rintro e w3⟨rfl,e4,eb,V⟩;refine hK _ _ ⟨e4,eb.c0,eb.c1,eb.c2⟩ (λhS=>?_);have aX:=A1 V
  (try simp only[An])
  iterate 2 (refine B5 ?_;(try simp only[An]))
  refine Bd ?_;simp only[BD,BC];go_wp2;go_ret2;exact⟨rfl,aX.o⟩
end
end
section
open Go.RowKit
def C0(w:World)(ab b xb jb:Nat)(last:Int)(ov:Value):Prop:=w.heap[ab]?=some (.cells #[.pointer (some ⟨b,0,none⟩),.pointer (some ⟨xb,0,none⟩),.pointer (some ⟨jb,0,none⟩),.int .i64 last,ov] 150 (0,0))
section
variable {w w':World} {ab b xb jb:Nat} {last:Int} {ov:Value}
def C0.c0(h:C0 w ab b xb jb last ov):A5 w ab 0 (A4 b):=by unfold C0 at h;simp[A5,World.cell?,h]
def C0.c1(h:C0 w ab b xb jb last ov):A5 w ab 1 (A4 xb):=by unfold C0 at h;simp[A5,World.cell?,h]
def C0.c2(h:C0 w ab b xb jb last ov):A5 w ab 2 (A4 jb):=by unfold C0 at h;simp[A5,World.cell?,h]
def C0.c3(h:C0 w ab b xb jb last ov):A5 w ab 3 (A0 last):=by unfold C0 at h;simp[A5,World.cell?,h]
def C0.c4(h:C0 w ab b xb jb last ov):A5 w ab 4 ov:=by unfold C0 at h;simp[A5,World.cell?,h]
def C0.fz(h:C0 w ab b xb jb last ov)(o:Nat):w.frozen? (A8 ab o)=false:=by unfold C0 at h;simp[World.frozen?,h]
def C0.lt(h:C0 w ab b xb jb last ov):ab<w.heap.size:=CD h
def C0.s3(h:C0 w ab b xb jb last ov)(x:Int):C0 (w.setCell (A8 ab 3) (A0 x)) ab b xb jb x ov:=Ca h
def C0.s4(h:C0 w ab b xb jb last ov)(x:Value):C0 (w.setCell (A8 ab 4) x) ab b xb jb last x:=Ca h
def C0.I(h:C0 w ab b xb jb last ov):C0 w.drew ab b xb jb last ov:=by unfold C0 at h ⊢;exact h
def C0.Ap{S:Nat->Prop}(h:C0 w ab b xb jb last ov)(d:A2 S w w')(y:¬S ab):C0 w' ab b xb jb last ov:=d.Ap h y
end
def El(ab xb jb:Nat)(sv ov lv jo:Value)(k:Nat):Prop:=k=ab\/k=xb\/sv.ownBlock=some k\/ov.ownBlock=some k\/C9 jb lv jo k
structure Bu (w:World) (ab b xb jb:Nat) (sv ov lv jo:Value) (A:Ar) (P:PD) (Ft:Nat->Prop):Prop where
 Ae:C0 w ab b xb jb A.A9 ov
 ix:Bh w xb 162 b AF (AB AF) A.ix.BR sv
 A6:C4 w sv A.ix.A6
 AS:Es w ov A.AS
 jn:Cy w jb b lv jo A.j
 dk:B4 w b P Ft
 lt:∀k,Ft k->k<w.heap.size
 Cg:∀k,El ab xb jb sv ov lv jo k->¬Ft k
 DP:∀g,sv.ownBlock=some g->g≠ab/\g≠xb/\¬C9 jb lv jo g
 Ep:∀g,ov.ownBlock=some g->g≠ab/\g≠xb/\¬C9 jb lv jo g
 E0:∀k,C9 jb lv jo k->k≠ab/\k≠xb
def AD(w:World)(ab b:Nat)(A:Ar)(P:PD)(FT:Nat->Prop):Prop:=
 ∃xb jb sv ov lv jo Ft,Bu w ab b xb jb sv ov lv jo A P Ft/\∀k,Ft k\/El ab xb jb sv ov lv jo k->FT k
section
variable {w w':World} {ab b xb jb:Nat} {sv ov lv jo:Value} {A:Ar} {P P':PD} {Ft FT:Nat->Prop}
def Bu.bl(h:Bu w ab b xb jb sv ov lv jo A P Ft){k:Nat}(d:El ab xb jb sv ov lv jo k):k<w.heap.size:=by
 rcases d with rfl|rfl|d|d|d
 ·exact h.Ae.lt
 ·exact h.ix.lt
 ·exact h.A6.lt d
 ·exact h.AS.lt d
 ·exact h.jn.lt d
def Bu.by(h:Bu w ab b xb jb sv ov lv jo A P Ft){k:Nat}(d:Ft k\/El ab xb jb sv ov lv jo k):k<w.heap.size:=d.elim (h.lt k) h.bl
def Bu.ne(h:Bu w ab b xb jb sv ov lv jo A P Ft):ab≠xb:=Cb h.Ae h.ix (by decide)
def Bu.aq(h:Bu w ab b xb jb sv ov lv jo A P Ft)(d:EC (λk=>Ft k\/El ab xb jb sv ov lv jo k) w w')(E:w.heap.size<=w'.heap.size):Bu w' ab b xb jb sv ov lv jo A P Ft:=
 ⟨(d ab (.inr (.inl rfl))).trans h.Ae,(d xb (.inr (.inr (.inl rfl)))).trans h.ix,h.A6.aq λg z=>d g (.inr (.inr (.inr (.inl z)))),h.AS.aq λg z=>d g (.inr (.inr (.inr (.inr (.inl z))))),
   h.jn.aq λk y=>d k (.inr (.inr (.inr (.inr (.inr y))))),AP.aq h.dk λk y=>d k (.inl y),λk y=>Bc (h.lt k y) E,h.Cg,h.DP,h.Ep,h.E0⟩
def Bu.an(h:Bu w ab b xb jb sv ov lv jo A P Ft)(d:A2 A7 w w'):Bu w' ab b xb jb sv ov lv jo A P Ft:=h.aq (d.au (λ_ y=>h.by y) λ_ _ h=>h) d.Af
def Bu.bN(h:Bu w ab b xb jb sv ov lv jo A P Ft)(L:Al w Ft w' (λw' d=>B4 w' b P' d)):Al w Ft w' (λw' d=>Bu w' ab b xb jb sv ov lv jo A P' d):=by
 obtain⟨J,d,O,I,H⟩:=L;have z:=J.au (λ_ y=>h.bl y) h.Cg
 exact⟨J,d,⟨(z ab (.inl rfl)).trans h.Ae,(z xb (.inr (.inl rfl))).trans h.ix,h.A6.aq λg E=>z g (.inr (.inr (.inl E))),h.AS.aq λg E=>z g (.inr (.inr (.inr (.inl E)))),
  h.jn.aq λk y=>z k (.inr (.inr (.inr (.inr y)))),O,I,λk y U=>(H k U).elim (h.Cg k y) λh'=>by have:=h.bl y;omega,h.DP,h.Ep,h.E0⟩,I,H⟩
def Bu.bj{S:Nat->Prop}{z I:Nat}{y E lv' H:Value}{A':Ar}{d:Nat->Prop}(O:Bu w' ab b z I y E lv' H A' P' d)(Y:A2 S w w')(W:∀k,k<w.heap.size->S k->FT k)(V:∀k,d k->FT k\/w.heap.size<=k)(U:∀k,El ab z I y E lv' H k->FT k\/w.heap.size<=k):
 Al w FT w' (λw' J=>AD w' ab b A' P' J):=
 ⟨Y.U W,λk=>d k\/El ab z I y E lv' H k,⟨z,I,y,E,lv',H,d,O,λ_ h=>h⟩,λ_ L=>O.by L,λk L=>L.elim (V k) (U k)⟩
def Bu.bM(_h:Bu w ab b xb jb sv ov lv jo A P Ft)(d:∀k,Ft k\/El ab xb jb sv ov lv jo k->FT k)(H:Al w Ft w' (λw' z=>Bu w' ab b xb jb sv ov lv jo A P' z)):Al w FT w' (λw' E=>AD w' ab b A P' E):=by
 obtain⟨L,z,I,h3,J⟩:=H;exact I.bj L (λk _ y=>d k (.inl y)) (λk y=>(J k y).imp (λh=>d k (.inl h)) id) λk y=>.inl (d k (.inr y))
def AD.aq(h:AD w ab b A P FT)(E:EC FT w w')(H:w.heap.size<=w'.heap.size):AD w' ab b A P FT:=by
 obtain⟨xb,jb,sv,ov,lv,jo,Ft,z,d⟩:=h;exact⟨xb,jb,sv,ov,lv,jo,Ft,z.aq (E.U λk y=>d k y) H,d⟩
def AD.an(h:AD w ab b A P FT)(z:A2 A7 w w'):AD w' ab b A P FT:=by
 obtain⟨xb,jb,sv,ov,lv,jo,Ft,y,d⟩:=h;exact⟨xb,jb,sv,ov,lv,jo,Ft,y.an z,d⟩
end
def Gd(w:World)(h b y:Nat)(x:Int×List Pu):Prop:=∃d,Bh w y 182 b (AJ x.1) (AB (AJ x.1)) x.1 d/\AO w d x.2/\h<=y/\∀g,d.ownBlock=some g->h<=g
def Eo(d:List Nat):List Value:=d.map λg=>(A4 g)
def OM(d:List Nat):∀u∈Eo d,u.oneCell'=true:=by
 intro u hu;simp[Eo]at hu;obtain⟨x,_,rfl⟩:=hu;rfl
def Ef(w:World)(h b:Nat)(v:Value)(l:List (Int×List Pu)):Prop:=
 ∃d:List Nat,d.length=l.length/\w.ownsRow 0 179 1 v l.length (Eo d)/\(∀g,v.ownBlock=some g->h<=g)/\∀k (z:k<d.length) (y:k<l.length),Gd w h b (d[k]'z) (l[k]'y)
def Gd.an{w w':World}{d b z:Nat}{x:Int×List Pu}(h:Gd w d b z x)(E:A2 A7 w w'):Gd w' d b z x:=by
 obtain⟨O,I,y,J,H⟩:=h;exact⟨O,I.Ap E (λh=>h),Aq y λg L=>E.Ao g (Av y L) (λh=>h),J,H⟩
def Ef.an{w w':World}{y b:Nat}{v:Value}{l:List (Int×List Pu)}(h:Ef w y b v l)(E:A2 A7 w w'):Ef w' y b v l:=by
 obtain⟨d,J,z,L,H⟩:=h;exact⟨d,J,Aq z λg O=>E.Ao g (Av z O) (λh=>h),L,λk I U=>(H k I U).an E⟩
def Tryz.di:(Tryz.prog.info? 179).map (λi=>(i.zero,i.size,i.bytes))=some (some (.pointer none),1,8):=by kernel_rfl
def OU:∃d,Tryz.prog.info? 179=some d/\d.zero=some (.pointer none)/\d.size=1/\d.bytes=8:=by
 have h:=Tryz.di;cases hx:Tryz.prog.info? 179 with
 | none=>rw[hx]at h;cases h
 | some i=>rw[hx]at h;simp at h;exact⟨i,rfl,h.1,h.2.1,h.2.2⟩
end
section
open Go.RowKit
attribute [local go_sem ↓] C5
section
variable {w:World} {ab b xb jb B:Nat} {sv ov lv jo:Value} {A:Ar} {P:PD} {Ft:Nat->Prop} {a c m:Nat}
def OP(P:PD)(n:Int)(r:List Int):P.A6 (n::r)=match P.CY n with
 | none=>none
 | some l=>(P.A6 r).map λx=>(n,l):: x:=rfl
def L3(w:World)(E:List Int)(a0:A5 w ab 0 (A4 b))(a1:A5 w ab 1 (A4 xb))(x4:A5 w xb 4 sv)(a3:C4 w sv E)(aU:B4 w b P Ft)(Z:∀k,Ft k->k<w.heap.size)(hF:Fit P a c m)(hl:BL a c m)(hn:∀n∈E,By n)(hsl:E.length<=1073741824)(hL:Lets B w):
 Ac 98 #[A4 ab] w λe w'=>
  (P.A6 E=none/\e=.returned (.tuple #[.slice none 0 0,A0 7])/\A2 A7 w w')\/
  ∃l v,P.A6 E=some l/\e=.returned (.tuple #[v,A0 0])/\Ef w' w.heap.size b v l/\A2 A7 w w':=by
 obtain⟨i0,hi,aZ,a6,a4⟩:=OU;have aM:=A1 a3;obtain⟨sa,scap,rfl,sc1,a2⟩:=aM.o.BU;unfold maxLen at a2
 have bL:Hid (∀W,A2 A7 w W->∀n∈E,Ac 135 #[A4 b,A0 n] W λe w'=>
  (P.CY n=none/\e=.returned (.tuple #[.pointer none,A0 7])/\A2 A7 W w')\/
  ∃l d v,P.CY n=some l/\e=.returned (.tuple #[A4 d,A0 0])/\Bh w' d 182 b (AJ n) (AB (AJ n)) n v/\AO w' v l/\(∀g,v.ownBlock=some g->W.heap.size<=g)/\W.heap.size<=d/\A2 A7 W w'):=
  λW hc n hm=>Ps W (AP.au aU Z hc) (λk hk=>Bc (Z k hk) hc.Af) hF hl (hn n hm) (hL.ao hc)
 have bG:=A1 (OP P);obtain⟨X,hX⟩:∃X,P.A6 E=X:=⟨_,rfl⟩;have bM:=A1 hX;rw[hX]
 go_enter func98,ntmps98
 go_wp2;go_loopw [4,17] (λv iv wr=>∃(l:List (Int×List Pu)),iv=A0 l.length/\l.length<=E.length/\Hid (Ef wr w.heap.size b v l/\A2 A7 w wr/\X=(P.A6 (E.drop l.length)).map λr=>l++r)) (λ_ iv _=>E.length-(intOf iv).toNat)
 case atStart=>exact⟨[],rfl,CL _,⟨[],rfl,BW _ _ _ _,λg H=>by simp[Value.ownBlock]at H,λk I=>by simp at I⟩,A2.C _ _,by rw[Gg,Da,bM.o];cases X<;>simp⟩
 case round=>
  obtain⟨l,rfl,hk,hI⟩:=hrel;obtain⟨i1,i2,i3⟩:=hI.o;obtain⟨z,j1,j2,j3,j4⟩:=i1;obtain⟨ap,cp,rfl,hcap1,aH,-⟩:=AR j2;unfold maxLen at aH;by_cases V:l.length<E.length
  ·obtain⟨g,o,rfl,d1⟩:=C4.at aM.o l.length V;have L:=Cx V;have aG:=EH V;generalize aS:(E[l.length]'V)=n at d1 L aG;have e1:=i2.af d1;have e0:=i2.af a0;have aF:=A1 (bL.o wr i2 n L);rw[aG,bG.o]at i3;generalize hY:P.CY n=Y at aF i3;have aI:=A1 i2;have bB:=A1 i3;have a9:=A1 j1;have aR:=A1 j2;have bA:=A1 j3;have bI:=A1 j4;(have aX:(l.length:Int)<(E.length:Int):=by omega);have hk0:(0:Int)<=(l.length:Int):=EU _;clear hI i2 i3 j1 j2 j3 j4 d1 L aG aS hY;cases Y with
   | none=>
    (have aD:X=none:=by rw[bB.o];rfl);subst aD;have aB:Hid (Ac 135 #[A4 b,A0 n] wr λe w'=>e=.returned (.tuple #[.pointer none,A0 7])/\A2 A7 wr w'):=by
     refine aF.o.mono ?_;rintro e w' (⟨_,O,h3⟩|⟨l,d,v,I,_⟩)
     ·exact⟨O,h3⟩
     ·cases I
    go_wp2_with (go_at_call 135;refine aB.o.mono ?_;rintro e J⟨rfl,U⟩;have aW:=A1 U);go_ret2;exact⟨rfl,aI.o.As aW.o λ_ h _=>h⟩
   | some pl=>
    have aB:Hid (Ac 135 #[A4 b,A0 n] wr λe w'=>∃d v,e=.returned (.tuple #[A4 d,A0 0])/\Bh w' d 182 b (AJ n) (AB (AJ n)) n v/\AO w' v pl/\(∀g,v.ownBlock=some g->wr.heap.size<=g)/\wr.heap.size<=d/\A2 A7 wr w'):=by
     refine aF.o.mono ?_;rintro e w' (⟨I,_⟩|⟨l,d,v,I,O⟩)
     ·cases I
     ·cases I;exact⟨d,v,O⟩
    have bH:Hid (X=(P.A6 (E.drop (l.length+1))).map λr=>(l++[(n,pl)])++r):=by
     unfold Hid;rw[bB.o];simp only[Option.map_map]
     congr 1
     funext r
     simp
    go_wp2_with (fail);refine aB.o.mono ?_;rintro e J⟨d,v,rfl,q1,q2,q3,q4,U⟩;have bJ:=A1 q1;have bK:=A1 q2;have bC:=A1 q3;have bD:=A1 q4;have aY:=A1 U;have aO:Hid ((J.alloc (.cells #[A4 d] 179)).ownsRow 0 179 1 (.slice ap l.length cp) l.length (Eo z)):=Aq aR.o λg H=>(U.ae _).Ao g (Av aR.o H) (λh=>h)
    have aT:=A1 (Src.aW (size:=1) (B:=J.heap.size) underlying154 J #[A4 d] 179 (by simp) 1 1 rfl (OM [d]));go_wp2_with (at_builtin;refine C7 rfl (.tmp 33) (.tmp 35) 154 154 rfl 179 i0 _ 1 8 underlying154 hi aZ a6 a4 rfl (by decide) (.slice ap l.length cp) l.length (Eo z) (by rfl) aO.o _ 1 _ (by rfl) aT.o (by omega) ?_;intro a8 cap8 w8 hA;have bE:=A1 hA);go_roundw
    case rel=>
     have hA:=bE.o;have k7:A2 A7 J (J.alloc (.cells #[A4 d] 179)):=(A2.C _ J).ae _;have aJ:=hA.Aj (S:=λk=>(Value.slice ap l.length cp).ownBlock=some k) λ_ h=>h;have aL:A2 A7 w J:=aI.o.As aY.o λ_ h _=>h;(have a5:A2 A7 w w8:=(aL.As k7 λ_ h _=>h).As aJ λy hy Z=>by have:=bA.o y hy;omega);have aK:A2 (λk=>(Value.slice ap l.length cp).ownBlock=some k) J w8:=(k7.U λ_ _ h=>h.elim).As aJ λ_ h _=>h;have aP:∀(k:Nat) (c:Array Value) (e:Nat),J.heap[k]?=some (Obj.cells c e (0,0))->e≠179->¬(Value.slice ap l.length cp).ownBlock=some k:=λk c e hk he hx=>by
      obtain⟨c',aA⟩:=BA (Aq aR.o λg H=>aY.o.Ao g (Av aR.o H) (λh=>h)) hx;exact Cb aA hk (λh=>he h.symm) rfl
     have aN:∀aE x,Gd J w.heap.size b aE x->Gd w8 w.heap.size b aE x:=λaE x hx=>by
      obtain⟨pv,I,O,h3,h4⟩:=hx;refine⟨pv,I.Ap aK (aP _ _ _ I (by decide)),Aq O λg H=>?_,h3,h4⟩;obtain⟨c',aA⟩:=BA O H;exact aK.Ao g (Av O H) (aP _ _ _ aA (by decide))
     refine⟨l++[(n,pl)],by simp,by simp;omega,⟨z++[d],by simp[a9.o],?_,?_,?_⟩,a5,by rw[show (l++[(n,pl)]).length=l.length+1 by simp];exact bH.o⟩
     ·(have e:(l++[(n,pl)]).length=l.length+1:=by simp);(have e2:Eo (z++[d])=Eo z++Eo [d]:=by simp[Eo]);rw[e,e2];exact hA.AA
     ·intro g H;rcases hA.BJ with h|h
      ·rw[h]at H;exact bA.o g H
      ·rw[h]at H;cases H;have:=aL.Af;have:=k7.Af;omega
     ·intro j I O;have aV:=a9.o;by_cases hj:j<l.length
      ·rw[Fb (show j<z.length by omega),Fb hj];exact aN _ _ ((bI.o j (by omega) hj).an aY.o)
      ·(have a7:j=l.length:=by simp at O;omega);subst a7;(have e1:(z++[d])[l.length]'I=d:=by simp[<-aV]);(have e2:(l++[(n,pl)])[l.length]'O=(n,pl):=by simp);rw[e1,e2];exact aN _ _ ⟨v,bJ.o,bK.o,Az aI.o.Af bD.o,λg H=>Az aI.o.Af (bC.o g H)⟩
    case measure=>simp[intOf];omega
  ·(have aQ:l.length=E.length:=by omega);have bF:Hid (Ef wr w.heap.size b (.slice ap l.length cp) l):=⟨z,j1,j2,j3,j4⟩;have aI:=A1 i2;(have aD:X=some l:=by rw[i3,aQ,Fz];simp[PD.A6]);subst aD;(have aX:¬((l.length:Int)<(E.length:Int)):=by omega);clear i2 i3 hI j1 j2 j3 j4 aQ;go_wp2;go_ret2;exact⟨_,rfl,bF.o,aI.o⟩
def OQ(w:World)(h:Bu w ab b xb jb sv ov lv jo A P Ft)(H:Fit P a c m)(y:BL a c m)(E:∀n∈A.ix.A6,By n)(d:A.ix.A6.length<=1073741824)(z:Lets B w):
 Ac 98 #[A4 ab] w λe w'=>
  (P.A6 A.ix.A6=none/\e=.returned (.tuple #[.slice none 0 0,A0 7])/\A2 A7 w w')\/
  ∃l v,P.A6 A.ix.A6=some l/\e=.returned (.tuple #[v,A0 0])/\Ef w' w.heap.size b v l/\A2 A7 w w':=
 L3 w A.ix.A6 h.Ae.c0 h.Ae.c1 h.ix.c4 h.A6 h.dk h.lt H y E d z
def Ly(w:World)(aV:Nat)(v:Value)(l:List (Int×List Pu))(h:Ef w aV b v l)(hl:l.length<=1073741824)(hq:∀x∈l,x.2.length<=m)(hm:l.length*m<=4398046511104):
 Ac 101 #[v] w λe w'=>∃v',e=.returned v'/\AO w' v' (l.flatMap (·.2))/\(∀g,v'.ownBlock=some g->w.heap.size<=g)/\A2 A7 w w':=by
 obtain⟨i0,hi,aK,aQ,aO⟩:=Dr FK;obtain⟨H,j1,j2,j3,j4⟩:=h;obtain⟨va,vcap,rfl,vc1,aJ,-⟩:=AR j2;unfold maxLen at aJ;have aW:=A1 j4;have aR:=A1 j2;have aT:=A1 hq;have aX:Hid (∀k,k<=l.length->k*m<=4398046511104):=λk hk=>Az (GS m hk) hm;clear j2 j3 j4 hq hm
 go_enter func101,ntmps101
 go_wp2;go_loopw [3,8] (λv iv wr=>∃(k:Nat) (d:List Pu),iv=A0 k/\k<=l.length/\d.length<=k*m/\Hid (AO wr v d/\(∀g,v.ownBlock=some g->w.heap.size<=g)/\A2 A7 w wr/\d=(l.take k).flatMap (·.2))) (λ_ iv _=>l.length-(intOf iv).toNat)
 case atStart=>exact⟨0,[],rfl,by omega,by simp,BW _ _ _ _,λg I=>by simp[Value.ownBlock]at I,A2.C _ _,rfl⟩
 case round=>
  obtain⟨k,d,rfl,hk,aM,hI⟩:=hrel;obtain⟨i1,i2,L,Z⟩:=hI.o;obtain⟨ap,cp,rfl,hcap1,W,-⟩:=AR i1;unfold maxLen at W;by_cases z:k<l.length
  ·(have E:k<H.length:=by omega);have J:w.cell? ((A8 ((va.map (·.block)).getD 0) k):Addr)=some (A4 (H[k]'E))/\∃g,va=some (A8 g 0):=by
    obtain⟨a',c',e,-,-,hz,-⟩:=AR aR.o;cases e;obtain⟨g,rfl⟩:=hz (by omega);exact⟨Be aR.o rfl (by simp[Eo,E]),g,rfl⟩
   obtain⟨aE,g,rfl⟩:=J;have O:A5 w g k (A4 (H[k]'E)):=aE;obtain⟨pv,s1,s2,-,-⟩:=aW.o k E z;have U:=aT.o _ (Cx z);have V:l.take (k+1)=l.take k++[l[k]'z]:=D9 z;obtain⟨gb,aD⟩:∃gb,(H[k]'E)=gb:=⟨_,rfl⟩;rw[aD]at O s1;obtain⟨⟨n,pl⟩,hx⟩:∃x,(l[k]'z)=x:=⟨_,rfl⟩;rw[hx]at s1 s2 V U;dsimp only at s1 s2 U;obtain⟨pa,pc,rfl,pc1,aP,-⟩:=AR s2;unfold maxLen at aP;have d1:=L.af O;have d2:=(s1.Ap L (λh=>h)).c4;have aL:=A1 i1;have aG:=A1 i2;have aF:=A1 L;(have aN:Hid (d++pl=(l.take (k+1)).flatMap (·.2)):=by unfold Hid;rw[V,Z];simp);have aB:=A1 (Src.bo underlying97 (Aq s2 λg I=>L.Ao g (Av s2 I) (λh=>h)) (FE pl));have aS:=A1 (aX.o (k+1) z);(have aI:(k:Int)<(l.length:Int):=by omega);have hk0:=C3 k;clear hI i1 i2 L Z aE O s1 s2 V hx aD;have aA:Hid ((d.length+pl.length)*24<=140737488355328/\d.length+pl.length<=(k+1)*m):=by
    have:=aS.o;rw[ID]at this;unfold Hid;rw[ID];omega
   clear aM U aS;go_wp2_with (at_builtin;refine C7 rfl (.tmp 12) (.tmp 16) 97 97 rfl 113 i0 _ 3 24 underlying97 hi aK aQ aO rfl (by decide) (.slice ap d.length cp) d.length (Bv d) (by rfl) aL.o _ pl.length _ (by rfl) aB.o aA.o.1 ?_;intro a8 cap8 w8 Y;have aU:=A1 Y;clear Y);go_roundw
   case rel=>
    have Y:=aU.o;have aH:=Y.Aj (S:=λk=>(Value.slice ap d.length cp).ownBlock=some k) λ_ h=>h;refine⟨k+1,d++pl,by go_num,by omega,by simp only[B2];exact aA.o.2,?_,?_,?_,aN.o⟩
    ·(have e:(d++pl).length=d.length+pl.length:=by simp);unfold AO;rw[G1,e];exact Y.AA
    ·intro g I;rcases Y.BJ with h|h
     ·rw[h]at I;exact aG.o g I
     ·rw[h]at I;cases I;exact aF.o.Af
    ·exact aF.o.As aH λy hy hlt=>by have:=aG.o y hy;omega
   case measure=>simp[intOf];omega
  ·(obtain rfl:k=l.length:=by omega);rw[CP]at Z;have aL:=A1 i1;have aG:=A1 i2;have aF:=A1 L;(have aI:¬((l.length:Int)<(l.length:Int)):=by omega);have aN:=A1 Z;clear i1 i2 L Z hI;go_wp2;go_ret;exact⟨_,rfl,by rw[<-aN.o];exact aL.o,aG.o,aF.o⟩
end
end
end Go.Proofs.YtodcnkbblippnaaGreatDoor
