/- Part 10 of a proof: walks of the program. -/
import Derived.Test.YtodcnkbblippnaaGreatDoorPart09
namespace Go.Proofs.YtodcnkbblippnaaGreatDoor
set_option maxRecDepth 100000
set_option maxHeartbeats 32000000
set_option linter.defProp false
open Go.Proofs.Tryz
section
open Go.RowKit
attribute [local go_sem ↓] Cw
section
variable {w:World} {b B jb:Nat} {P:PD} {Ft:Nat->Prop} {a c m:Nat} {lv ov:Value} {J:Jn}
def Rq(w:World)(h:Bu w b P Ft)(aB:∀k,Ft k->k<w.heap.size)(hJ:DA w jb b lv ov J)(hF:Fit P a c m)(hl:CV a c m)(hm:J.Av.length*m<=70368744177664)(hn:∀n∈J.Av,CJ n)(hL:Lets B w):
 Ag 106 #[A6 jb] w λe w'=>∃v,e=.returned (.tuple #[v,A0 (P.puts J.Av).2])/\B5 w' v (P.puts J.Av).1/\(∀g,v.ownBlock=some g->w.heap.size<=g)/\A4 Aa w w':=by
 obtain⟨i0,hi,aS,aW,aV⟩:=DG J2;have c0:=hJ.Af.c0;have c1:=hJ.Af.c1;have aJ:=A1 (Ee.rd hJ.Av);obtain⟨la,lcap,rfl,lc1,aP⟩:=aJ.o.BP;unfold maxLen at aP;have aY:Hid (P.puts J.Av=P.bh J.Av []):=rfl;generalize hR:P.puts J.Av=R at aY ⊢;have a2:Hid (∀w1,A4 Aa w w1->∀n∈J.Av,∀ahead,Ag 149 #[A6 b,A0 n,A0 ahead] w1 λe w'=>∃v,e=.returned (.tuple #[v,A0 (P.aT n ahead).2])/\B5 w' v (P.aT n ahead).1/\(∀g,v.ownBlock=some g->w1.heap.size<=g)/\A4 Aa w1 w'):=λw1 hc n aU ahead=>
  Ym w1 ahead (AU.au h aB hc) (λk hk=>Bi (aB k hk) hc.Al) (hn n aU) (hL.aM hc) (by have h1:(DZ P.D P.F ⟨(BN 1 n).toArray⟩).1.length<=m:=KW hF (Ah n);have:=hl.m;omega)
 have a3:Hid (∀n ahead,(P.aT n ahead).1.length*21<=m):=λn ahead=>ZJ hF n ahead;have aZ:=A1 hm;generalize J.Av=Av at *;have a4:∀k,k<=Av.length->k*m<=70368744177664:=λk hk=>AQ (Hy m hk) aZ.o;have aT:=A1 a4
 go_enter func106,ntmps106
 go_wp2;go_loopw [4,14] (λv iv wr=>∃(k:Nat) (d:List Pu),iv=A0 k/\k<=Av.length/\Hid (B5 wr v d/\(∀g,v.ownBlock=some g->w.heap.size<=g)/\A4 Aa w wr/\d.length*21<=k*m/\R=P.bh (Av.drop k) d)) (λ_ iv _=>Av.length-(intOf iv).toNat)
 case atStart=>exact⟨0,[],rfl,by omega,Cp _ _ _ _,λg E=>by simp[Value.ownBlock]at E,A4.C _ _,by simp,aY.o⟩
 case round=>
  obtain⟨k,d,rfl,hk,hI⟩:=hrel;obtain⟨i1,i2,i3,i4,i5⟩:=hI.o;obtain⟨ap,cp,rfl,hcap1,aD,-⟩:=Bk i1;unfold maxLen at aD;by_cases z:k<Av.length
  ·obtain⟨g,o,rfl,d1⟩:=D6.at aJ.o k z;have Y:=BT z;have aK:=FW z;generalize hne:(Av[k]'z)=n at d1 Y aK;have e1:=i3.ag d1;have e0:=i3.ag c0;have L:=A1 (a2.o wr i3 n Y d.length);have W:=A1 (a3.o n d.length);rw[aK]at i5;have aM:Hid (R=if (P.aT n d.length).2≠0 then ([],(P.aT n d.length).2) else P.bh (Av.drop (k+1)) (d++(P.aT n d.length).1)):=i5;generalize hX:P.aT n d.length=X at L W aM;obtain⟨aF,aQ⟩:=X;dsimp only at L W aM;have aL:=A1 i1;have aN:=A1 i2;have aG:=A1 i3;have aX:=A1 i4;(have aR:(k:Int)<(Av.length:Int):=by omega);have hk0:=BR k;by_cases hx:aQ=0
   case neg=>
    (have hxb:(aQ !=0)=true:=by simpa using hx);(have aE:R=([],aQ):=by rw[aM.o,Ai hx]);subst aE;go_wp2_with (go_at_call 149;refine L.m ?_;rintro e w6⟨v,rfl,-,-,O⟩;have I:=A1 O);go_ret2;exact⟨_,rfl,Cp _ _ _ _,λg E=>by simp[Value.ownBlock]at E,aG.o.tr I.o⟩
   case pos=>
    subst hx;(have a1:Hid (R=P.bh (Av.drop (k+1)) (d++aF)):=by unfold Hid;rw[aM.o,Ae (by simp)]);have a5:=A1 (aT.o (k+1) z);go_wp2_with (fail);refine L.m ?_;rintro e w6⟨v,rfl,hv,hvo,O⟩;obtain⟨ap2,cp2,rfl,-,aA,-⟩:=Bk hv;unfold maxLen at aA;have I:=A1 O;have aH:Hid (w6.ownsRow 0 113 3 (.slice ap d.length cp) d.length (AZ d)):=Aw aL.o λg E=>O.Am g (Ay aL.o E) (λh=>h);have aI:=A1 (Src.bO underlying97 hv (Hp aF));go_wp2_with (at_builtin;refine CZ rfl (.tmp 32) (.tmp 33) 97 97 rfl 113 i0 _ 3 24 underlying97 hi aS aW aV rfl (by decide) (.slice ap d.length cp) d.length (AZ d) (by rfl) aH.o _ aF.length _ (by rfl) aI.o (by have:=W.o;have:=aX.o;have:=a5.o;rw[MO]at this;omega) ?_;intro a8 cap8 w8 hA;have a0:=A1 hA);go_roundw
    case rel=>
     have hA:=a0.o;have aO:=hA.An (S:=λk=>(Value.slice ap d.length cp).ownBlock=some k) λ_ h=>h;refine⟨k+1,d++aF,by go_num,by omega,?_,?_,?_,?_,a1.o⟩
     ·(have e:(d++aF).length=d.length+aF.length:=by simp);unfold B5;rw[Ib,e];exact hA.AE
     ·intro g E;rcases hA.BS with h|h
      ·rw[h]at E;exact aN.o g E
      ·rw[h]at E;cases E;have:=aG.o.Al;have:=I.o.Al;omega
     ·exact(aG.o.tr I.o).Au aO λy hy aB=>by have:=aN.o y hy;omega
     ·have:=W.o;have:=aX.o;rw[MO];simp only[Ba];omega
    case measure=>simp[intOf];omega
  ·(obtain rfl:k=Av.length:=by omega);have aL:=A1 i1;have aN:=A1 i2;have aG:=A1 i3;(have aE:R=(d,0):=by rw[i5,GN];rfl);subst aE;(have aR:¬((Av.length:Int)<(Av.length:Int)):=by omega);go_wp2;go_ret2;exact⟨_,rfl,aL.o,aN.o,aG.o⟩
end
def Kz{lt nm:Bs}{v:Int}(h:E8 lt nm=some v):(1<=v/\v<=4611686018427387904)/\Em lt v=nm:=by
 unfold E8 at h;cases hx:Lib.atoiAll (Lib.trimPrefix nm lt) with
 | ok x=>
  rw[hx]at h;dsimp only at h;split at h
  ·rename_i d;cases h;exact⟨⟨by omega,d.2.1⟩,d.2.2⟩
  ·cases h
 | «syntax»=>rw[hx]at h;cases h
 | range=>rw[hx]at h;cases h
def Sm{nm:Bs}:(H7 nm).1≠1/\(H7 nm).1≠2:=by
 unfold H7 Ii;split
 ·simp
 ·split<;>simp
def Oa{nm:Bs}(h:(Bn nm).1=1):(1<=(Bn nm).2/\(Bn nm).2<=4611686018427387904)/\Ah (Bn nm).2=nm:=by
 unfold Bn at h ⊢;cases hx:E8 [108] nm with
 | some v=>exact Kz hx
 | none=>
  rw[hx]at h;dsimp only at h;unfold H8 at h;cases hy:E8 [115] nm with
  | some v=>rw[hy]at h;cases h
  | none=>rw[hy]at h;exact absurd h Sm.1
def O8{nm:Bs}(h:(Bn nm).1=2):(1<=(Bn nm).2/\(Bn nm).2<=4611686018427387904)/\AJ (Bn nm).2=nm:=by
 unfold Bn at h ⊢;cases hx:E8 [108] nm with
 | some v=>rw[hx]at h;cases h
 | none=>
  rw[hx]at h;dsimp only at h ⊢;unfold H8 at h ⊢;cases hy:E8 [115] nm with
  | some v=>exact Kz hy
  | none=>rw[hy]at h;exact absurd h Sm.2
def Se(nm:Bs):Ax (Bn nm).2:=by
 unfold Bn;cases hx:E8 [108] nm with
 | some v=>have:=(Kz hx).1;unfold Ax;dsimp only;omega
 | none=>
  dsimp only
  unfold H8;cases hy:E8 [115] nm with
  | some v=>have:=(Kz hy).1;unfold Ax;dsimp only;omega
  | none=>dsimp only;unfold H7 Ii Ax;split<;>(try split)<;>simp
def ZF(aA:Int)(l l':List Bs):BO aA (l++l')=BO aA l++BO aA l':=by simp[BO]
def M6(aA:Int)(l:List Bs):(BO aA l).length<=l.length:=List.length_filterMap_le _ _
def Od{aA n:Int}{l:List Bs}(h:n∈BO aA l):aA<=n/\(1<=n/\n<=4611686018427387904)/\Ah n∈l:=by
 obtain⟨nm,L,d⟩:=Le.1 h;split at d
 ·rename_i z;cases d;obtain⟨E,I⟩:=Oa z.1;exact⟨z.2,E,by rw[I];exact L⟩
 ·cases d
def Kx(P:PD):P.Az.length=P.D.A5.length:=by
 unfold PD.Az dList;rw[HD,Mt _ _ (Ao _)]
def Tg(l:List Int)(x d:Int):(l++[x]).getLastD d=x:=by
 rw[K2];simp
def Og{w:World}{b:Nat}{P:PD}{Ft:Nat->Prop}{a c m:Nat}(h:Bu w b P Ft)(I:Fit P a c m)(L:CV a c m):
 Calls Tryz.prog 76 #[.pointer (some ⟨b,0,none⟩)] w λe w'=>∃v,e=.returned v/\Dm w' v P.Az/\A4 (λ_=>False) w w'/\(∀g,v.ownBlock=some g->w.heap.size<=g):=by
 refine(ZQ h (by have:=I.A5;have:=L.a;omega)).mono ?_;rintro e w'⟨v,E,d,O,z⟩;refine⟨v,E,?_,O,z⟩;have W:=Kx P;unfold Dm;rw[W];rw[WQ]at d;exact d
section
variable {w:World} {b B:Nat} {P:PD} {Ft:Nat->Prop} {a c m:Nat} {aA:Int}
def A0k(w:World)(h:Bu w b P Ft)(aE:∀k,Ft k->k<w.heap.size)(hF:Fit P a c m)(hl:CV a c m)(bJ:a*m<=70368744177664)(hf:1<=aA/\aA<=4611686018427387904)(hL:Lets B w)(hE:I3 w)(bQ:∀nm∈P.Az,nm.length<=281474976710656):
 Ag 99 #[A6 b,A0 aA] w λe w'=>
  ((P.puts (BO aA P.Az)).2≠0/\e=.returned (.tuple #[.pointer none,.slice none 0 0,A0 (P.puts (BO aA P.Az)).2])/\A4 Aa w w')\/
  ((P.puts (BO aA P.Az)).2=0/\∃d lv v,e=.returned (.tuple #[A6 d,v,A0 0])/\DA w' d b lv (.pointer none) (P.bR aA)/\B5 w' v (P.puts (BO aA P.Az)).1/\(∀k,De d lv (.pointer none) k->w.heap.size<=k)/\(∀g,v.ownBlock=some g->w.heap.size<=g)/\A4 Aa w w'):=by
 obtain⟨i0,hi,bH,bP,bM⟩:∃i0,Tryz.prog.info? 3=some i0/\i0.zero=some (A0 0)/\i0.size=1/\i0.bytes=8:=by
  have h:=Tryz.cY;cases W:Tryz.prog.info? 3 with
  | none=>rw[W]at h;cases h
  | some i=>rw[W]at h;simp at h;exact⟨i,rfl,h.1,h.2.1,h.2.2⟩
 have LI:Hid (∀L,A4 Aa w L->Ag 76 #[A6 b] L λe w'=>∃v,e=.returned v/\Dm w' v P.Az/\A4 Aa L w'/\(∀g,v.ownBlock=some g->L.heap.size<=g)):=λL Y=>Og (AU.au h aE Y) hF hl;have bZ:Hid (∀L,A4 Aa w L->∀nm∈P.Az,Ag 97 #[.string ⟨nm.toArray⟩] L λe w'=>e=.returned (.tuple #[A0 (Bn nm).1,A0 (Bn nm).2])/\A4 Aa L w'):=λL Y nm hm=>Sd L nm (bQ nm hm) (hE.aM Y) (hL.aM Y);have aH:P.Az.length<=a:=by rw[Kx];exact hF.A5
 have bW:Hid (∀L d lv last,A4 Aa w L->DA L d b lv (.pointer none) ⟨BO aA P.Az,last,0,none⟩->Ag 106 #[A6 d] L λe w'=>∃v,e=.returned (.tuple #[v,A0 (P.puts (BO aA P.Az)).2])/\B5 w' v (P.puts (BO aA P.Az)).1/\(∀g,v.ownBlock=some g->L.heap.size<=g)/\A4 Aa L w'):=λL d lv last Y hJ=>
  Rq L (AU.au h aE Y) (λk hk=>Bi (aE k hk) Y.Al) hJ hF hl (AQ (Hy m (AQ (M6 aA P.Az) aH)) bJ) (λn hn=>by obtain⟨_,h2,_⟩:=Od hn;exact Hq (by omega) h2.2) (hL.aM Y)
 have hnl2:P.Az.length<=1073741824:=AQ aH hl.a;have a9:Hid (P.bR aA=⟨BO aA P.Az,(BO aA P.Az).getLastD (aA-1),(P.puts (BO aA P.Az)).1.length,none⟩):=rfl;generalize hZ:P.bR aA=Z at a9 ⊢;generalize hR:P.puts (BO aA P.Az)=R at bW a9 ⊢;generalize P.Az=ns at *;obtain⟨f1,f2⟩:=hf;have ew:IntKind.i64.wrap (aA-1)=aA-1:=by simp[IntKind.wrap,IntKind.bits,IntKind.signed];omega
 have aQ:Cx (w.alloc (.cells #[A6 b,.slice none 0 0,A0 (aA-1),A0 0,.pointer none] 208)) w.heap.size b (.slice none 0 0) (aA-1) 0 (.pointer none):=Bf w _;have bY:Hid (A4 Aa w (w.alloc (.cells #[A6 b,.slice none 0 0,A0 (aA-1),A0 0,.pointer none] 208))):=(A4.C _ w).ah _;have bO:=A1 (LI.o _ bY.o);have bA:=A1 aQ;have bX:Hid (w.heap.size<(w.alloc (.cells #[A6 b,.slice none 0 0,A0 (aA-1),A0 0,.pointer none] 208)).heap.size):=by unfold Hid;simp
 go_enter func99,ntmps99
 go_wp2_with (fail);refine bO.o.mono ?_;rintro e L⟨v,rfl,hv,aW,aS⟩;obtain⟨na,a6,rfl,nc1,bC⟩:=(Dm.rd hv).BP;unfold maxLen at bC;have b1:=A1 (Dm.rd hv);have bU:=A1 (bA.o.ai aW (λh=>h));have b0:Hid (A4 Aa w L):=bY.o.Au aW λ_ h _=>h;have aB:Hid (w.heap.size<L.heap.size):=Bi bX.o aW.Al;have bE:Hid (∀g,(Value.slice na ns.length a6).ownBlock=some g->w.heap.size<g):=λg E=>Bi bX.o (aS g E);generalize aQ:w.heap.size=d at bU aB ⊢;have aU:=A1 aQ;go_wp2;go_loopw [22] (λiv wr=>∃k:Nat,iv=A0 k/\k<=ns.length/\Hid (∃lv,Cx wr d b lv ((BO aA (ns.take k)).getLastD (aA-1)) 0 (.pointer none)/\Ee wr lv (BO aA (ns.take k))/\(∀g,lv.ownBlock=some g->L.heap.size<=g)/\A4 Aa w wr/\A4 (One d) L wr)) (λiv _=>ns.length-(intOf iv).toNat)
 case atStart=>exact⟨0,rfl,by omega,_,bU.o,Cp _ _ _ _,λg E=>by simp[Value.ownBlock]at E,b0.o,A4.C _ _⟩
 case round=>
  obtain⟨k,rfl,hk,hI⟩:=hrel;obtain⟨lv,i1,i2,i3,i4,i5⟩:=hI.o;by_cases aG:k<ns.length
  ·obtain⟨g,o,rfl,d1⟩:=GK.at b1.o k aG;have aM:=BT aG;have a5:ns.take (k+1)=ns.take k++[ns[k]'aG]:=DL aG;generalize hne:(ns[k]'aG)=nm at d1 aM a5;(have hgj:d<g:=by have:=bE.o g rfl;have:=aU.o;omega);have e1:=i5.bD d1 (λh=>by have h':g=d:=h;omega);have aJ:=A1 (bZ.o wr i4 nm aM);have aT:=Se nm;have aF:Hid (BO aA (ns.take (k+1))=BO aA (ns.take k)++(if (Bn nm).1=1/\aA<=(Bn nm).2 then [(Bn nm).2] else [])):=by
    unfold Hid;rw[a5,ZF]
    congr 1
    unfold BO;by_cases Y:(Bn nm).1=1/\aA<=(Bn nm).2<;>simp[Y]
   generalize hX:Bn nm=X at aJ aF aT;obtain⟨s,n⟩:=X;dsimp only at aJ aF aT;obtain⟨r1,r2⟩:=aT;have aO:Hid ((BO aA (ns.take k)).length<=ns.length):=AQ (M6 _ _) (by rw[BI];omega);have aX:=A1 i1;have aI:=A1 i2;have aK:=A1 i3;have aN:=A1 i4;have aY:=A1 i5;(have bF:(k:Int)<(ns.length:Int):=by omega);have hk0:(0:Int)<=(k:Int):=Ge _;generalize hlg:BO aA (ns.take k)=lg at aF aO aX aI;by_cases Y:s=1/\aA<=n
   case neg=>
    (have O:Hid (BO aA (ns.take (k+1))=lg):=by rw[aF.o,Ae Y,EF];rfl);by_cases hs:s=1
    ·subst hs;have bN:¬aA<=n:=λh=>Y ⟨rfl,h⟩;go_wp2_with (go_at_call 97;refine aJ.o.mono ?_;rintro e w6⟨rfl,I⟩;have z:=A1 I);go_roundw
     case rel=>exact⟨k+1,by go_num,by omega,lv,by rw[O.o];exact aX.o.ai z.o (λh=>h),by rw[O.o];exact Aw aI.o λg E=>z.o.Am g (Ay aI.o E) (λh=>h),aK.o,aN.o.Au z.o λ_ h _=>h,aY.o.Au z.o λ_ h _=>h.elim⟩
     case measure=>simp[intOf];omega
    ·(have hsb:(s==1)=false:=by simpa using hs);go_wp2_with (go_at_call 97;refine aJ.o.mono ?_;rintro e w6⟨rfl,I⟩;have z:=A1 I);go_roundw
     case rel=>exact⟨k+1,by go_num,by omega,lv,by rw[O.o];exact aX.o.ai z.o (λh=>h),by rw[O.o];exact Aw aI.o λg E=>z.o.Am g (Ay aI.o E) (λh=>h),aK.o,aN.o.Au z.o λ_ h _=>h,aY.o.Au z.o λ_ h _=>h.elim⟩
     case measure=>simp[intOf];omega
   case pos=>
    (have O:Hid (BO aA (ns.take (k+1))=lg++[n]):=by rw[aF.o,Ai Y];rfl);obtain⟨rfl,bN⟩:=Y;obtain⟨ap,cp,rfl,hcap1,aV,-⟩:=Bk aI.o;unfold maxLen at aV;go_wp2_with (fail);refine aJ.o.mono ?_;rintro e w6⟨rfl,I⟩;have aZ:=aX.o.ai I (λh=>h);have g1:=aZ.c1;have a1:Hid ((w6.alloc (.cells #[A0 n] 3)).ownsRow 0 3 1 (.slice ap lg.length cp) lg.length (Ef lg)):=Aw aI.o λg E=>(I.ah _).Am g (Ay aI.o E) (λh=>h)
    have bB:=A1 (Src.a8 (size:=1) (B:=w6.heap.size) underlying26 w6 #[A0 n] 3 (by simp) 1 1 rfl (KH [n]));have a7:=A1 (aZ.ai ((A4.C Aa w6).ah (.cells #[A0 n] 3)) (λh=>h));have bV:Hid (A4 Aa wr (w6.alloc (.cells #[A0 n] 3))):=I.ah _;have c71:=a7.o.c1;go_wp2_with (at_builtin;refine CZ rfl (.tmp 42) (.tmp 44) 26 26 rfl 3 i0 _ 1 8 underlying26 hi bH bP bM rfl (by decide) (.slice ap lg.length cp) lg.length (Ef lg) (by rfl) a1.o _ 1 _ (by rfl) bB.o (by have:=aO.o;omega) ?_;intro a8 aD w8 hA;have a0:=A1 (hA.An (S:=λk=>(Value.slice ap lg.length cp).ownBlock=some k) λ_ h=>h);have bL:=a7.o.ai a0.o (λh=>by have:=aK.o _ h;have:=aB.o;omega);have g81:=bL.c1;have f81:=bL.fz 1;have bK:=bL.s1 (.slice a8 (lg.length+1) aD);have g82:=bK.c2;have f82:=bK.fz 2;have a4:=A1 (bK.s2 n);have a2:=A1 hA.AE;have bI:=A1 hA.BS);go_roundw
    case rel=>
     (have e:(lg++[n]).length=lg.length+1:=by simp);have aP:∀g,(Value.slice a8 (lg.length+1) aD).ownBlock=some g->L.heap.size<=g:=λg E=>by
      rcases bI.o with h|h
      ·rw[h]at E;exact aK.o g E
      ·rw[h]at E;cases E;have:=aY.o.Al;have:=bV.o.Al;omega
     have k8:A4 (λk=>(Value.slice ap lg.length cp).ownBlock=some k) wr w8:=(bV.o.ad λ_ _ h=>h.elim).Au a0.o λ_ h _=>h;have a3:A4 (λk=>k=d\/(Value.slice ap lg.length cp).ownBlock=some k) wr ((w8.setCell (A9 d 1) (.slice a8 (lg.length+1) aD)).setCell (A9 d 2) (A0 n)):=
      ((k8.ad λ_ _ h=>.inr h).aj (b:=d) (.inl rfl) 1 _).aj (b:=d) (.inl rfl) 2 _
     refine⟨k+1,by go_num,by omega,.slice a8 (lg.length+1) aD,by rw[O.o,Tg];exact a4.o,?_,aP,?_,?_⟩
     ·rw[O.o];unfold Ee;rw[Md,e];exact Aw a2.o λg E=>by
       have h1:=aP g E;have h2:=aB.o;rw[Fg _ _ _ _ (λe=>by have e':g=d:=e;omega),Fg _ _ _ _ (λe=>by have e':g=d:=e;omega)]
     ·exact aN.o.Au a3 λx W aE=>by
       have h2:=aU.o;rcases W with rfl|W
       ·omega
       ·have:=aK.o x W;have:=aB.o;omega
     ·exact aY.o.Au a3 λx W aE=>by
       rcases W with rfl|W
       ·rfl
       ·have:=aK.o x W;omega
    case measure=>simp[intOf];omega
  ·(obtain rfl:k=ns.length:=by omega);rw[Cc]at i1 i2;(have bF:¬((ns.length:Int)<(ns.length:Int)):=by omega);have aR:=A1 (bW.o wr d lv _ i4 ⟨i1,i2,.inl ⟨rfl,rfl⟩⟩);obtain⟨bT,bS⟩:=R;dsimp only at aR a9;have aX:=A1 i1;have aI:=A1 i2;have aK:=A1 i3;have aN:=A1 i4;have aY:=A1 i5;by_cases hr:bS=0
   case neg=>
    (have hrb:(bS !=0)=true:=by simpa using hr);go_wp2_with (go_at_call 106;refine aR.o.mono ?_;rintro e w6⟨v,rfl,-,-,I⟩;have z:=A1 I);go_ret3;exact⟨rfl,aN.o.Au z.o λ_ h _=>h⟩
   case pos=>
    subst hr;go_wp2_with (fail);refine aR.o.mono ?_;rintro e w6⟨v,rfl,hv,aS,I⟩;obtain⟨va,vcap,rfl,vc1,bG,-⟩:=Bk hv;unfold maxLen at bG;have aZ:=aX.o.ai I (λh=>h);have g63:=aZ.c3;have f63:=aZ.fz 3;have a7:=A1 (aZ.s3 bT.length);have bD:=A1 hv;have aL:=A1 aS;have z:=A1 I;go_wp2;go_ret3;(have bR:∀g,lv.ownBlock=some g->g≠d:=λg E e=>by have:=aK.o g E;have:=aB.o;omega);have h2:=aU.o;have k7:A4 (One d) wr (w6.setCell (A9 d 3) (A0 bT.length)):=(z.o.ad (S':=One d) λ_ _ h=>h.elim).aj (b:=d) rfl 3 _;refine⟨d,lv,_,rfl,?_,?_,λx W=>?_,λg E=>?_,?_⟩
    ·rw[a9.o];exact⟨a7.o,Aw aI.o λg E=>k7.Am g (Ay aI.o E) (bR g E),.inl ⟨rfl,rfl⟩⟩
    ·exact Aw bD.o λg E=>Fg _ _ _ _ (λe=>by
      have e':g=d:=e;have:=aL.o g E;have:=aN.o.Al;have:=aY.o.Al;have:=aB.o
      omega)
    ·rcases W with rfl|W|W
     ·omega
     ·have:=aK.o x W;have:=aB.o;omega
     ·cases W
    ·have:=aL.o g E;have:=aN.o.Al;omega
    ·exact aN.o.Au k7 λx W aE=>by have e':x=d:=W;omega
end
def JD(w:World)(jb b:Nat)(J:Jn)(P:PD)(FT:Nat->Prop):Prop:=
 ∃lv ov Ft,DA w jb b lv ov J/\Bu w b P Ft/\(∀k,Ft k->k<w.heap.size)/\(∀k,De jb lv ov k->¬Ft k)/\∀k,Ft k\/De jb lv ov k->FT k
def JD.aI{w w':World}{jb b:Nat}{J:Jn}{P:PD}{FT:Nat->Prop}(h:JD w jb b J P FT)(E:Gc FT w w')(W:w.heap.size<=w'.heap.size):JD w' jb b J P FT:=by
 obtain⟨lv,ov,Ft,O,I,X,L,z⟩:=h;exact⟨lv,ov,Ft,O.aI λk d=>E k (z k (.inr d)),I.aI λk d=>E k (z k (.inl d)),λk d=>Bi (X k d) W,L,z⟩
def As.jd{w w':World}{jb b:Nat}{J:Jn}{P:PD}{FT S:Nat->Prop}{lv ov:Value}{Ft:Nat->Prop}(hc:A4 S w w')(Y:∀k,k<w.heap.size->S k->FT k)(E:DA w' jb b lv ov J)(L:Bu w' b P Ft)(I:∀k,Ft k->k<w'.heap.size)(O:∀k,De jb lv ov k->¬Ft k)(W:∀k,Ft k->FT k\/w.heap.size<=k)(X:∀k,De jb lv ov k->FT k\/w.heap.size<=k):
 As w FT w' (λw' d=>JD w' jb b J P d):=
 ⟨hc.ad Y,λk=>Ft k\/De jb lv ov k,⟨lv,ov,Ft,E,L,I,O,λ_ h=>h⟩,λk z=>z.elim (I k) λh=>E.lt h,λk z=>z.elim (W k) (X k)⟩
def DA.ne{w:World}{jb b:Nat}{lv ov:Value}{J:Jn}(h:DA w jb b lv ov J){g:Nat}(d:lv.ownBlock=some g):g≠jb:=by
 obtain⟨c,z⟩:=B7 h.Av d;exact BM z h.Af (by decide)
def Bg.cX{w:World}{lb:Nat}{p:Value}{name:ByteArray}{s n:Nat}{v:Value}{xs:List Value}(h:Bg w lb 237 p name s)(d:w.ownsRow 0 3 1 v n xs){g:Nat}(z:v.ownBlock=some g):g≠lb:=by
 obtain⟨c,E⟩:=B7 d z;exact BM E h (by decide)
def Bg.dF{w:World}{lb jb b:Nat}{p:Value}{name:ByteArray}{s:Nat}{lv ov:Value}{last puts:Int}(h:Bg w lb 237 p name s)(d:Cx w jb b lv last puts ov):lb≠jb:=BM h d (by decide)
section
variable {w:World} {b B jb lb:Nat} {P:PD} {Ft FT:Nat->Prop} {a c m:Nat} {lv ov:Value} {J:Jn} {n:Int}
def S6(w:World)(h:DA w jb b lv ov J)(d:Ax (J.Ac+1)):
 Ag 199 #[A6 jb] w (Aj (A0 (J.Ac+1)) λw'=>w=w'):=by
 have c2:=h.Af.c2;obtain⟨r1,r2⟩:=d;have ew:wrap64 (J.Ac+1)=J.Ac+1:=by unfold wrap64;omega
 go_enter func199,ntmps199
 go_wp2;go_ret;exact⟨rfl,rfl⟩
def ZD(w:World)(hJ:DA w jb b lv ov J)(hl:J.Av.length<=1073741824):
 Ag 136 #[A6 jb] w λe w'=>∃v,e=.returned v/\Ee w' v J.Av/\(∀g,v.ownBlock=some g->w.heap.size<=g)/\A4 Aa w w':=by
 obtain⟨d,hi,O,W,X⟩:∃d,Tryz.prog.info? 3=some d/\d.zero=some (A0 0)/\d.size=1/\d.bytes=8:=by
  have h:=Tryz.cY;cases hx:Tryz.prog.info? 3 with
  | none=>rw[hx]at h;cases h
  | some i=>rw[hx]at h;simp at h;exact⟨i,rfl,h.1,h.2.1,h.2.2⟩
 have c1:=hJ.Af.c1;have z:=A1 (Src.bO underlying26 hJ.Av (KH J.Av));have E:Hid (w.ownsRow 0 3 1 (.slice none 0 0) 0 []):=Cp _ _ _ _;generalize J.Av=l at *
 go_enter func136,ntmps136
 go_wp2_with (at_builtin;refine CZ rfl (.const (.slice none 0 0)) (.tmp 6) 26 26 rfl 3 d _ 1 8 underlying26 hi O W X rfl (by decide) (.slice none 0 0) 0 [] (by rfl) E.o _ l.length _ (by rfl) z.o (by omega) ?_;intro a8 cap8 w8 L;have aA:=A1 L);go_ret;have L:=aA.o;have Y:=L.An (S:=λ_=>False) λ_ h=>by simp[Value.ownBlock]at h
 refine⟨_,rfl,?_,?_,Y⟩
 ·have:=L.AE;simp only[EU,GM]at this ⊢;exact this
 ·intro g hg;have I:=L.BS;simp only[GM]at I;cases a8 with
  | none=>simp[Value.ownBlock]at hg
  | some x=>
   simp[Value.ownBlock]at I hg;omega
def ZS(w:World)(z:DA w jb b lv ov J):
 Ag 201 #[A6 jb] w (Aj (.tuple #[]) λw'=>DA w' jb b (.slice none 0 0) (.pointer none) ⟨[],J.Ac,0,none⟩/\A4 (One jb) w w'):=by
 have h:=z.Af.s1 (.slice none 0 0);have d:=h.s3 0;have E:=d.s4 (.pointer none);have c1:=z.Af.c1;have f1:=z.Af.fz 1;have c3:=h.c3;have f3:=h.fz 3;have c4:=d.c4;have f4:=d.fz 4;have H:=A1 E
 go_enter func201,ntmps201
 go_wp2;go_end0;exact⟨rfl,⟨H.o,Cp _ _ _ _,.inl ⟨rfl,rfl⟩⟩,((((A4.C (One jb) w).aj (b:=jb) rfl 1 _).aj (b:=jb) rfl 3 _).aj (b:=jb) rfl 4 _)⟩
def A0j(w:World)(h:JD w jb b J P FT):
 Ag 119 #[A6 jb] w (Aj (A0 (J.ae P).1) λw'=>As w FT w' (λw' I=>JD w' jb b J (J.ae P).2 I)):=by
 obtain⟨lv,ov,Ft,L,hD,O,E,z⟩:=h;have c4:=L.Af.c4;rcases L.AE with⟨X,rfl⟩|⟨n,s,lb,X,rfl,hf,hs⟩
 ·have e:J.ae P=(0,P):=by unfold Jn.ae;rw[X]
  rw[e];have aD:=A1 (show As w FT w (λw' I=>JD w' jb b J P I) from As.jd (A4.C Aa w) (λ_ _ h=>h.elim) L hD O E (λk d=>.inl (z k (.inl d))) (λk d=>.inl (z k (.inr d))))
  go_enter func119,ntmps119
  go_wp2;go_ret;exact⟨rfl,aD.o⟩
 ·have e:J.ae P=P.ae (Ab (Ah n)):=by unfold Jn.ae;rw[X]
  rw[e];have W:=A1 (Qj hf hD);have e1:(⟨(Ah n).toArray⟩:ByteArray)=Ab (Ah n):=rfl;rw[e1]at W;generalize hR:P.ae (Ab (Ah n))=R at W ⊢;have aA:=A1 L;have aB:=A1 E;have Y:=A1 z
  go_enter func119,ntmps119
  go_wp2_with (go_at_call 164;refine W.m ?_;rintro e w2⟨rfl,hI⟩;have aE:=A1 hI);go_ret;obtain⟨r1,Ft',r2,r3,r4⟩:=aE.o;exact⟨rfl,As.jd r1 (λk _ d=>Y.o k (.inl d)) (aA.o.An r1 aB.o) r2 r3 (λk d hx=>by rcases r4 k hx with h|h;exact aB.o k d h;have:=aA.o.lt d;omega) (λk d=>(r4 k d).imp (λh=>Y.o k (.inl h)) id) (λk d=>.inl (Y.o k (.inr d)))⟩
def Zq(w:World)(ahead:Int)(h:Bu w b P Ft)(I:∀k,Ft k->k<w.heap.size)(hn:CJ n)(X:Lets B w)(ha:Ax ahead)(L:Fit P a c m)(E:CV (a+1) (c+1) (m+12)):
 Ag 236 #[A6 b,A0 n,A0 ahead] w λe w'=>
  ((P.ao (Ab (Ah n))).1≠0/\e=.returned (.tuple #[.pointer none,A0 (P.ao (Ab (Ah n))).1])/\As w Ft w' (λw' d=>Bu w' b (P.ao (Ab (Ah n))).2 d))\/
  ((P.ao (Ab (Ah n))).1=0/\((P.ao (Ab (Ah n))).2.af (Ab (Ah n)) (AI (Ah n)) (AO ahead)).2.1≠0/\e=.returned (.tuple #[.pointer none,A0 ((P.ao (Ab (Ah n))).2.af (Ab (Ah n)) (AI (Ah n)) (AO ahead)).2.1])/\As w Ft w' (λw' d=>Bu w' b ((P.ao (Ab (Ah n))).2.af (Ab (Ah n)) (AI (Ah n)) (AO ahead)).2.2 d))\/
  ((P.ao (Ab (Ah n))).1=0/\((P.ao (Ab (Ah n))).2.af (Ab (Ah n)) (AI (Ah n)) (AO ahead)).2.1=0/\∃lb,e=.returned (.tuple #[A6 lb,A0 0])/\w.heap.size<=lb/\Bg w' lb 237 (A6 b) ⟨(Ah n).toArray⟩ (AW (AI (Ah n)) (AO ahead))/\
    A4 Ft w w'/\∃d,Bu w' b ((P.ao (Ab (Ah n))).2.af (Ab (Ah n)) (AI (Ah n)) (AO ahead)).2.2 d/\(∀k,d k->k<w'.heap.size)/\(∀k,d k->Ft k\/w.heap.size<=k)/\¬d lb):=by
 have z:=L.ao (Ab (Ah n));have hp:(AS (AI (Ah n)) (AO ahead)).length=12:=by simp[AS,Hn,CL]
 have W:=z.aq (Ab (Ah n)) (AS (AI (Ah n)) (AO ahead));have Y:=JO W (Ab (Ah n));have O:=JO z (Ab (Ah n));have hm:=E.m;exact Zp w ahead P.D.AV (P.ao (Ab (Ah n))).2.D ((P.ao (Ab (Ah n))).2.aq (Ab (Ah n)) (AS (AI (Ah n)) (AO ahead))).2.D (P.ao (Ab (Ah n))).2.F ((P.ao (Ab (Ah n))).2.aq (Ab (Ah n)) (AS (AI (Ah n)) (AO ahead))).2.F _ _ h I hn X ha P.D.cx
  (by have:=L.A5;have:=L.An;have:=E.a;have:=E.c;omega) rfl rfl rfl z.AA (AQ z.bB (AQ (UA E.a (AQ (UD m 12) E.m)) (by decide))) z.BC
  (λf hf=>by have:=z.Bo f (G7 hf);omega) ⟨Lo Y (by rw[hp];omega),Lo O (by omega)⟩
def A3m(p:Pu)(name:ByteArray)(s:Nat)(O:Bg w lb 237 (A6 b) name s)(hs:s<4294967296)(h:Bu w b P Ft)(z:∀k,Ft k->k<w.heap.size)(hn:¬Ft lb)(hp:Bq p)(d:Fit P a c m)(W:CV a c (m+21)):
 Ag 191 #[A6 lb,DV p] w (Aj (.tuple #[.bool (P.af name s (Be p.1 p.2.1 p.2.2)).1,A0 (P.af name s (Be p.1 p.2.1 p.2.2)).2.1]) λw'=>
  Bg w' lb 237 (A6 b) name (AW s (Be p.1 p.2.1 p.2.2))/\Ji w Ft lb w' b (P.af name s (Be p.1 p.2.1 p.2.2)).2.2):=by
 obtain⟨⟨Y,h2⟩,h3,X⟩:=hp;have I:(AS s (Be p.1 p.2.1 p.2.2)).length=21:=by simp[AS,Hn,NP]
 have hA:=d.aq name (AS s (Be p.1 p.2.1 p.2.2));have hz:=JO hA name;have L:=JO d name;have hm:=W.m;have E:CV a c m:=⟨W.a,W.c,by omega⟩;exact A3l w lb name s p.1 p.2.1 p.2.2 ⟨Y,by omega⟩ h3 X O hs h z hn d.AA (d.et E) d.BC (λf O=>by have:=d.Bo f (G7 O);omega) ⟨Lo hz (by rw[I];omega),Lo L (by omega)⟩
end
def SX:∃d,Tryz.prog.info? 3=some d/\d.zero=some (A0 0)/\d.size=1/\d.bytes=8:=by
 have h:=Tryz.cY;cases hx:Tryz.prog.info? 3 with
 | none=>rw[hx]at h;cases h
 | some i=>rw[hx]at h;simp at h;exact⟨i,rfl,h.1,h.2.1,h.2.2⟩
section
variable {w:World} {b B jb lb:Nat} {P:PD} {Ft FT:Nat->Prop} {a c m:Nat} {lv ov:Value} {J:Jn} {n:Int}
def A2I(w:World)(h:JD w jb b J P FT)(ho:J.AE=none)(hn:CJ (J.Ac+1))(hr:Ax (J.Ac+1))(hp:Ax J.puts)(bD:J.Av.length<=1073741824)(hL:Lets B w)(hF:Fit P a c m)(hl:CV (a+1) (c+1) (m+12)):
 Ag 190 #[A6 jb] w (Aj (A0 (J.av P).1) λw'=>As w FT w' (λw' aT=>JD w' jb b (J.av P).2.1 (J.av P).2.2 aT)):=by
 obtain⟨i0,hi,bL,bW,bT⟩:=SX;obtain⟨lv,ov,Ft,hJ,hD,aS,aM,aN⟩:=h;have bN:ov=.pointer none:=by
  rcases hJ.AE with⟨_,h⟩|⟨n,s,lb,h,_⟩
  ·exact h
  ·rw[ho]at h;cases h
 subst bN
 have aD:Hid (J.av P=if (P.ao (Ab (Ah (J.Ac+1)))).1≠0 then ((P.ao (Ab (Ah (J.Ac+1)))).1,J,(P.ao (Ab (Ah (J.Ac+1)))).2) else
  if ((P.ao (Ab (Ah (J.Ac+1)))).2.af (Ab (Ah (J.Ac+1))) (AI (Ah (J.Ac+1))) (AO J.puts)).2.1≠0 then (((P.ao (Ab (Ah (J.Ac+1)))).2.af (Ab (Ah (J.Ac+1))) (AI (Ah (J.Ac+1))) (AO J.puts)).2.1,J,((P.ao (Ab (Ah (J.Ac+1)))).2.af (Ab (Ah (J.Ac+1))) (AI (Ah (J.Ac+1))) (AO J.puts)).2.2) else
  (0,⟨J.Av++[J.Ac+1],J.Ac+1,J.puts,some (J.Ac+1,AW (AI (Ah (J.Ac+1))) (AO J.puts))⟩,((P.ao (Ab (Ah (J.Ac+1)))).2.af (Ab (Ah (J.Ac+1))) (AI (Ah (J.Ac+1))) (AO J.puts)).2.2)):=rfl
 have aJ:Hid (∀w1,A4 Aa w w1->_):=λw1 hc=>Zq w1 J.puts (AU.au hD aS hc) (λk d=>Bi (aS k d) hc.Al) hn (hL.aM hc) hp hF hl;have bS:Hid (∀w1,A4 Aa w w1->_):=λw1 hc=>S6 w1 (hJ.al hc) hr;generalize hR:J.av P=R at aD ⊢;obtain⟨L,a0⟩:∃L,J.Ac+1=L:=⟨_,rfl⟩;rw[a0]at aD aJ bS hr hn;have aI:(Ah L).length<=100:=S3 hn.2.2;obtain⟨nm,aQ⟩:∃nm,Ah L=nm:=⟨_,rfl⟩;rw[aQ]at aD aJ;obtain⟨s0,aU⟩:∃s0,AI nm=s0:=⟨_,rfl⟩;have aL:s0<4294967296:=by rw[<-aU];exact Js nm
 rw[aU]at aD aJ;obtain⟨C,hC⟩:∃C,P.ao (Ab nm)=C:=⟨_,rfl⟩;rw[hC]at aD aJ;obtain⟨A,hA⟩:∃A,C.2.af (Ab nm) s0 (AO J.puts)=A:=⟨_,rfl⟩;rw[hA]at aD aJ;have bB:AW s0 (AO J.puts)<4294967296:=Jp _ _ aL;obtain⟨s1,aK⟩:∃s1,AW s0 (AO J.puts)=s1:=⟨_,rfl⟩;rw[aK]at aD aJ bB;have c0:=hJ.Af.aa.c0;have c3:=hJ.Af.aa.c3;have bE:=A1 hJ;have a3:=A1 aM;have aG:=A1 aN;have HO:=A1 ho;have aO:=A1 a0;have bP:=A1 aQ;have a7:=A1 bD;have aZ:=A1 (bS.o w.drew (A4.C _ w).aa);have aB:=A1 (aJ.o w.drew (A4.C _ w).aa);clear hC hA hR aU aL aK aI aQ a0 hJ hD aS aM aN ho bD hL hF hl hp bS aJ;have E:Hid (∀wx,A4 Ft w.drew wx->DA wx jb b lv (.pointer none) J):=λwx X=>(bE.o.al (A4.C Aa w).aa).An X a3.o
 have aE:Hid (∀wx (bO:PD),As w.drew Ft wx (λw' z=>Bu w' b bO z)->As w FT wx (λw' aT=>JD w' jb b J bO aT)):=λwx bO X=>by
  obtain⟨r1,z,r2,r3,r4⟩:=X;exact As.jd ((A4.C Ft w).aa.tr r1) (λk _ d=>aG.o k (.inl d)) (E.o wx r1) r2 r3 (λk d X=>by rcases r4 k X with h|h;exact a3.o k d h;have:=bE.o.lt d;have h':w.heap.size<=k:=h;omega) (λk d=>(r4 k d).imp (λh=>aG.o k (.inl h)) id) (λk d=>.inl (aG.o k (.inr d)))
 by_cases hc:C.1=0
 case neg=>
  have aF:R=(C.1,J,C.2):=by rw[aD.o,Ai hc]
  subst aF;have I:Hid (Ag 236 #[A6 b,A0 L,A0 J.puts] w.drew (Aj (.tuple #[.pointer none,A0 C.1]) λw'=>As w.drew Ft w' (λw' z=>Bu w' b C.2 z))):=by
   refine aB.m ?_;rintro e w' (⟨_,h2,h3⟩|⟨h1,_⟩|⟨h1,_⟩)
   ·exact⟨h2,h3⟩
   ·exact absurd h1 hc
   ·exact absurd h1 hc
  have aY:(C.1 !=0)=true:=by simpa using hc
  obtain⟨C1,b6⟩:=C;dsimp only at I aY ⊢;clear aB aD
  go_enter func190,ntmps190
  go_wp2;refine Bt (λw'=>A8 w' jb 0 (A6 b)/\A8 w' jb 3 (A0 J.puts)) 15
   (Bb [0,1,2,3,4,6,7,8,9,5,10,11,12,13,14] [5,10]) ⟨c0,c3⟩ ?_
  iterate 9 (refine B1 ?_;(try simp only[Ak]))
  refine Bd λK O=>?_;go_simp;refine aZ.m ?_;rintro e w3⟨rfl,rfl⟩;refine O _ _ ⟨c0,c3⟩ (λhS=>?_);clear O K hS
  (try simp only[Ak])
  refine Bd λK O=>?_;go_simp;refine I.m ?_;rintro e w4⟨rfl,hI⟩;have k4:=E.o w4 hI.1;refine O _ _ ⟨k4.Af.c0,k4.Af.c3⟩ (λhS=>?_);have bQ:=A1 (aE.o w4 b6 hI);clear O K hS hI k4 I aE E
  (try simp only[Ak])
  iterate 4 (refine B1 ?_;(try simp only[Ak]))
  refine B4 ?_;simp only[Bm,Bl];go_wp2;go_ret;exact⟨rfl,bQ.o⟩
 case pos=>
 by_cases ha:A.2.1=0
 case neg=>
  have aF:R=(A.2.1,J,A.2.2):=by rw[aD.o,Ae (by simpa using hc),Ai ha]
  subst aF;have I:Hid (Ag 236 #[A6 b,A0 L,A0 J.puts] w.drew (Aj (.tuple #[.pointer none,A0 A.2.1]) λw'=>As w.drew Ft w' (λw' z=>Bu w' b A.2.2 z))):=by
   refine aB.m ?_;rintro e w' (⟨h1,_⟩|⟨_,_,h2,h3⟩|⟨_,h1,_⟩)
   ·exact absurd hc h1
   ·exact⟨h2,h3⟩
   ·exact absurd h1 ha
  have aY:(A.2.1 !=0)=true:=by simpa using ha
  obtain⟨b3,b2,b0⟩:=A;dsimp only at I aY ⊢;clear aB aD
  go_enter func190,ntmps190
  go_wp2;refine Bt (λw'=>A8 w' jb 0 (A6 b)/\A8 w' jb 3 (A0 J.puts)) 15
   (Bb [0,1,2,3,4,6,7,8,9,5,10,11,12,13,14] [5,10]) ⟨c0,c3⟩ ?_
  iterate 9 (refine B1 ?_;(try simp only[Ak]))
  refine Bd λK O=>?_;go_simp;refine aZ.m ?_;rintro e w3⟨rfl,rfl⟩;refine O _ _ ⟨c0,c3⟩ (λhS=>?_);clear O K hS
  (try simp only[Ak])
  refine Bd λK O=>?_;go_simp;refine I.m ?_;rintro e w4⟨rfl,hI⟩;have k4:=E.o w4 hI.1;refine O _ _ ⟨k4.Af.c0,k4.Af.c3⟩ (λhS=>?_);have bQ:=A1 (aE.o w4 b0 hI);clear O K hS hI k4 I aE E
  (try simp only[Ak])
  iterate 4 (refine B1 ?_;(try simp only[Ak]))
  refine B4 ?_;simp only[Bm,Bl];go_wp2;go_ret;exact⟨rfl,bQ.o⟩
 case pos=>
  have aF:R=(0,⟨J.Av++[L],L,J.puts,some (L,s1)⟩,A.2.2):=by rw[aD.o,Ae (by simpa using hc),Ae (by simpa using ha)]
  subst aF;have I:Hid (Ag 236 #[A6 b,A0 L,A0 J.puts] w.drew λe w'=>∃lb,e=.returned (.tuple #[A6 lb,A0 0])/\w.drew.heap.size<=lb/\Bg w' lb 237 (A6 b) ⟨nm.toArray⟩ s1/\A4 Ft w.drew w'/\∃z,Bu w' b A.2.2 z/\(∀k,z k->k<w'.heap.size)/\(∀k,z k->Ft k\/w.drew.heap.size<=k)/\¬z lb):=by
   refine aB.m ?_;rintro e w' (⟨h1,_⟩|⟨_,h1,_⟩|⟨_,_,h2⟩)
   ·exact absurd hc h1
   ·exact absurd ha h1
   ·exact h2
  obtain⟨b3,b2,b0⟩:=A;dsimp only at I ⊢;clear aB aD aE
  go_enter func190,ntmps190
  go_wp2;refine Bt (λw'=>A8 w' jb 0 (A6 b)/\A8 w' jb 3 (A0 J.puts)) 15
   (Bb [0,1,2,3,4,6,7,8,9,5,10,11,12,13,14] [5,10]) ⟨c0,c3⟩ ?_
  iterate 9 (refine B1 ?_;(try simp only[Ak]))
  refine Bd λK O=>?_;go_simp;refine aZ.m ?_;rintro e w3⟨rfl,rfl⟩;refine O _ _ ⟨c0,c3⟩ (λhS=>?_);clear O K hS
  (try simp only[Ak])
  refine Bd λK O=>?_;go_simp;refine I.m ?_;rintro e w4⟨lb,rfl,aI,a5,aW,bG,q1,q2,q3,q4⟩;have k4:=E.o w4 aW;refine O _ _ ⟨k4.Af.c0,k4.Af.c3⟩ (λhS=>?_);have a2:=A1 k4;have bK:Hid (w.heap.size<=lb):=aI;have aV:=A1 a5;have bY:Hid (A4 Ft w w4):=(A4.C Ft w).aa.tr aW;have cA:=A1 q1;have bX:=A1 q2;have bH:Hid (∀k,bG k->Ft k\/w.heap.size<=k):=q3;have b1:=A1 q4;clear O K hS aW aI a5 q1 q2 q3 q4 I E
  (try simp only[Ak])
  iterate 4 (refine B1 ?_;(try simp only[Ak]))
  refine B4 ?_;simp only[Bm,Bl];have b5:=a2.o.Af.s4 (A6 lb);have g44:=k4.Af.c4;have f44:=k4.Af.fz 4;have g52:=b5.c2;have f52:=b5.fz 2;have bI:=A1 (b5.s2 L);have ew:wrap64 (J.Ac+1)=L:=by have:=aO.o;have:=hr.1;have:=hr.2;unfold wrap64;omega
  have ew2:IntKind.i64.wrap (J.Ac+1)=L:=by have:=aO.o;have:=hr.1;have:=hr.2;simp[IntKind.wrap,IntKind.bits,IntKind.signed];omega
  have c5:A4 (One jb) w4 ((w4.setCell (A9 jb 4) (A6 lb)).setCell (A9 jb 2) (A0 L)):=((A4.C (One jb) w4).aj (b:=jb) rfl 4 _).aj (b:=jb) rfl 2 _;have a4:=A1 c5;clear b5 k4 c5;have bA:Hid (lb≠jb):=aV.o.dF a2.o.Af;have aH:Hid (∀g,lv.ownBlock=some g->g≠jb/\g≠lb):=λg Y=>⟨a2.o.ne Y,aV.o.cX a2.o.Av Y⟩
  go_wp2;generalize (w4.setCell (A9 jb 4) (A6 lb)).setCell (A9 jb 2) (A0 L)=w6 at bI a4 ⊢;have aX:Hid (w6.ownsRow 0 3 1 lv J.Av.length (Ef J.Av)):=Aw a2.o.Av λg Y=>a4.o.Am g (Ay a2.o.Av Y) (aH.o g Y).1;have bR:=A1 (aV.o.ai a4.o bA.o);have b4:=bI.o.aa.c1;have b8:=bI.o.aa.c2;obtain⟨ap,cp,rfl,hcap1,a1,-⟩:=Bk aX.o;unfold maxLen at a1;refine Bt (λw'=>A8 w' jb 1 (.slice ap J.Av.length cp)/\A8 w' jb 2 (A0 L)) 11
   (Bb [0,1,2,3,4,5,6,7,8,9,10] [9,10]) ⟨b4,b8⟩ ?_
  iterate 9 (refine B1 ?_;(try simp only[Ak]))
  refine Bd λK O=>?_;go_simp;have ka:A4 Aa w6 (w6.aC #[A0 L] 3).drew:=((A4.C _ _).ah _).aa;have bJ:=bI.o.ai ka (λh=>h);have bV:Hid ((w6.aC #[A0 L] 3).drew.ownsRow 0 3 1 (.slice ap J.Av.length cp) J.Av.length (Ef J.Av)):=Aw aX.o λg Y=>ka.Am g (Ay aX.o Y) (λh=>h);have bF:Hid (Src Tryz.prog 1 26 (AB w6.heap.size 1 1) 1 #[A0 L].toList (w6.aC #[A0 L] 3).drew):=by
   have hb:(w6.aC #[A0 L] 3).drew.heap[w6.heap.size]?=some (.cells #[A0 L] 3 (0,0)):=Bf w6 _;exact Src.b5 underlying26 hb 1 1 rfl (KH [L])
  refine O _ _ ⟨bJ.c1,bJ.c2⟩ (λhS=>?_)
  (try simp only[Ak])
  refine Di rfl (by rfl) (λK O=>?_);refine Hm (.tmp 37) (.tmp 42) 26 26 rfl 3 i0 _ 1 8 underlying26 hi bL bW bT rfl (by decide) (.slice ap J.Av.length cp) J.Av.length (Ef J.Av) (by rfl) bV.o _ 1 _ (by rfl) bF.o (by have:=a7.o;omega) ?_;intro a8 W w8 hA;have aP:=hA.An (S:=λk=>(Value.slice ap J.Av.length cp).ownBlock=some k) λ_ h=>h;have a6:=bJ.ai aP (λh=>(aH.o _ h).1 rfl);refine O _ _ ⟨a6.c1,a6.c2⟩ (λhS=>?_);have g81:=a6.c1;have f81:=a6.fz 1;have b7:=A1 (a6.s1 (.slice a8 (J.Av.length+1) W));have bU:=A1 ((bR.o.ai ka (λh=>h)).ai aP (λh=>(aH.o _ h).2 rfl));have a9:=A1 hA.AE;have bM:=A1 hA.BS;have bZ:Hid (A4 (λk=>(Value.slice ap J.Av.length cp).ownBlock=some k) w6 w8):=(ka.ad λ_ _ h=>h.elim).tr aP;have b9:Hid (w6.heap.size<=w8.heap.size/\w6.heap.size<=(w6.aC #[A0 L] 3).drew.heap.size):=⟨bZ.o.Al,ka.Al⟩
  (try simp only[Ak])
  refine B4 ?_;simp only[Bm,Bl];go_wp2;go_ret;have aA:∀g,(Value.slice a8 (J.Av.length+1) W).ownBlock=some g->(Value.slice ap J.Av.length cp).ownBlock=some g\/w6.heap.size<=g:=λg Y=>by
   rcases bM.o with h|h
   ·rw[h]at Y;exact .inl Y
   ·rw[h]at Y;cases Y;exact .inr b9.o.2
  have s46:=a4.o.Al;have s04:=bY.o.Al;have jbl:=bE.o.Af.lt;have bC:∀g,(Value.slice a8 (J.Av.length+1) W).ownBlock=some g->g≠jb:=λg Y=>by
   rcases aA g Y with h|h
   ·exact(aH.o g h).1
   ·omega
  have kf:A4 (One jb) w8 (w8.setCell (A9 jb 1) (.slice a8 (J.Av.length+1) W)):=(A4.C (One jb) w8).aj (b:=jb) rfl 1 _;have aR:A4 (λk=>k=jb\/(Value.slice ap J.Av.length cp).ownBlock=some k) w4 (w8.setCell (A9 jb 1) (.slice a8 (J.Av.length+1) W)):=
   ((a4.o.ad λ_ _ h=>.inl h).Au bZ.o λ_ h _=>.inr h).Au kf λ_ h _=>.inl h
  refine⟨rfl,As.jd (lv:=.slice a8 (J.Av.length+1) W) (ov:=(A6 lb)) (Ft:=bG) ((bY.o.ad (S':=λk=>Ft k\/k=jb\/(Value.slice ap J.Av.length cp).ownBlock=some k) λ_ _ h=>.inl h).Au aR λ_ h _=>.inr h) ?_ ⟨b7.o,?_,.inr ⟨L,s1,lb,rfl,rfl,?_,bB⟩⟩ ?_ ?_ ?_ ?_ ?_⟩
  ·rintro k _ (h|rfl|h)
   ·exact aG.o k (.inl h)
   ·exact aG.o _ (.inr (.inl rfl))
   ·exact aG.o k (.inr (.inr (.inl h)))
  ·(have e:(J.Av++[L]).length=J.Av.length+1:=by simp);unfold Ee;rw[Md,e];exact Aw a9.o λg Y=>Fg _ _ _ _ (λe=>bC g Y e)
  ·rw[bP.o];exact bU.o.ai kf bA.o
  ·refine AU.aI cA.o (aR.au bX.o λk d X=>?_);rcases bH.o k d with h|h
   ·rcases X with rfl|X
    ·exact a3.o _ (.inl rfl) h
    ·exact a3.o k (.inr (.inl X)) h
   ·rcases X with rfl|X
    ·omega
    ·have:=Ay bE.o.Av X;omega
  ·exact λk d=>Bi (bX.o k d) aR.Al
  ·rintro k (rfl|d|d) X
   ·rcases bH.o _ X with h|h
    ·exact a3.o _ (.inl rfl) h
    ·omega
   ·rcases aA k d with h|h
    ·rcases bH.o k X with h' | h'
     ·exact a3.o k (.inr (.inl h)) h'
     ·have:=Ay bE.o.Av h;omega
    ·have:=bX.o k X;omega
   ·cases d;exact b1.o X
  ·exact λk d=>(bH.o k d).imp (λh=>aG.o k (.inl h)) id
  ·rintro k (rfl|d|d)
   ·exact .inl (aG.o _ (.inr (.inl rfl)))
   ·rcases aA k d with h|h
    ·exact .inl (aG.o k (.inr (.inr (.inl h))))
    ·exact .inr (by omega)
   ·cases d;exact .inr bK.o
end
def Ol{w:World}{jb b:Nat}{lv ov:Value}{J:Jn}(h:DA w jb b lv ov J){n:Int}{s:Nat}(z:J.AE=some (n,s)):∃lb,ov=(A6 lb)/\Bg w lb 237 (A6 b) ⟨(Ah n).toArray⟩ s/\s<4294967296:=by
 rcases h.AE with⟨d,_⟩|⟨n',s',lb,d,E,L,I⟩
 ·rw[z]at d;cases d
 ·rw[z]at d;cases d;exact⟨lb,E,L,I⟩
section
variable {w w' w1 w2:World} {b B jb lb pb:Nat} {P:PD} {Ft FT:Nat->Prop} {a c m:Nat} {lv ov:Value} {J:Jn} {n:Int} {s:Nat}
def DA.fi{P':PD}(E:DA w jb b lv (.pointer (some ⟨lb,0,none⟩)) J)(ho:J.AE=some (n,s))(_hlt:∀k,Ft k->k<w.heap.size)(z:∀k,De jb lv (.pointer (some ⟨lb,0,none⟩)) k->¬Ft k)(d:∀k,Ft k\/De jb lv (.pointer (some ⟨lb,0,none⟩)) k->FT k){s':Nat}(O:s'<4294967296)(hf:Bg w' lb 237 (.pointer (some ⟨b,0,none⟩)) ⟨(Ah n).toArray⟩ s')(hI:Ji w Ft lb w' b P'):
 As w FT w' (λw' X=>JD w' jb b {J with AE:=some (n,s')} P' X):=by
 obtain⟨lb',e,h3,_⟩:=Ol E ho;cases e;obtain⟨W,Ft',r2,r3,Y⟩:=hI;have n1:lb≠jb:=h3.dF E.Af;have n2:∀g,lv.ownBlock=some g->g≠lb:=λg L=>h3.cX E.Av L;refine As.jd W ?_ ⟨E.Af.ai W ?_,?_,.inr ⟨n,s',lb,rfl,rfl,hf,O⟩⟩ r2 r3 ?_ ?_ ?_
 ·rintro k _ (h|rfl)
  ·exact d k (.inl h)
  ·exact d _ (.inr (.inr (.inr rfl)))
 ·rintro (h|h)
  ·exact z _ (.inl rfl) h
  ·exact n1 h.symm
 ·exact Aw E.Av λg L=>W.Am g (Ay E.Av L) λh=>by
   rcases h with h|h
   ·exact z g (.inr (.inl L)) h
   ·exact n2 g L h
 ·exact λk I hx=>by
   rcases Y k hx with h|h
   ·exact z k I h
   ·have:=E.lt I;omega
 ·exact λk I=>(Y k I).imp (λh=>d k (.inl h)) id
 ·exact λk I=>.inl (d k (.inr I))
def A0l(w:World)(p:Pu)(h:JD w jb b J P FT)(hp:Bq p)(hn:J.AE=none->CJ (J.Ac+1)/\Ax (J.Ac+1)/\Ax J.puts)(bK:J.Av.length<=1073741824)(hL:Lets B w)(hF:Fit P a c m)(hl:CV (a+1) (c+1) (m+33)):
 Ag 148 #[A6 jb,DV p] w (Aj (.tuple #[.bool (J.af P p).1,A0 (J.af P p).2.1]) λw'=>As w FT w' (λw' I=>JD w' jb b (J.af P p).2.2.1 (J.af P p).2.2.2 I)):=by
 obtain⟨E,z,d⟩:=p;unfold DV;dsimp only
 obtain⟨O,L,W,aD,bI,aL,aM,aG⟩:=h;have a8:CV (a+1) (c+1) (m+12):=⟨hl.a,hl.c,by have:=hl.m;omega⟩;have bJ:C7 (w.aC #[A0 E,A0 z,A0 d] 113) w.heap.size E z d:=Bf w _;have k0:A4 Aa w (w.aC #[A0 E,A0 z,A0 d] 113):=(A4.C _ w).ah _;have sz:w.heap.size<(w.aC #[A0 E,A0 z,A0 d] 113).heap.size:=by simp
 have hex:JD w jb b J P (λk=>W k\/De jb O L k):=⟨O,L,W,aD,bI,aL,aM,λ_ h=>h⟩;have aN:∀k,(W k\/De jb O L k)->k<w.heap.size:=λk hk=>hk.elim (aL k) λh=>aD.lt h;have h1:JD (w.aC #[A0 E,A0 z,A0 d] 113) jb b J P (λk=>W k\/De jb O L k):=hex.aI (k0.au aN λ_ _ h=>h) k0.Al;have bB:=hL.aM k0
 have AD:Hid (∀(w1:World) (aA:Jn) (aB:PD) (Y:Nat->Prop) (n:Int) (s:Nat),A4 (λk=>W k\/De jb O L k) (w.aC #[A0 E,A0 z,A0 d] 113) w1->(∀k,Y k->(W k\/De jb O L k)\/(w.aC #[A0 E,A0 z,A0 d] 113).heap.size<=k)->JD w1 jb b aA aB Y->aA.AE=some (n,s)->Fit aB (a+1) (c+1) (m+12)->
  ∃lb,A8 w1 jb 4 (A6 lb)/\C7 w1 w.heap.size E z d/\Ag 191 #[A6 lb,.agg #[A0 E,A0 z,A0 d]] w1.drew (Aj (.tuple #[.bool (aA.ay aB (E,z,d)).1,A0 (aA.ay aB (E,z,d)).2.1]) λw'=>
   w'.cell? (A9 jb 4)=some (A6 lb)/\C7 w' w.heap.size E z d/\As w FT w' (λw' I=>JD w' jb b (aA.ay aB (E,z,d)).2.2.1 (aA.ay aB (E,z,d)).2.2.2 I))):=λw1 aA aB Y n s aV aQ bH aR bF=>by
  obtain⟨lv,ov,Ft,hJ,hD,aO,aE,aF⟩:=bH;obtain⟨lb,rfl,h3,h4⟩:=Ol hJ aR;have aJ:=bJ.ai aV (λhx=>by have:=aN _ hx;omega);have a0:¬Y w.heap.size:=λhx=>by
   rcases aQ _ hx with h|h
   ·have:=aN _ h;omega
   ·omega
  have kd:A4 Aa w1 w1.drew:=(A4.C _ w1).aa;have a3:=hJ.al kd;have aK:∀k,Ft k->k<w1.drew.heap.size:=aO;refine⟨lb,hJ.Af.c4,aJ,(A3m (E,z,d) _ s (h3.ai kd (λh=>h)) h4 (AU.au hD aO kd) aK (λhx=>aE _ (.inr (.inr rfl)) hx) hp bF ⟨hl.a,hl.c,by have:=hl.m;omega⟩).mono ?_⟩;rintro e w'⟨rfl,hf,hI⟩;have he:aA.ay aB (E,z,d)=((aB.af (Ab (Ah n)) s (Be E z d)).1,(aB.af (Ab (Ah n)) s (Be E z d)).2.1,{aA with AE:=some (n,AW s (Be E z d))},(aB.af (Ab (Ah n)) s (Be E z d)).2.2):=by unfold Jn.ay;rw[aR]
  rw[he];have bC:=DA.fi a3 aR aK aE aF (Jp s (Be E z d) h4) hf hI
  have bA:Cx w' jb b lv aA.Ac aA.puts (A6 lb):=a3.Af.ai hI.1 (by
   rintro (h|h)
   ·exact aE _ (.inl rfl) h
   ·exact h3.dF hJ.Af h.symm)
  refine⟨rfl,bA.c4,aJ.aa.ai hI.1 (by
   rintro (h|h)
   ·exact a0 (aF _ (.inl h))
   ·exact a0 (aF _ (.inr (.inr (.inr (by rw[h])))))),?_⟩
  have hall:As (w.aC #[A0 E,A0 z,A0 d] 113) (λk=>W k\/De jb O L k) w' (λw' I=>JD w' jb b {aA with AE:=some (n,AW s (Be E z d))} (aB.af (Ab (Ah n)) s (Be E z d)).2.2 I):=by
   obtain⟨q1,a7,q2,q3,q4⟩:=bC.aY kd;exact⟨aV.Au q1 λx hx aO=>(aQ x hx).resolve_right (by omega),a7,q2,q3,λk hk=>(q4 k hk).elim (λh=>aQ k h) λh=>.inr (AQ aV.Al h)⟩
  exact(hall.aY k0).aR aG
 by_cases ho:J.AE=none
 case pos=>
  have aX:L=.pointer none:=by
   rcases aD.AE with⟨_,h⟩|⟨n,s,lb,h,_⟩
   ·exact h
   ·rw[ho]at h;cases h
  obtain⟨n1,n2,n3⟩:=hn ho;have a4:=A1 (A2I _ h1 ho n1 n2 n3 bK bB hF a8);have c4:=(aD.al k0).Af.c4;rw[aX]at c4;have aY:Hid (J.af P (E,z,d)=if (J.av P).1≠0 then (false,(J.av P).1,(J.av P).2.1,(J.av P).2.2) else (J.av P).2.1.ay (J.av P).2.2 (E,z,d)):=by unfold Hid Jn.af;rw[Ai ho]
  have aT:Hid (Fit (J.av P).2.2 (a+1) (c+1) (m+12)):=by
   (have hp:(AS (AI (Ah (J.Ac+1))) (AO J.puts)).length=12:=by simp[AS,Hn,CL]);have a2:=hF.ao (Ab (Ah (J.Ac+1)));have aP:=a2.aq (Ab (Ah (J.Ac+1))) (AS (AI (Ah (J.Ac+1))) (AO J.puts));rw[hp]at aP;unfold Hid Jn.av;split
   ·exact a2.ad (Ao _) (Ao _) (by omega)
   ·dsimp only
    split
    ·exact aP
    ·exact aP
  have bD:Hid ((J.av P).1=0->∃n s,(J.av P).2.1.AE=some (n,s)):=λh0=>by
   unfold Jn.av at h0 ⊢;split
   ·rename_i hc;rw[Ai hc]at h0;exact absurd h0 hc
   ·rename_i hc;rw[Ae hc]at h0;dsimp only at h0 ⊢;split
    ·rename_i hd;rw[Ai hd]at h0;exact absurd h0 hd
    ·exact⟨_,_,rfl⟩
  have bG:Hid (∀wx bE bL,As (w.aC #[A0 E,A0 z,A0 d] 113) (λk=>W k\/De jb O L k) wx (λw' I=>JD w' jb b bE bL I)->As w FT wx (λw' I=>JD w' jb b bE bL I)):=λwx bE bL hx=>(hx.aY k0).aR aG
  generalize hR:J.af P (E,z,d)=R at aY ⊢;generalize hG:J.av P=G at a4 aY aT bD;obtain⟨a9,a6,a5⟩:=G;dsimp only at a4 aY aT bD;by_cases hg:a9=0
  case neg=>
   (have aH:R=(false,a9,a6,a5):=by rw[aY.o,Ai hg]);subst aH;(have hgb:(a9 !=0)=true:=by simpa using hg)
   go_enter func148,ntmps148
   go_wp2_with (go_at_call 190;refine a4.m ?_;rintro e w2⟨rfl,hI⟩;have aZ:=A1 (bG.o _ _ _ hI));go_ret2;exact⟨rfl,aZ.o⟩
  case pos=>
   subst hg;(have aH:R=a6.ay a5 (E,z,d):=by rw[aY.o,Ae (by simp)]);obtain⟨n,s,aI⟩:=bD.o rfl
   have a1:Hid (∀w2,As (w.aC #[A0 E,A0 z,A0 d] 113) (λk=>W k\/De jb O L k) w2 (λw' I=>JD w' jb b a6 a5 I)->∃lb,A8 w2 jb 4 (A6 lb)/\C7 w2 w.heap.size E z d/\Ag 191 #[A6 lb,.agg #[A0 E,A0 z,A0 d]] w2.drew (Aj (.tuple #[.bool R.1,A0 R.2.1]) λw'=>
    w'.cell? (A9 jb 4)=some (A6 lb)/\C7 w' w.heap.size E z d/\As w FT w' (λw' I=>JD w' jb b R.2.2.1 R.2.2.2 I))):=λw2 hI=>by
    obtain⟨q1,Y,q2,q3,q4⟩:=hI;rw[aH];exact AD.o w2 a6 a5 Y n s q1 q4 q2 aI aT.o
   obtain⟨bO,bN,bM,bP⟩:=R;dsimp only at a1
   go_enter func148,ntmps148
   go_wp2_with (fail);refine a4.m ?_;rintro e w2⟨rfl,hI⟩;obtain⟨lb,aU,X,aW⟩:=a1.o w2 hI;have aS:=A1 aW;have d4:A8 w2.drew jb 4 (A6 lb):=aU;have d0:=X.aa.c0;have d1:=X.aa.c1;have d2:=X.aa.c2;go_wp2;refine Bt (λw'=>A8 w' jb 4 (A6 lb)/\A8 w' w.heap.size 0 (A0 E)/\A8 w' w.heap.size 1 (A0 z)/\A8 w' w.heap.size 2 (A0 d)) 8
    (Bb [0,1,2,3,4,5,6,7] [5]) ⟨d4,d0,d1,d2⟩ ?_
   iterate 5 (refine B1 ?_;(try simp only[Ak]))
   refine Bd λK hK=>?_;go_simp;refine aS.m ?_;rintro e w3⟨rfl,e4,eb,hI⟩;refine hK _ _ ⟨e4,eb.c0,eb.c1,eb.c2⟩ (λhS=>?_);have aZ:=A1 hI
   (try simp only[Ak])
   iterate 2 (refine B1 ?_;(try simp only[Ak]))
   refine B4 ?_;simp only[Bm,Bl];go_wp2;go_ret2;exact⟨rfl,aZ.o⟩
 case neg=>
  obtain⟨⟨n,s⟩,aI⟩:∃x,J.AE=some x:=Pg.1 ho;obtain⟨lb0,aX,-,-⟩:=Ol aD aI;have aH:J.af P (E,z,d)=J.ay P (E,z,d):=by unfold Jn.af;rw[Ae ho]
  obtain⟨lb,aU,X,aW⟩:=AD.o _ J P _ n s (A4.C _ _) (λk hk=>.inl hk) h1 aI (hF.ad (by omega) (by omega) (by omega));rw[<-aH]at aW;generalize hR:J.af P (E,z,d)=R at aW ⊢;obtain⟨bO,bN,bM,bP⟩:=R;dsimp only at aW ⊢;have aS:=A1 aW;have d4:(w.aC #[A0 E,A0 z,A0 d] 113).drew.cell? (A9 jb 4)=some (A6 lb):=aU;have d0:=X.aa.c0;have d1:=X.aa.c1;have d2:=X.aa.c2
  go_enter func148,ntmps148
  go_wp2;refine Bt (λw'=>A8 w' jb 4 (A6 lb)/\A8 w' w.heap.size 0 (A0 E)/\A8 w' w.heap.size 1 (A0 z)/\A8 w' w.heap.size 2 (A0 d)) 8
   (Bb [0,1,2,3,4,5,6,7] [5]) ⟨d4,d0,d1,d2⟩ ?_
  iterate 5 (refine B1 ?_;(try simp only[Ak]))
  refine Bd λK hK=>?_;go_simp;refine aS.m ?_;rintro e w3⟨rfl,e4,eb,hI⟩;refine hK _ _ ⟨e4,eb.c0,eb.c1,eb.c2⟩ (λhS=>?_);have aZ:=A1 hI
  (try simp only[Ak])
  iterate 2 (refine B1 ?_;(try simp only[Ak]))
  refine B4 ?_;simp only[Bm,Bl];go_wp2;go_ret2;exact⟨rfl,aZ.o⟩
end
end
section
open Go.RowKit
def D5(w:World)(ab b xb jb:Nat)(last:Int)(ov:Value):Prop:=w.heap[ab]?=some (.cells #[.pointer (some ⟨b,0,none⟩),.pointer (some ⟨xb,0,none⟩),.pointer (some ⟨jb,0,none⟩),.int .i64 last,ov] 150 (0,0))
section
variable {w w':World} {ab b xb jb:Nat} {last:Int} {ov:Value}
def D5.c0(h:D5 w ab b xb jb last ov):A8 w ab 0 (A6 b):=by unfold D5 at h;simp[A8,World.cell?,h]
def D5.c1(h:D5 w ab b xb jb last ov):A8 w ab 1 (A6 xb):=by unfold D5 at h;simp[A8,World.cell?,h]
def D5.c2(h:D5 w ab b xb jb last ov):A8 w ab 2 (A6 jb):=by unfold D5 at h;simp[A8,World.cell?,h]
def D5.c3(h:D5 w ab b xb jb last ov):A8 w ab 3 (A0 last):=by unfold D5 at h;simp[A8,World.cell?,h]
def D5.c4(h:D5 w ab b xb jb last ov):A8 w ab 4 ov:=by unfold D5 at h;simp[A8,World.cell?,h]
def D5.fz(h:D5 w ab b xb jb last ov)(o:Nat):w.frozen? (A9 ab o)=false:=by unfold D5 at h;simp[World.frozen?,h]
def D5.lt(h:D5 w ab b xb jb last ov):ab<w.heap.size:=By h
def D5.s3(h:D5 w ab b xb jb last ov)(x:Int):D5 (w.setCell (A9 ab 3) (A0 x)) ab b xb jb x ov:=BL h
def D5.s4(h:D5 w ab b xb jb last ov)(x:Value):D5 (w.setCell (A9 ab 4) x) ab b xb jb last x:=BL h
def D5.aa(h:D5 w ab b xb jb last ov):D5 w.drew ab b xb jb last ov:=by unfold D5 at h ⊢;exact h
def D5.ai{S:Nat->Prop}(h:D5 w ab b xb jb last ov)(d:A4 S w w')(z:¬S ab):D5 w' ab b xb jb last ov:=d.ai h z
end
def Fv(ab xb jb:Nat)(sv ov lv jo:Value)(k:Nat):Prop:=k=ab\/k=xb\/sv.ownBlock=some k\/ov.ownBlock=some k\/De jb lv jo k
structure Cn (w:World) (ab b xb jb:Nat) (sv ov lv jo:Value) (A:Ar) (P:PD) (Ft:Nat->Prop):Prop where
 Af:D5 w ab b xb jb A.Ac ov
 ix:BY w xb 162 b AK (AI AK) A.ix.B9 sv
 segs:D6 w sv A.ix.segs
 AR:GK w ov A.AR
 jn:DA w jb b lv jo A.j
 dk:Bu w b P Ft
 lt:∀k,Ft k->k<w.heap.size
 Dc:∀k,Fv ab xb jb sv ov lv jo k->¬Ft k
 Fz:∀g,sv.ownBlock=some g->g≠ab/\g≠xb/\¬De jb lv jo g
 Gg:∀g,ov.ownBlock=some g->g≠ab/\g≠xb/\¬De jb lv jo g
 FQ:∀k,De jb lv jo k->k≠ab/\k≠xb
def AD(w:World)(ab b:Nat)(A:Ar)(P:PD)(FT:Nat->Prop):Prop:=
 ∃xb jb sv ov lv jo Ft,Cn w ab b xb jb sv ov lv jo A P Ft/\∀k,Ft k\/Fv ab xb jb sv ov lv jo k->FT k
section
variable {w w':World} {ab b xb jb:Nat} {sv ov lv jo:Value} {A:Ar} {P P':PD} {Ft FT:Nat->Prop}
def Cn.bE(h:Cn w ab b xb jb sv ov lv jo A P Ft){k:Nat}(d:Fv ab xb jb sv ov lv jo k):k<w.heap.size:=by
 rcases d with rfl|rfl|d|d|d
 ·exact h.Af.lt
 ·exact h.ix.lt
 ·exact h.segs.lt d
 ·exact h.AR.lt d
 ·exact h.jn.lt d
def Cn.bU(h:Cn w ab b xb jb sv ov lv jo A P Ft){k:Nat}(d:Ft k\/Fv ab xb jb sv ov lv jo k):k<w.heap.size:=d.elim (h.lt k) h.bE
def Cn.ne(h:Cn w ab b xb jb sv ov lv jo A P Ft):ab≠xb:=BM h.Af h.ix (by decide)
def Cn.aI(h:Cn w ab b xb jb sv ov lv jo A P Ft)(d:Gc (λk=>Ft k\/Fv ab xb jb sv ov lv jo k) w w')(I:w.heap.size<=w'.heap.size):Cn w' ab b xb jb sv ov lv jo A P Ft:=
 ⟨(d ab (.inr (.inl rfl))).trans h.Af,(d xb (.inr (.inr (.inl rfl)))).trans h.ix,h.segs.aI λg E=>d g (.inr (.inr (.inr (.inl E)))),h.AR.aI λg E=>d g (.inr (.inr (.inr (.inr (.inl E))))),
   h.jn.aI λk z=>d k (.inr (.inr (.inr (.inr (.inr z))))),AU.aI h.dk λk z=>d k (.inl z),λk z=>Bi (h.lt k z) I,h.Dc,h.Fz,h.Gg,h.FQ⟩
def Cn.al(h:Cn w ab b xb jb sv ov lv jo A P Ft)(d:A4 Aa w w'):Cn w' ab b xb jb sv ov lv jo A P Ft:=h.aI (d.au (λ_ z=>h.bU z) λ_ _ h=>h) d.Al
def Cn.bI(h:Cn w ab b xb jb sv ov lv jo A P Ft)(X:As w Ft w' (λw' d=>Bu w' b P' d)):As w Ft w' (λw' d=>Cn w' ab b xb jb sv ov lv jo A P' d):=by
 obtain⟨W,d,Y,O,L⟩:=X;have E:=W.au (λ_ z=>h.bE z) h.Dc
 exact⟨W,d,⟨(E ab (.inl rfl)).trans h.Af,(E xb (.inr (.inl rfl))).trans h.ix,h.segs.aI λg I=>E g (.inr (.inr (.inl I))),h.AR.aI λg I=>E g (.inr (.inr (.inr (.inl I)))),
  h.jn.aI λk z=>E k (.inr (.inr (.inr (.inr z)))),Y,O,λk z hx=>(L k hx).elim (h.Dc k z) λh'=>by have:=h.bE z;omega,h.Fz,h.Gg,h.FQ⟩,O,L⟩
def Cn.bK{S:Nat->Prop}{E O:Nat}{z I lv' L:Value}{A':Ar}{d:Nat->Prop}(Y:Cn w' ab b E O z I lv' L A' P' d)(hc:A4 S w w')(hS:∀k,k<w.heap.size->S k->FT k)(h1:∀k,d k->FT k\/w.heap.size<=k)(h2:∀k,Fv ab E O z I lv' L k->FT k\/w.heap.size<=k):
 As w FT w' (λw' W=>AD w' ab b A' P' W):=
 ⟨hc.ad hS,λk=>d k\/Fv ab E O z I lv' L k,⟨E,O,z,I,lv',L,d,Y,λ_ h=>h⟩,λ_ X=>Y.bU X,λk X=>X.elim (h1 k) (h2 k)⟩
def Cn.cA(_h:Cn w ab b xb jb sv ov lv jo A P Ft)(d:∀k,Ft k\/Fv ab xb jb sv ov lv jo k->FT k)(L:As w Ft w' (λw' E=>Cn w' ab b xb jb sv ov lv jo A P' E)):As w FT w' (λw' I=>AD w' ab b A P' I):=by
 obtain⟨X,E,O,h3,W⟩:=L;exact O.bK X (λk _ z=>d k (.inl z)) (λk z=>(W k z).imp (λh=>d k (.inl h)) id) λk z=>.inl (d k (.inr z))
def AD.aI(h:AD w ab b A P FT)(I:Gc FT w w')(L:w.heap.size<=w'.heap.size):AD w' ab b A P FT:=by
 obtain⟨xb,jb,sv,ov,lv,jo,Ft,E,d⟩:=h;exact⟨xb,jb,sv,ov,lv,jo,Ft,E.aI (I.ad λk z=>d k z) L,d⟩
def AD.al(h:AD w ab b A P FT)(E:A4 Aa w w'):AD w' ab b A P FT:=by
 obtain⟨xb,jb,sv,ov,lv,jo,Ft,z,d⟩:=h;exact⟨xb,jb,sv,ov,lv,jo,Ft,z.al E,d⟩
end
def JU(w:World)(d b h:Nat)(x:Int×List Pu):Prop:=∃pv,BY w h 182 b (AJ x.1) (AI (AJ x.1)) x.1 pv/\B5 w pv x.2/\d<=h/\∀g,pv.ownBlock=some g->d<=g
def Ho(d:List Nat):List Value:=d.map λg=>(A6 g)
def Xa(d:List Nat):∀u∈Ho d,u.oneCell'=true:=by
 intro u hu;simp[Ho]at hu;obtain⟨x,_,rfl⟩:=hu;rfl
def Iy(w:World)(h b:Nat)(v:Value)(l:List (Int×List Pu)):Prop:=
 ∃d:List Nat,d.length=l.length/\w.ownsRow 0 179 1 v l.length (Ho d)/\(∀g,v.ownBlock=some g->h<=g)/\∀k (E:k<d.length) (z:k<l.length),JU w h b (d[k]'E) (l[k]'z)
def JU.al{w w':World}{d b E:Nat}{x:Int×List Pu}(h:JU w d b E x)(I:A4 Aa w w'):JU w' d b E x:=by
 obtain⟨pv,O,z,W,L⟩:=h;exact⟨pv,O.ai I (λh=>h),Aw z λg X=>I.Am g (Ay z X) (λh=>h),W,L⟩
def Tryz.eU:(Tryz.prog.info? 179).map (λi=>(i.zero,i.size,i.bytes))=some (some (.pointer none),1,8):=by kernel_rfl
def Xj:∃d,Tryz.prog.info? 179=some d/\d.zero=some (.pointer none)/\d.size=1/\d.bytes=8:=by
 have h:=Tryz.eU;cases hx:Tryz.prog.info? 179 with
 | none=>rw[hx]at h;cases h
 | some i=>rw[hx]at h;simp at h;exact⟨i,rfl,h.1,h.2.1,h.2.2⟩
end
section
open Go.RowKit
attribute [local go_sem ↓] Cw
section
variable {w:World} {ab b xb jb B:Nat} {sv ov lv jo:Value} {A:Ar} {P:PD} {Ft:Nat->Prop} {a c m:Nat}
def Xe(P:PD)(n:Int)(r:List Int):P.segs (n::r)=match P.Cy n with
 | none=>none
 | some l=>(P.segs r).map λx=>(n,l):: x:=rfl
def Xf(w:World)(E:List Int)(a0:A8 w ab 0 (A6 b))(a1:A8 w ab 1 (A6 xb))(x4:A8 w xb 4 sv)(a6:D6 w sv E)(aX:Bu w b P Ft)(aD:∀k,Ft k->k<w.heap.size)(hF:Fit P a c m)(hl:CV a c m)(hn:∀n∈E,CJ n)(hsl:E.length<=1073741824)(hL:Lets B w):
 Ag 98 #[A6 ab] w λe w'=>
  (P.segs E=none/\e=.returned (.tuple #[.slice none 0 0,A0 7])/\A4 Aa w w')\/
  ∃l v,P.segs E=some l/\e=.returned (.tuple #[v,A0 0])/\Iy w' w.heap.size b v l/\A4 Aa w w':=by
 obtain⟨i0,hi,a4,bA,a7⟩:=Xj;have aP:=A1 a6;obtain⟨sa,scap,rfl,sc1,a5⟩:=aP.o.BP;unfold maxLen at a5
 have bO:Hid (∀w1,A4 Aa w w1->∀n∈E,Ag 135 #[A6 b,A0 n] w1 λe w'=>
  (P.Cy n=none/\e=.returned (.tuple #[.pointer none,A0 7])/\A4 Aa w1 w')\/
  ∃l d v,P.Cy n=some l/\e=.returned (.tuple #[A6 d,A0 0])/\BY w' d 182 b (AJ n) (AI (AJ n)) n v/\B5 w' v l/\(∀g,v.ownBlock=some g->w1.heap.size<=g)/\w1.heap.size<=d/\A4 Aa w1 w'):=
  λw1 hc n hm=>Yi w1 (AU.au aX aD hc) (λk hk=>Bi (aD k hk) hc.Al) hF hl (hn n hm) (hL.aM hc)
 have bJ:=A1 (Xe P);obtain⟨X,hX⟩:∃X,P.segs E=X:=⟨_,rfl⟩;have bP:=A1 hX;rw[hX]
 go_enter func98,ntmps98
 go_wp2;go_loopw [4,17] (λv iv wr=>∃(l:List (Int×List Pu)),iv=A0 l.length/\l.length<=E.length/\Hid (Iy wr w.heap.size b v l/\A4 Aa w wr/\X=(P.segs (E.drop l.length)).map λr=>l++r)) (λ_ iv _=>E.length-(intOf iv).toNat)
 case atStart=>exact⟨[],rfl,Ce _,⟨[],rfl,Cp _ _ _ _,λg I=>by simp[Value.ownBlock]at I,λk L=>by simp at L⟩,A4.C _ _,by rw[ID,Db,bP.o];cases X<;>simp⟩
 case round=>
  obtain⟨l,rfl,hk,hI⟩:=hrel;obtain⟨i1,i2,i3⟩:=hI.o;obtain⟨z,j1,j2,j3,j4⟩:=i1;obtain⟨ap,cp,rfl,hcap1,aK,-⟩:=Bk j2;unfold maxLen at aK;by_cases aB:l.length<E.length
  ·obtain⟨g,o,rfl,d1⟩:=D6.at aP.o l.length aB;have W:=BT aB;have aJ:=FW aB;generalize aV:(E[l.length]'aB)=n at d1 W aJ;have e1:=i2.ag d1;have e0:=i2.ag a0;have aI:=A1 (bO.o wr i2 n W);rw[aJ,bJ.o]at i3;generalize hY:P.Cy n=Y at aI i3;have aL:=A1 i2;have bE:=A1 i3;have bC:=A1 j1;have aU:=A1 j2;have bD:=A1 j3;have bL:=A1 j4;(have a2:(l.length:Int)<(E.length:Int):=by omega);have hk0:(0:Int)<=(l.length:Int):=Ge _;clear hI i2 i3 j1 j2 j3 j4 d1 W aJ aV hY;cases Y with
   | none=>
    (have aG:X=none:=by rw[bE.o];rfl);subst aG;have aF:Hid (Ag 135 #[A6 b,A0 n] wr λe w'=>e=.returned (.tuple #[.pointer none,A0 7])/\A4 Aa wr w'):=by
     refine aI.o.mono ?_;rintro e w' (⟨_,h2,h3⟩|⟨l,d,v,L,_⟩)
     ·exact⟨h2,h3⟩
     ·cases L
    go_wp2_with (go_at_call 135;refine aF.o.mono ?_;rintro e O⟨rfl,aA⟩;have aZ:=A1 aA);go_ret2;exact⟨rfl,aL.o.Au aZ.o λ_ h _=>h⟩
   | some pl=>
    have aF:Hid (Ag 135 #[A6 b,A0 n] wr λe w'=>∃d v,e=.returned (.tuple #[A6 d,A0 0])/\BY w' d 182 b (AJ n) (AI (AJ n)) n v/\B5 w' v pl/\(∀g,v.ownBlock=some g->wr.heap.size<=g)/\wr.heap.size<=d/\A4 Aa wr w'):=by
     refine aI.o.mono ?_;rintro e w' (⟨L,_⟩|⟨l,d,v,L,h2⟩)
     ·cases L
     ·cases L;exact⟨d,v,h2⟩
    have bK:Hid (X=(P.segs (E.drop (l.length+1))).map λr=>(l++[(n,pl)])++r):=by
     unfold Hid;rw[bE.o];simp only[Option.map_map]
     congr 1
     funext r
     simp
    go_wp2_with (fail);refine aF.o.mono ?_;rintro e O⟨d,v,rfl,q1,q2,q3,q4,aA⟩;have bM:=A1 q1;have bN:=A1 q2;have bF:=A1 q3;have bG:=A1 q4;have a3:=A1 aA;have aR:Hid ((O.alloc (.cells #[A6 d] 179)).ownsRow 0 179 1 (.slice ap l.length cp) l.length (Ho z)):=Aw aU.o λg I=>(aA.ah _).Am g (Ay aU.o I) (λh=>h)
    have aW:=A1 (Src.a8 (size:=1) (B:=O.heap.size) underlying154 O #[A6 d] 179 (by simp) 1 1 rfl (Xa [d]));go_wp2_with (at_builtin;refine CZ rfl (.tmp 33) (.tmp 35) 154 154 rfl 179 i0 _ 1 8 underlying154 hi a4 bA a7 rfl (by decide) (.slice ap l.length cp) l.length (Ho z) (by rfl) aR.o _ 1 _ (by rfl) aW.o (by omega) ?_;intro a8 cap8 w8 hA;have bH:=A1 hA);go_roundw
    case rel=>
     have hA:=bH.o;have k7:A4 Aa O (O.alloc (.cells #[A6 d] 179)):=(A4.C _ O).ah _;have aM:=hA.An (S:=λk=>(Value.slice ap l.length cp).ownBlock=some k) λ_ h=>h;have aO:A4 Aa w O:=aL.o.Au a3.o λ_ h _=>h;(have a9:A4 Aa w w8:=(aO.Au k7 λ_ h _=>h).Au aM λy hy aD=>by have:=bD.o y hy;omega);have aN:A4 (λk=>(Value.slice ap l.length cp).ownBlock=some k) O w8:=(k7.ad λ_ _ h=>h.elim).Au aM λ_ h _=>h;have aS:∀(k:Nat) (c:Array Value) (e:Nat),O.heap[k]?=some (Obj.cells c e (0,0))->e≠179->¬(Value.slice ap l.length cp).ownBlock=some k:=λk c e hk he hx=>by
      obtain⟨c',aE⟩:=B7 (Aw aU.o λg I=>a3.o.Am g (Ay aU.o I) (λh=>h)) hx;exact BM aE hk (λh=>he h.symm) rfl
     have aQ:∀aH x,JU O w.heap.size b aH x->JU w8 w.heap.size b aH x:=λaH x hx=>by
      obtain⟨pv,L,h2,h3,h4⟩:=hx;refine⟨pv,L.ai aN (aS _ _ _ L (by decide)),Aw h2 λg I=>?_,h3,h4⟩;obtain⟨c',aE⟩:=B7 h2 I;exact aN.Am g (Ay h2 I) (aS _ _ _ aE (by decide))
     refine⟨l++[(n,pl)],by simp,by simp;omega,⟨z++[d],by simp[bC.o],?_,?_,?_⟩,a9,by rw[show (l++[(n,pl)]).length=l.length+1 by simp];exact bK.o⟩
     ·(have e:(l++[(n,pl)]).length=l.length+1:=by simp);(have e2:Ho (z++[d])=Ho z++Ho [d]:=by simp[Ho]);rw[e,e2];exact hA.AE
     ·intro g I;rcases hA.BS with h|h
      ·rw[h]at I;exact bD.o g I
      ·rw[h]at I;cases I;have:=aO.Al;have:=k7.Al;omega
     ·intro j L h2;have aY:=bC.o;by_cases hj:j<l.length
      ·rw[FK (show j<z.length by omega),FK hj];exact aQ _ _ ((bL.o j (by omega) hj).al a3.o)
      ·(have bB:j=l.length:=by simp at h2;omega);subst bB;(have e1:(z++[d])[l.length]'L=d:=by simp[<-aY]);(have e2:(l++[(n,pl)])[l.length]'h2=(n,pl):=by simp);rw[e1,e2];exact aQ _ _ ⟨v,bM.o,bN.o,AQ aL.o.Al bG.o,λg I=>AQ aL.o.Al (bF.o g I)⟩
    case measure=>simp[intOf];omega
  ·(have aT:l.length=E.length:=by omega);have bI:Hid (Iy wr w.heap.size b (.slice ap l.length cp) l):=⟨z,j1,j2,j3,j4⟩;have aL:=A1 i2;(have aG:X=some l:=by rw[i3,aT,GN];simp[PD.segs]);subst aG;(have a2:¬((l.length:Int)<(E.length:Int)):=by omega);clear i2 i3 hI j1 j2 j3 j4 aT;go_wp2;go_ret2;exact⟨_,rfl,bI.o,aL.o⟩
def YJ(w:World)(aX:Nat)(v:Value)(l:List (Int×List Pu))(h:Iy w aX b v l)(hl:l.length<=1073741824)(hq:∀x∈l,x.2.length<=m)(hm:l.length*m<=4398046511104):
 Ag 101 #[v] w λe w'=>∃v',e=.returned v'/\B5 w' v' (l.flatMap (·.2))/\(∀g,v'.ownBlock=some g->w.heap.size<=g)/\A4 Aa w w':=by
 obtain⟨i0,hi,aM,aS,aQ⟩:=DG J2;obtain⟨I,j1,j2,j3,j4⟩:=h;obtain⟨va,vcap,rfl,vc1,aL,-⟩:=Bk j2;unfold maxLen at aL;have aY:=A1 j4;have aT:=A1 j2;have aV:=A1 hq;have aZ:Hid (∀k,k<=l.length->k*m<=4398046511104):=λk hk=>AQ (Hy m hk) hm;clear j2 j3 j4 hq hm
 go_enter func101,ntmps101
 go_wp2;go_loopw [3,8] (λv iv wr=>∃(k:Nat) (d:List Pu),iv=A0 k/\k<=l.length/\d.length<=k*m/\Hid (B5 wr v d/\(∀g,v.ownBlock=some g->w.heap.size<=g)/\A4 Aa w wr/\d=(l.take k).flatMap (·.2))) (λ_ iv _=>l.length-(intOf iv).toNat)
 case atStart=>exact⟨0,[],rfl,by omega,by simp,Cp _ _ _ _,λg L=>by simp[Value.ownBlock]at L,A4.C _ _,rfl⟩
 case round=>
  obtain⟨k,d,rfl,hk,aO,hI⟩:=hrel;obtain⟨i1,i2,W,i4⟩:=hI.o;obtain⟨ap,cp,rfl,hcap1,aB,-⟩:=Bk i1;unfold maxLen at aB;by_cases z:k<l.length
  ·(have E:k<I.length:=by omega);have O:w.cell? ((A9 ((va.map (·.block)).getD 0) k):Addr)=some (A6 (I[k]'E))/\∃g,va=some (A9 g 0):=by
    obtain⟨a',c',e,-,-,hz,-⟩:=Bk aT.o;cases e;obtain⟨g,rfl⟩:=hz (by omega);exact⟨BD aT.o rfl (by simp[Ho,E]),g,rfl⟩
   obtain⟨aG,g,rfl⟩:=O;have X:A8 w g k (A6 (I[k]'E)):=aG;obtain⟨pv,s1,s2,-,-⟩:=aY.o k E z;have Y:=aV.o _ (BT z);have aA:l.take (k+1)=l.take k++[l[k]'z]:=DL z;obtain⟨gb,aF⟩:∃gb,(I[k]'E)=gb:=⟨_,rfl⟩;rw[aF]at X s1;obtain⟨⟨n,pl⟩,hx⟩:∃x,(l[k]'z)=x:=⟨_,rfl⟩;rw[hx]at s1 s2 aA Y;dsimp only at s1 s2 Y;obtain⟨pa,pc,rfl,pc1,aR,-⟩:=Bk s2;unfold maxLen at aR;have d1:=W.ag X;have d2:=(s1.ai W (λh=>h)).c4;have aN:=A1 i1;have aI:=A1 i2;have aH:=A1 W;(have aP:Hid (d++pl=(l.take (k+1)).flatMap (·.2)):=by unfold Hid;rw[aA,i4];simp);have aE:=A1 (Src.bO underlying97 (Aw s2 λg L=>W.Am g (Ay s2 L) (λh=>h)) (Hp pl));have aU:=A1 (aZ.o (k+1) z);(have aK:(k:Int)<(l.length:Int):=by omega);have hk0:=BR k;clear hI i1 i2 W i4 aG X s1 s2 aA hx aF;have aD:Hid ((d.length+pl.length)*24<=140737488355328/\d.length+pl.length<=(k+1)*m):=by
    have:=aU.o;rw[MO]at this;unfold Hid;rw[MO];omega
   clear aO Y aU;go_wp2_with (at_builtin;refine CZ rfl (.tmp 12) (.tmp 16) 97 97 rfl 113 i0 _ 3 24 underlying97 hi aM aS aQ rfl (by decide) (.slice ap d.length cp) d.length (AZ d) (by rfl) aN.o _ pl.length _ (by rfl) aE.o aD.o.1 ?_;intro a8 cap8 w8 hA;have aW:=A1 hA;clear hA);go_roundw
   case rel=>
    have hA:=aW.o;have aJ:=hA.An (S:=λk=>(Value.slice ap d.length cp).ownBlock=some k) λ_ h=>h;refine⟨k+1,d++pl,by go_num,by omega,by simp only[Ba];exact aD.o.2,?_,?_,?_,aP.o⟩
    ·(have e:(d++pl).length=d.length+pl.length:=by simp);unfold B5;rw[Ib,e];exact hA.AE
    ·intro g L;rcases hA.BS with h|h
     ·rw[h]at L;exact aI.o g L
     ·rw[h]at L;cases L;exact aH.o.Al
    ·exact aH.o.Au aJ λy hy hlt=>by have:=aI.o y hy;omega
   case measure=>simp[intOf];omega
  ·(obtain rfl:k=l.length:=by omega);rw[Cc]at i4;have aN:=A1 i1;have aI:=A1 i2;have aH:=A1 W;(have aK:¬((l.length:Int)<(l.length:Int)):=by omega);have aP:=A1 i4;clear i1 i2 W i4 hI;go_wp2;go_ret;exact⟨_,rfl,by rw[<-aP.o];exact aN.o,aI.o,aH.o⟩
end
end
end Go.Proofs.YtodcnkbblippnaaGreatDoor
