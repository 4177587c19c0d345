/- Part 9 of a proof: walks of the program. -/
import Derived.Shelf.Strings.BuilderK
import Derived.Test.YtodcnkbblippnaaGreatDoorPart08
namespace Go.Proofs.YtodcnkbblippnaaGreatDoor
set_option maxRecDepth 100000
set_option maxHeartbeats 32000000
set_option linter.defProp false
open Go.Proofs.Tryz
section
open Go.RowKit
attribute [local go_sem ↓] Cw
def A0p(w:World)(x:Int):Ag 169 #[A0 x] w (Aj (.bool false) λw'=>w=w'):=by
 go_enter func169,ntmps169
 go_wp2;go_ret;exact⟨rfl,rfl⟩
def OV(w:World)(x y:Int):Ag 130 #[A0 x,A0 y] w (Aj (A0 (Ch x y)) λw'=>w=w'):=by
 have d:=A1 (A0p);unfold Ch
 go_enter func130,ntmps130
 by_cases h:x<y
 ·rw[Ai h];go_wp2_with (go_at_call 169;refine(d.o _ _).mono ?_;rintro e w'⟨rfl,rfl⟩);go_ret;exact⟨rfl,rfl⟩
 ·by_cases z:y<x
  ·rw[Ae h,Ai z];go_wp2_with (go_at_call 169;refine(d.o _ _).mono ?_;rintro e w'⟨rfl,rfl⟩);go_ret;exact⟨rfl,rfl⟩
  ·rw[Ae h,Ae z];go_wp2_with (go_at_call 169;refine(d.o _ _).mono ?_;rintro e w'⟨rfl,rfl⟩);go_ret;exact⟨rfl,rfl⟩
def JE(a b:Int):Int:=if a≠0 then a else b
def RS(w:World)(g:Nat)(a b:Int)(h0:A8 w g 0 (A0 a))(h1:A8 w g 1 (A0 b)):
 Ag 156 #[AB g 2 2] w (Aj (A0 (JE a b)) λw'=>w=w'):=by
 unfold JE
 go_enter func156,ntmps156
 by_cases d:a=0
 ·subst d;rw[Ae (by simp)];by_cases h:b=0
  ·subst h;go_wp2;refine I5 3 ?_;rw[Fh];go_wp2;rw[Fh];go_wp2;rw[Fh];go_wp2;go_ret;exact⟨rfl,rfl⟩
  ·(have hb':(b !=0)=true:=by simpa using h);go_wp2;refine I5 2 ?_;rw[Fh];go_wp2;rw[Fh];go_wp2;go_ret;exact⟨rfl,rfl⟩
 ·rw[Ai d];have ha':(a !=0)=true:=by simpa using d
  go_wp2;refine I5 1 ?_;rw[Fh];go_wp2;go_ret;exact⟨rfl,rfl⟩
def A2h(p q:Pu):Ck p q=JE (Ch p.1 q.1) (Ch p.2.1 q.2.1):=rfl
def DV(p:Pu):Value:=.agg #[A0 p.1,A0 p.2.1,A0 p.2.2]
def NO(w:World)(p q:Pu):Ag 158 #[DV p,DV q] w (Aj (A0 (Ck p q)) λw'=>A4 Aa w w'):=by
 obtain⟨E,d,L⟩:=p;obtain⟨z,I,W⟩:=q;rw[A2h];unfold DV;dsimp only
 have aG:=A1 (OV);have OR:=A1 (RS);obtain⟨x,hx⟩:∃x,Ch E z=x:=⟨_,rfl⟩;obtain⟨y,hy⟩:∃y,Ch d I=y:=⟨_,rfl⟩;rw[hx,hy];have b1:C7 ((w.alloc (.cells #[A0 E,A0 d,A0 L] 113)).alloc (.cells #[A0 z,A0 I,A0 W] 113)) w.heap.size E d L:=(CQ _ _ _ (by simp)).trans (Bf w _);have b2:C7 ((w.alloc (.cells #[A0 E,A0 d,A0 L] 113)).alloc (.cells #[A0 z,A0 I,A0 W] 113)) (w.heap.size+1) z I W:=by
  have:=Bf (w.alloc (.cells #[A0 E,A0 d,A0 L] 113)) (.cells #[A0 z,A0 I,A0 W] 113);simpa[C7] using this
 have k2:A4 Aa w ((w.alloc (.cells #[A0 E,A0 d,A0 L] 113)).alloc (.cells #[A0 z,A0 I,A0 W] 113)):=((A4.C _ w).ah _).ah _;have sz:((w.alloc (.cells #[A0 E,A0 d,A0 L] 113)).alloc (.cells #[A0 z,A0 I,A0 W] 113)).heap.size=w.heap.size+2:=by simp
 have Y:=A1 b1;have X:=A1 b2;have aF:=A1 k2;have aI:=A1 sz
 go_enter func158,ntmps158
 go_wp2;generalize ((w.alloc (.cells #[A0 E,A0 d,A0 L] 113)).alloc (.cells #[A0 z,A0 I,A0 W] 113))=w2 at Y X aF aI ⊢;refine Bt (λw'=>A8 w' w.heap.size 0 (A0 E)/\A8 w' w.heap.size 1 (A0 d)/\A8 w' (w.heap.size+1) 0 (A0 z)/\A8 w' (w.heap.size+1) 1 (A0 I)) 14
  (Bb [0,1,2,3,5,6,7,8,9,10,4,11,12,13] [4,11,12,13]) ⟨Y.o.c0,Y.o.c1,X.o.c0,X.o.c1⟩ ?_
 iterate 10 (refine B1 ?_;(try simp only[Ak]))
 refine Bd λK O=>?_;go_simp;have aA:=A1 Y.o.aa;have aD:=A1 X.o.aa;refine(aG.o _ _ _).mono ?_;rintro e w3⟨rfl,rfl⟩;rw[hx];refine O _ _ ⟨aA.o.c0,aA.o.c1,aD.o.c0,aD.o.c1⟩ (λhS=>?_)
 (try simp only[Ak])
 refine Bd λK O=>?_;go_simp;refine(aG.o _ _ _).mono ?_;rintro e w4⟨rfl,rfl⟩;rw[hy];refine O _ _ ⟨aA.o.c0,aA.o.c1,aD.o.c0,aD.o.c1⟩ (λhS=>?_)
 (try simp only[Ak])
 refine Bd λK O=>?_;go_simp;have ka:A4 Aa w2 (w2.alloc (.cells #[A0 x,A0 y] 3)).drew:=((A4.C _ _).ah _).aa;have aE:=Y.o.ai ka (λh=>h);have aB:=X.o.ai ka (λh=>h);have hb:(w2.alloc (.cells #[A0 x,A0 y] 3)).drew.heap[w2.heap.size]?=some (.cells #[A0 x,A0 y] 3):=Bf w2 _;refine O _ _ ⟨aE.c0,aE.c1,aB.c0,aB.c1⟩ (λhS=>?_)
 (try simp only[Ak])
 refine Bd λK O=>?_;go_simp;refine(OR.o _ _ x y (by simp only[A8,World.cell?,hb];rfl) (by simp only[A8,World.cell?,hb];rfl)).mono ?_;rintro e w5⟨rfl,rfl⟩;refine O _ _ ⟨aE.c0,aE.c1,aB.c0,aB.c1⟩ (λhS=>?_);have aH:Hid (A4 Aa w (w2.alloc (.cells #[A0 x,A0 y] 3)).drew):=aF.o.tr ka
 (try simp only[Ak])
 refine B4 ?_;simp only[Bm,Bl];go_wp2;go_ret;exact⟨rfl,aH.o⟩
def VC{t len:Int}(h:1<=len):BJ t len=if t.tmod len<0 then t.tdiv len-1 else t.tdiv len:=by
 unfold BJ;have e1:=Int.mul_ediv_add_emod t len;have e2:=N7 t (b:=len) (by omega);have e3:=UY t (b:=len) (by omega);have f1:=A3X t len;have f3:t.tmod len<len:=UW t (by omega);have f4 : -len<t.tmod len:=by
  by_cases h0:0<=t
  ·have:=Int.tmod_nonneg len h0;omega
  ·have:=UW (-t) (b:=len) (by omega);rw[PA]at this;omega
 obtain⟨q,L⟩:∃q,t/len=q:=⟨_,rfl⟩;obtain⟨r,O⟩:∃r,t % len=r:=⟨_,rfl⟩;obtain⟨d,E⟩:∃d,t.tdiv len=d:=⟨_,rfl⟩;obtain⟨I,z⟩:∃I,t.tmod len=I:=⟨_,rfl⟩;rw[L,O]at e1;rw[O]at e2 e3;rw[E,z]at f1;rw[z]at f3 f4;rw[L,E,z];have key:len*(q-d)=I-r:=by
  have:len*(q-d)=len*q-len*d:=Int.mul_sub ..;omega
 by_cases W:I<0
 ·rw[Ai W];have h1 : -(2*len)<len*(q-d):=by omega
  have Y:len*(q-d)<0:=by omega
  have X:q-d<0:=by
   rcases Ln (q-d) 0 with h|h
   ·exact h
   ·have:=Int.mul_nonneg (a:=len) (by omega) h;omega
  have k2 : -2<q-d:=by
   rcases Ln (-2) (q-d) with h|h
   ·exact h
   ·have:len*(q-d)<=len*(-2):=UX h (by omega);omega
  omega
 ·rw[Ae W];have h1 : -len<len*(q-d):=by omega
  have Y:len*(q-d)<len:=by omega
  have X:q-d<1:=by
   rcases Ln (q-d) 1 with h|h
   ·exact h
   ·have:len*1<=len*(q-d):=UX h (by omega);omega
  have k2 : -1<q-d:=by
   rcases Ln (-1) (q-d) with h|h
   ·exact h
   ·have:len*(q-d)<=len*(-1):=UX h (by omega);omega
  omega
def VZ{t len:Int}(L:Ax t)(z:1<=len)(I:t.tmod len<0):Ax (t.tdiv len-1):=by
 obtain⟨t1,t2⟩:=L;have f1:=A3X t len;have f4 : -len<t.tmod len:=by
  by_cases O:0<=t
  ·have:=Int.tmod_nonneg len O;omega
  ·have:=UW (-t) (b:=len) (by omega);rw[PA]at this;omega
 obtain⟨q,E⟩:∃q,t.tdiv len=q:=⟨_,rfl⟩;obtain⟨r,d⟩:∃r,t.tmod len=r:=⟨_,rfl⟩;rw[E,d]at f1;rw[d]at f4 I;rw[E];constructor
 ·rcases Ln 0 q with h|h
  ·omega
  ·have:len*q<=1*q:=Int.mul_le_mul_of_nonpos_right z h;omega
 ·rcases Ln (q-1) 0 with h|h
  ·omega
  ·have h2:1*(q-1)<=len*(q-1):=Int.mul_le_mul_of_nonneg_right z h;have h3:len*(q-1)=len*q-len*1:=Int.mul_sub ..;omega
def Nf(w:World)(t len:Int)(E:Ax t)(h:1<=len/\len<=4611686018427387904):
 Ag 157 #[A0 t,A0 len] w (Aj (A0 (BJ t len)) λw'=>w=w'):=by
 obtain⟨t1,t2⟩:=E;have hl0:¬len=0:=by omega
 rw[VC h.1]
 go_enter func157,ntmps157
 by_cases d:t.tmod len<0
 ·rw[Ai d];have z:wrap64 (t.tdiv len-1)=t.tdiv len-1:=by
   have:=VZ ⟨t1,t2⟩ h.1 d;unfold Ax at this;unfold wrap64;omega
  go_wp2
  all_goals first|(exfalso;omega)|skip
  go_ret;refine⟨?_,rfl⟩;show Ending.returned (A0 (wrap64 (t.tdiv len-1)))=_;rw[z]
 ·rw[Ae d];go_wp2
  all_goals first|(exfalso;omega)|skip
  go_ret;exact⟨rfl,rfl⟩
def QU{α:Type}(cmp:α->α->Int):∀(l:List α) (k:Nat) (h:k+1<l.length),Cr cmp (l.drop k)=(decide (cmp (l[k]'(by omega)) (l[k+1]'h)<0)&&Cr cmp (l.drop (k+1))):=by
 intro l k h;rw[FW (by omega:k<l.length),FW h];rfl
def QT{α:Type}(cmp:α->α->Int)(l:List α)(k:Nat)(h:l.length<=k+1):Cr cmp (l.drop k)=true:=by
 have:(l.drop k).length<=1:=by rw[Cl];omega
 match hx:l.drop k with
 | []=>rfl
 | [x]=>rfl
 | x::y::r=>rw[hx]at this;simp at this
def OX(x y:Int):Ch x y = -1\/Ch x y=0\/Ch x y=1:=by
 unfold Ch;split
 ·exact .inl rfl
 ·split
  ·exact .inr (.inr rfl)
  ·exact .inr (.inl rfl)
def XE(w:World)(v:Value)(l:List Int)(h:D6 w v l)(hl:l.length<1099511627776):
 Ag 129 #[v,.func (.func 130) #[] #[]] w (Aj (.bool (Cr Ch l)) λw'=>∃n,w'=w.drewN n):=by
 obtain⟨a,cap,rfl,h1,h2⟩:=h.BP;unfold maxLen at h2;have aE:Hid (Cr Ch l=Cr Ch (l.drop 0)):=rfl;generalize hR:Cr Ch l=R at aE ⊢;have H:=A1 h
 go_enter func129,ntmps129
 go_wp2;go_loopw [5] (λiv wr=>∃k:Nat,iv=A0 ((k:Int)+1)/\k<=l.length/\(∃n,wr=w.drewN n)/\Hid (R=Cr Ch (l.drop k))) (λiv _=>l.length+1-(intOf iv).toNat)
 case atStart=>exact⟨0,rfl,by omega,⟨0,rfl⟩,aE.o⟩
 case round=>
  obtain⟨k,rfl,hk,⟨n,rfl⟩,O⟩:=hrel;by_cases z:k+1<l.length
  ·obtain⟨g,o,rfl,c1⟩:=D6.at H.o k (by omega);obtain⟨g',o',e,c2⟩:=D6.at H.o (k+1) z;cases e;have d:=O.o;rw[QU Ch l k z]at d;have L:=OX (l[k]'(by omega)) (l[k+1]'z);have W:=A1 (λn=>OV (w.drewN n) (l[k]'(by omega)) (l[k+1]'z));obtain⟨x,hx⟩:∃x,(l[k]'(by omega))=x:=⟨_,rfl⟩;obtain⟨y,hy⟩:∃y,(l[k+1]'z)=y:=⟨_,rfl⟩;rw[hx]at c1 d L W;rw[hy]at c2 d L W;generalize aB:Ch x y=cc at d L W;have d1:∀n,A8 (w.drewN n) g (o+k) (A0 x):=λn=>c1;have d2:∀n,A8 (w.drewN n) g (o+(k+1)) (A0 y):=λn=>c2;have I:=A1 d;clear c1 c2 hx hy aB d O;(have aA:(k:Int)+1<(l.length:Int):=by omega);have hk0:=BR k;(have hki2:(k:Int)<(l.length:Int):=by omega);(have aD:IntKind.i64.wrap (k:Int)=k:=by simp[IntKind.wrap,IntKind.bits,IntKind.signed];omega);(have ew1:IntKind.i64.wrap ((k:Int)+1-1)=k:=by rw[Jk];exact aD);(have tk:((k:Int)+1).toNat=k+1:=by omega);(have pk:(0:Int)<=(k:Int)+1:=by omega);by_cases hc:cc<0
   ·have E:Hid (R=Cr Ch (l.drop (k+1))):=by
     have:=I.o;rw[Ct hc,Jl]at this;exact this
    clear I;(have Y:¬(0<=cc):=by omega);go_wp2;refine Bt (λw'=>A8 w' g (o+k) (A0 x)/\A8 w' g (o+(k+1)) (A0 y)) 11
     (Bb [0,1,2,3,4,5,6,7,8,9,10] [10]) ⟨d1 (n+1),d2 (n+1)⟩ ?_
    iterate 10 (refine B1 ?_;(try simp only[Ak]))
    refine Bd λK X=>?_;go_simp;refine(W.o (n+1)).mono ?_;rintro e w3⟨rfl,rfl⟩;refine X _ _ ⟨d1 (n+1),d2 (n+1)⟩ (λhS=>?_);clear X K hS
    (try simp only[Ak])
    refine B4 ?_;simp only[Bm,Bl];go_wp2;go_roundw
    case rel=>exact⟨k+1,by go_num,by omega,⟨n+1,rfl⟩,E.o⟩
    case measure=>simp[intOf];omega
   ·have E:R=false:=by
     have:=I.o;rw[Cu hc,V3]at this;exact this
    clear I;subst E;(have Y:0<=cc:=by omega);go_wp2;refine Bt (λw'=>A8 w' g (o+k) (A0 x)/\A8 w' g (o+(k+1)) (A0 y)) 11
     (Bb [0,1,2,3,4,5,6,7,8,9,10] [10]) ⟨d1 (n+1),d2 (n+1)⟩ ?_
    iterate 10 (refine B1 ?_;(try simp only[Ak]))
    refine Bd λK X=>?_;go_simp;refine(W.o (n+1)).mono ?_;rintro e w3⟨rfl,rfl⟩;refine X _ _ ⟨d1 (n+1),d2 (n+1)⟩ (λhS=>?_)
    (try simp only[Ak])
    refine B4 ?_;simp only[Bm,Bl];go_wp2;go_ret;exact⟨rfl,_,rfl⟩
  ·(have E:R=true:=by rw[O.o,QT Ch l k (by omega)]);subst E;(have aA:¬((k:Int)+1<(l.length:Int)):=by omega);go_wp2;go_ret;exact⟨rfl,_,rfl⟩
def TL(p q:Pu):Ck p q = -1\/Ck p q=0\/Ck p q=1:=by
 unfold Ck;split<;>exact OX _ _
def XD(w:World)(v:Value)(l:List Pu)(h:Hx w v l)(hl:l.length<1099511627776):
 Ag 177 #[v,.func (.func 158) #[] #[]] w (Aj (.bool (Cr Ck l)) λw'=>A4 Aa w w'):=by
 obtain⟨a,cap,rfl,h1,h2⟩:=h.BP;unfold maxLen at h2;have aP:Hid (Cr Ck l=Cr Ck (l.drop 0)):=rfl;generalize hR:Cr Ck l=R at aP ⊢;have H:=A1 h
 go_enter func177,ntmps177
 go_wp2;go_loopw [5] (λiv wr=>∃k:Nat,iv=A0 ((k:Int)+1)/\k<=l.length/\Hid (A4 Aa w wr)/\Hid (R=Cr Ck (l.drop k))) (λiv _=>l.length+1-(intOf iv).toNat)
 case atStart=>exact⟨0,rfl,by omega,A4.C _ _,aP.o⟩
 case round=>
  obtain⟨k,rfl,hk,z,aB⟩:=hrel;by_cases O:k+1<l.length
  ·obtain⟨g,o,rfl,-,c1,c2,c3⟩:=Hx.at H.o k (by omega);obtain⟨g',o',e,-,c4,c5,c6⟩:=Hx.at H.o (k+1) O;cases e;have d:=aB.o;rw[QU Ck l k O]at d;have Y:=TL (l[k]'(by omega)) (l[k+1]'O);have aD:=A1 (λE=>NO E (l[k]'(by omega)) (l[k+1]'O));obtain⟨x,W⟩:∃x,(l[k]'(by omega))=x:=⟨_,rfl⟩;obtain⟨y,hy⟩:∃y,(l[k+1]'O)=y:=⟨_,rfl⟩;rw[W]at c1 c2 c3 d Y aD;rw[hy]at c4 c5 c6 d Y aD;obtain⟨x1,x2,x3⟩:=x;obtain⟨y1,y2,y3⟩:=y;generalize hcc:Ck (x1,x2,x3) (y1,y2,y3)=cc at d Y aD;dsimp only at c1 c2 c3 c4 c5 c6;have d1:=z.o.aa.ag c1;have d2:=z.o.aa.ag c2;have d3:=z.o.aa.ag c3;have d4:=z.o.aa.ag c4;have d5:=z.o.aa.ag c5;have d6:=z.o.aa.ag c6;have aE:=A1 d;have aI:=A1 c1;have aL:=A1 c2;have aK:=A1 c3;have aF:=A1 c4;have aM:=A1 c5;have aG:=A1 c6;(have aH:(k:Int)+1<(l.length:Int):=by omega);have hk0:=BR k;(have hki2:(k:Int)<(l.length:Int):=by omega);(have aJ:IntKind.i64.wrap (k:Int)=k:=by simp[IntKind.wrap,IntKind.bits,IntKind.signed];omega);(have ew1:IntKind.i64.wrap ((k:Int)+1-1)=k:=by rw[Jk];exact aJ);(have tk:((k:Int)+1).toNat=k+1:=by omega);(have pk:(0:Int)<=(k:Int)+1:=by omega);have X:Hid (∀E,A4 Aa wr.drew E->(A8 E g (o+k*3) (A0 x1)/\A8 E g (o+k*3+1) (A0 x2)/\A8 E g (o+k*3+2) (A0 x3)/\A8 E g (o+(k+1)*3) (A0 y1)/\A8 E g (o+(k+1)*3+1) (A0 y2)/\A8 E g (o+(k+1)*3+2) (A0 y3))/\A4 Aa w E):=λE W=>
    ⟨⟨W.ag (z.o.aa.ag aI.o),W.ag (z.o.aa.ag aL.o),W.ag (z.o.aa.ag aK.o),W.ag (z.o.aa.ag aF.o),W.ag (z.o.aa.ag aM.o),W.ag (z.o.aa.ag aG.o)⟩,z.o.aa.tr W⟩
   by_cases aA:cc<0
   ·have I:Hid (R=Cr Ck (l.drop (k+1))):=by
     have:=aE.o;rw[Ct aA,Jl]at this;exact this
    (have aN:¬(0<=cc):=by omega);go_wp2;refine Bt (λw'=>A8 w' g (o+k*3) (A0 x1)/\A8 w' g (o+k*3+1) (A0 x2)/\A8 w' g (o+k*3+2) (A0 x3)/\A8 w' g (o+(k+1)*3) (A0 y1)/\A8 w' g (o+(k+1)*3+1) (A0 y2)/\A8 w' g (o+(k+1)*3+2) (A0 y3)) 11
     (Bb [0,1,2,3,4,5,6,7,8,9,10] [10]) ⟨d1,d2,d3,d4,d5,d6⟩ ?_
    iterate 10 (refine B1 ?_;(try simp only[Ak]))
    refine Bd λK hK=>?_;go_simp;refine(aD.o _).mono ?_;rintro e w3⟨rfl,L⟩;refine hK _ _ (X.o w3 L).1 (λhS=>?_);have aO:=A1 (X.o w3 L).2
    (try simp only[Ak])
    refine B4 ?_;simp only[Bm,Bl];go_wp2;go_roundw
    case rel=>exact⟨k+1,by go_num,by omega,aO.o,I.o⟩
    case measure=>simp[intOf];omega
   ·have I:R=false:=by
     have:=aE.o;rw[Cu aA,V3]at this;exact this
    subst I;(have aN:0<=cc:=by omega);go_wp2;refine Bt (λw'=>A8 w' g (o+k*3) (A0 x1)/\A8 w' g (o+k*3+1) (A0 x2)/\A8 w' g (o+k*3+2) (A0 x3)/\A8 w' g (o+(k+1)*3) (A0 y1)/\A8 w' g (o+(k+1)*3+1) (A0 y2)/\A8 w' g (o+(k+1)*3+2) (A0 y3)) 11
     (Bb [0,1,2,3,4,5,6,7,8,9,10] [10]) ⟨d1,d2,d3,d4,d5,d6⟩ ?_
    iterate 10 (refine B1 ?_;(try simp only[Ak]))
    refine Bd λK hK=>?_;go_simp;refine(aD.o _).mono ?_;rintro e w3⟨rfl,L⟩;refine hK _ _ (X.o w3 L).1 (λhS=>?_);have aO:=A1 (X.o w3 L).2
    (try simp only[Ak])
    refine B4 ?_;simp only[Bm,Bl];go_wp2;go_ret;exact⟨rfl,aO.o⟩
  ·(have I:R=true:=by rw[aB.o,QT Ck l k (by omega)]);subst I;(have aH:¬((k:Int)+1<(l.length:Int)):=by omega);go_wp2;go_ret;exact⟨rfl,z.o⟩
def Xn{k:Nat}{l:Bs}(h:l.length<17):EJ k l=some ([],l):=by cases k<;>simp[EJ,h]
def Xo{k:Nat}{c:UInt8}{d:Bs}(h:16<=d.length):EJ (k+1) (c::d)=if c.toNat<8 then (EJ k (d.drop 16)).map λr=>(((c.toNat:Int),BG d,BG (d.drop 8)):: r.1,r.2) else none:=by
 have z:¬(c::d).length<17:=by simp;omega
 simp only[EJ,Ae z];rfl
section
variable {w:World} {b B:Nat} {P:PD} {Ft:Nat->Prop} {a c m:Nat} {n:Int}
def Yi(w:World)(h:Bu w b P Ft)(aP:∀k,Ft k->k<w.heap.size)(hF:Fit P a c m)(hl:CV a c m)(hn:CJ n)(hL:Lets B w):
 Ag 135 #[A6 b,A0 n] w λe w'=>
  (P.Cy n=none/\e=.returned (.tuple #[.pointer none,A0 7])/\A4 Aa w w')\/
  ∃l gb v,P.Cy n=some l/\e=.returned (.tuple #[A6 gb,A0 0])/\BY w' gb 182 b (AJ n) (AI (AJ n)) n v/\B5 w' v l/\(∀g,v.ownBlock=some g->w.heap.size<=g)/\w.heap.size<=gb/\A4 Aa w w':=by
 obtain⟨i0,hi,bN,bU,bT⟩:=DG J2;have bH:=A1 (QE w b hn hL);have bA:Hid (∀w1,A4 Aa w w1->_):=λw1 hc=>Ro (AJ n) (AU.au h aP hc) (λk hk=>Bi (aP k hk) hc.Al) hF hl;have aQ:(P.aV (AJ n)).1.length<=4294967296:=by
  have h1:=KW hF (AJ n);have:=hl.m;unfold PD.aV;split
  ·simp
  ·split
   ·rename_i d hd;unfold HK at hd;split at hd
    ·cases hd
    ·split at hd
     ·cases hd;simp only[BI];omega
     ·cases hd
   ·simp
 obtain⟨X,hX⟩:∃X,P.Cy n=X:=⟨_,rfl⟩;have bI:Hid (IK (P.aV (AJ n))=X):=hX;rw[hX];have bL:AJ n=BN 2 n:=rfl;rw[<-bL]at bH;generalize hnme:AJ n=nm at bH bA bI aQ ⊢;generalize hs0:AI nm=s0 at bH bA ⊢;obtain⟨⟨dt,de⟩,bQ⟩:∃x,P.aV nm=x:=⟨_,rfl⟩;rw[bQ]at bA bI aQ;dsimp only at bA aQ
 go_enter func135,ntmps135
 go_wp2_with (fail);refine bH.m ?_;rintro e w1⟨gb,rfl,aN,bE,bY⟩;have a3:=A1 (bA.o w1 bE);have a1:=A1 aN;have a2:=A1 bE;have a0:=A1 bY;have g0:=aN.c0;have g1:=aN.c1;have g2:=aN.c2;by_cases he:de=0
 case neg=>
  have hb:(de !=0)=true:=by simpa using he
  have O:Hid (X=none):=by unfold Hid;rw[<-bI.o];unfold IK;rw[Ai he]
  go_wp2_with (go_at_call 126;refine a3.m ?_;rintro e w2⟨rfl,aE⟩;have aF:=A1 aE);go_ret2;exact .inl ⟨O.o,rfl,a2.o.tr aF.o⟩
 case pos=>
 subst he
 have aH:Hid ((match EJ dt.length dt with
  | none=>none
  | some (l,r)=>if r=[]/\Cr Ck l=true then some l else none)=X):=by
  rw[<-bI.o];unfold IK;rw[Ae (by simp)];rfl
 generalize hY:EJ dt.length dt=Y at aH;have cE:=A1 hY;go_wp2_with (fail);refine a3.m ?_;rintro e w2⟨rfl,aE⟩;have bW:=A1 (a1.o.ai aE (λh=>h));have aF:Hid (A4 Aa w w2):=a2.o.tr aE;have bR:=A1 a1.o.lt;have a6:=A1 aE.Al;go_wp2;go_loopw [7] (λtv wr=>∃(l:Bs) (k:Nat) (z:List Pu),tv=.string ⟨l.toArray⟩/\z.length*17+l.length<=dt.length/\Hid (∃v,BY wr gb 182 b nm s0 n v/\B5 wr v z/\(∀g,v.ownBlock=some g->w2.heap.size<=g)/\(A4 Aa w wr/\w2.heap.size<=wr.heap.size)/\l.length<=k/\Y=(EJ k l).map λr=>(z++r.1,r.2))) (λtv _=>match tv with | .string x=>x.size|_=>0)
 case atStart=>exact⟨dt,dt.length,[],rfl,by simp,_,bW.o,Cp _ _ _ _,λg W=>by simp[Value.ownBlock]at W,⟨aF.o,Ao _⟩,Ao _,by rw[<-cE.o];simp⟩
 case round=>
  obtain⟨l,k,z,rfl,aL,hI⟩:=hrel;have aA:(ByteArray.mk l.toArray).size=l.length:=by show l.toArray.size=_;simp
  by_cases aT:l.length<17
  case pos=>
   obtain⟨v,i1,i2,i3,⟨i4,a7⟩,-,i6⟩:=hI.o;rw[Xn aT]at i6;simp only[HW,EF]at i6;subst i6;(have hlt17:¬(17<=(l.length:Int)):=by omega);have bO:=A1 i1;have aU:=A1 i2;have a9:=A1 i3;have aY:=A1 i4;have g4:=i1.c4;by_cases aB:l=[]
   case neg=>
    (have O:Hid (X=none):=by unfold Hid;rw[<-aH.o];simp only;rw[Ae (λh=>aB h.1)]);have hbl:(l==[])=false:=Hu.2 aB;go_wp2;go_ret2;exact .inl ⟨O.o,rfl,aY.o⟩
   case pos=>
   subst aB;have bF:=A1 (XD wr v z aU.o.rd (by simp at aL;omega));by_cases hr:Cr Ck z=true
   case neg=>
    (have bS:Cr Ck z=false:=by simpa using hr);(have O:Hid (X=none):=by unfold Hid;rw[<-aH.o];simp only;rw[Ae (λh=>hr h.2)]);rw[bS]at bF;go_wp2_with (go_at_call 177;refine bF.m ?_;rintro e w3⟨rfl,aS⟩;have aD:=A1 aS);go_ret2;exact .inl ⟨O.o,rfl,aY.o.tr aD.o⟩
   case pos=>
    (have O:Hid (X=some z):=by unfold Hid;rw[<-aH.o];simp only;rw[Ai ⟨by first|trivial|rfl,hr⟩]);rw[hr]at bF;go_wp2_with (go_at_call 177;refine bF.m ?_;rintro e w3⟨rfl,aS⟩;have aD:=A1 aS);go_ret2;exact .inr ⟨z,gb,v,O.o,rfl,bO.o.ai aD.o (λh=>h),Aw aU.o λg W=>aD.o.Am g (Ay aU.o W) (λh=>h),λg W=>AQ aF.o.Al (a9.o g W),a0.o,aY.o.tr aD.o⟩
  case neg=>
   obtain⟨v,i1,i2,i3,⟨i4,a7⟩,i5,i6⟩:=hI.o;obtain⟨k,rfl⟩:∃k',k=k'+1:=⟨k-1,by omega⟩;obtain⟨c0,d,rfl⟩:∃c0 d,l=c0::d:=by
    cases l with
    | nil=>simp at aT
    | cons c0 d=>exact⟨c0,d,rfl⟩
   (have aG:16<=d.length:=by simp at aT;omega);rw[Xo aG]at i6;obtain⟨ap,cp,rfl,hcap1,aW,-⟩:=Bk i2;unfold maxLen at aW;have aZ:=A1 (λw5=>Ru w5 c0 d ⟨aG,by simp at aL;omega⟩);have e2:(ByteArray.mk (c0::d).toArray).extract 17 (d.length+1)=⟨(d.drop 16).toArray⟩:=by
    rw[extract_mk,Du,Ec (by rw[Cl];omega)]
   obtain⟨I,bV⟩:∃I,BG d=I:=⟨_,rfl⟩;obtain⟨E,bJ⟩:∃E,BG (d.drop 8)=E:=⟨_,rfl⟩;rw[bV,bJ]at aZ i6;obtain⟨q,hq⟩:∃q,d.drop 16=q:=⟨_,rfl⟩;(have bB:q.length+16=d.length:=by rw[<-hq,Cl];omega);rw[hq]at e2 i6;obtain⟨ll,bC⟩:∃ll,d.length=ll:=⟨_,rfl⟩;(have bP:(c0::d).length=ll+1:=by simp[bC]);rw[bP]at aA aL i5;rw[bC]at e2 aG bB;(have hge:17<=(ll:Int)+1:=by omega);generalize hty:ByteArray.mk (c0::d).toArray=ty at e2 aA aZ ⊢;have g4:=i1.c4;have f4:=i1.fz 4;have bO:=A1 i1;have aU:=A1 i2;have a9:=A1 i3;have aY:=A1 i4;have bK:=A1 a7;have cC:=A1 i5;have b1:=A1 i6;have aO:=A1 bB;have a5:=A1 aL;by_cases aK:c0.toNat<8
   case neg=>
    (have O:Hid (X=none):=by unfold Hid;rw[<-aH.o,b1.o,Ae aK];rfl);rw[show decide (c0.toNat<8)=false from Cu aK]at aZ;go_wp2_with (go_at_call 176;refine(aZ.o _).mono ?_;rintro e w6⟨rfl,aR⟩;have aJ:=A1 aR);go_ret2;exact .inl ⟨O.o,rfl,(aY.o.tr aJ.o).ah _⟩
   case pos=>
    rw[show decide (c0.toNat<8)=true from Ct aK]at aZ;have cD:Hid (Y=(EJ k q).map λr=>((z++[((c0.toNat:Int),I,E)])++r.1,r.2)):=by
     unfold Hid;rw[b1.o,Ai aK];cases EJ k q<;>simp
    go_wp2_with (go_at_call 176;refine(aZ.o _).mono ?_;rintro e w6⟨rfl,aR⟩;have bM:=A1 (Bf w6 (.cells #[A0 c0.toNat,A0 I,A0 E] 113));have aJ:=A1 aR);have bX:A4 Aa wr (w6.alloc (.cells #[A0 c0.toNat,A0 I,A0 E] 113)):=aJ.o.ah _;have aX:Hid (C7 (w6.alloc (.cells #[A0 c0.toNat,A0 I,A0 E] 113)) w6.heap.size c0.toNat I E):=bM.o;have a4:=A1 bX;have bZ:Hid (∀g,(Value.slice ap z.length cp).ownBlock=some g->g<w6.heap.size):=λg W=>Bi (Ay aU.o W) aJ.o.Al;generalize (w6.alloc (.cells #[A0 c0.toNat,A0 I,A0 E] 113))=w7 at aX a4 ⊢;generalize w6.heap.size=pb at aX bZ ⊢;have b2:=A1 (bO.o.ai a4.o (λh=>h));have b3:Hid (B5 w7 (.slice ap z.length cp) z):=Aw aU.o λg W=>a4.o.Am g (Ay aU.o W) (λh=>h);have b6:Hid (w2.heap.size<=w7.heap.size):=AQ bK.o a4.o.Al;have cG:Hid (A4 Aa w w7):=aY.o.tr a4.o;refine Bt (λw'=>A8 w' pb 0 (A0 c0.toNat)/\A8 w' pb 1 (A0 I)/\A8 w' pb 2 (A0 E)/\A8 w' gb 4 (.slice ap z.length cp)) 8
     (Bb [0,1,2,3,4,5,6,7] [6,7]) ⟨aX.o.aa.c0,aX.o.aa.c1,aX.o.aa.c2,b2.o.aa.c4⟩ ?_
    iterate 6 (refine B1 ?_;(try simp only[Ak]))
    refine Bd λK hK=>?_;go_simp;have ka:A4 Aa w7 (w7.alloc (.cells #[A0 c0.toNat,A0 I,A0 E] 113)).drew:=((A4.C _ _).ah _).aa;have bG:=aX.o.ai ka (λh=>h);have b0:=b2.o.ai ka (λh=>h);have cB:Hid (B5 (w7.alloc (.cells #[A0 c0.toNat,A0 I,A0 E] 113)).drew (.slice ap z.length cp) z):=Aw b3.o λg W=>ka.Am g (Ay b3.o W) (λh=>h);have bD:Hid (Src Tryz.prog 3 97 (AB w7.heap.size 1 1) 1 #[A0 c0.toNat,A0 I,A0 E].toList (w7.alloc (.cells #[A0 c0.toNat,A0 I,A0 E] 113)).drew):=by
     have hb:(w7.alloc (.cells #[A0 c0.toNat,A0 I,A0 E] 113)).drew.heap[w7.heap.size]?=some (.cells #[A0 c0.toNat,A0 I,A0 E] 113 (0,0)):=Bf w7 _;exact Src.b5 underlying97 hb 1 1 rfl (Hp [((c0.toNat:Int),I,E)])
    refine hK _ _ ⟨bG.c0,bG.c1,bG.c2,b0.c4⟩ (λhS=>?_)
    (try simp only[Ak])
    refine Di rfl (by rfl) (λK hK=>?_);refine Hm (.tmp 40) (.tmp 42) 97 97 rfl 113 i0 _ 3 24 underlying97 hi bN bU bT rfl (by decide) (.slice ap z.length cp) z.length (AZ z) (by rfl) cB.o _ 1 _ (by rfl) bD.o (by have:=a5.o;omega) ?_;intro a8 L w8 hA;have aI:=hA.An (S:=λk=>(Value.slice ap z.length cp).ownBlock=some k) λ_ h=>h;have b5:Hid (gb<w2.heap.size):=Bi bR.o a6.o;have aV:=bG.ai aI (λh=>GB _ (bZ.o _ h));have aM:=b0.ai aI (λh=>by have:=a9.o _ h;have:=b5.o;omega);have cA:Hid (B5 w8 (.slice a8 (z.length+1) L) (z++[((c0.toNat:Int),I,E)])):=by
     (have e:(z++[((c0.toNat:Int),I,E)]).length=z.length+1:=by simp);unfold Hid B5;rw[Ib,e];exact hA.AE
    have b4:Hid (∀g,(Value.slice a8 (z.length+1) L).ownBlock=some g->w2.heap.size<=g):=λg W=>by
     rcases hA.BS with h|h
     ·rw[h]at W;exact a9.o g W
     ·rw[h]at W;cases W;have:=b6.o;have:=ka.Al;omega
    (have cF:Hid (A4 Aa w w8):=(cG.o.tr ka).Au aI λy hy aP=>by have:=a9.o y hy;have:=aF.o.Al;omega);have cH:Hid (w2.heap.size<=w8.heap.size):=AQ b6.o (AQ ka.Al aI.Al);refine hK _ _ ⟨aV.c0,aV.c1,aV.c2,aM.c4⟩ (λhS=>?_);have g4:=aM.c4;have f4:=aM.fz 4;have b9:=A1 (aM.s4 (.slice a8 (z.length+1) L));have b8:Hid (A4 Aa w (w8.sC gb 4 (.slice a8 (z.length+1) L))):=cF.o.a1 (p:=(A9 gb 4)) (λh=>by have h':gb<w.heap.size:=h;have:=a0.o;omega) _;have b7:Hid (B5 (w8.sC gb 4 (.slice a8 (z.length+1) L)) (.slice a8 (z.length+1) L) (z++[((c0.toNat:Int),I,E)])):=Aw cA.o λg W=>Fg _ _ _ _ (λe=>by have e':g=gb:=e;have:=b4.o g W;have:=b5.o;omega)
    (try simp only[Ak])
    refine B4 ?_;simp only[Bm,Bl];go_wp2;go_roundw
    case rel=>exact⟨q,k,z++[((c0.toNat:Int),I,E)],rfl,by have:=a5.o;have:=aO.o;simp;omega,_,b9.o,by have:=b7.o;simpa using this,by have:=b4.o;simpa using this,⟨b8.o,by have:=cH.o;simpa using this⟩,by have:=cC.o;have:=aO.o;omega,cD.o⟩
    case measure=>
     (have e:(ByteArray.mk q.toArray).size=q.length:=by show q.toArray.size=_;simp);have:=aO.o;simp only[e,aA];omega
end
def Bq(p:Pu):Prop:=(0<=p.1/\p.1<8)/\Ax p.2.1/\Ax p.2.2
def Yq(a b:List Pu):Cf (a++b)=Cf a++Cf b:=by simp[Cf]
def NP(s t v:Int):(Be s t v).length=17:=by simp[Be,CL]
def NN(l:List Pu):(Cf l).length=17*l.length:=by
 induction l with
 | nil=>rfl
 | cons p r ih=>
  have:Cf (p::r)=Be p.1 p.2.1 p.2.2++Cf r:=rfl;rw[this,Ba,ih,NP,Cq];omega
def A4.b8{B:Nat}{w w':World}(h:Below B w w'):A4 (λk=>B<=k) w w':=⟨h.os,h.tape,h.output,h.size,λk _ hn=>h.block k (by omega)⟩
section
variable {w:World} {b B:Nat} {P:PD} {Ft:Nat->Prop} {a c m:Nat} {n:Int}
def Zo(w:World)(pv:Value)(l:List Pu)(h:Bu w b P Ft)(Y:∀k,Ft k->k<w.heap.size)(hF:Fit P a c m)(hl:CV (a+1) (c+1) m)(hn:CJ n)(hL:Lets B w)(hp:Hx w pv l)(bB:∀p∈l,Bq p)(hpl:l.length<=134217728):
 Ag 151 #[A6 b,A0 n,pv] w λe w'=>
  ((P.aH n l).1≠0/\e=.returned (.tuple #[.pointer none,A0 (P.aH n l).1])\/(P.aH n l).1=0/\∃d,e=.returned (.tuple #[A6 d,A0 0]))/\As w Ft w' (λw' W=>Bu w' b (P.aH n l).2 W):=by
 have aV:=A1 (QE w b hn hL);have aM:Hid (∀w1,A4 Aa w w1->_):=λw1 hc=>PO (AJ n) (Cf l) (Js (AJ n)) (AU.au h Y hc) (λk hk=>Bi (Y k hk) hc.Al) (by rw[NN];omega) hF hl;obtain⟨X,hX⟩:∃X,P.aH n l=X:=⟨_,rfl⟩;have aX:P.aG (AJ n) (AI (AJ n)) (Cf l)=X:=hX;rw[hX];rw[aX]at aM;have a2:AJ n=BN 2 n:=rfl;rw[<-a2]at aV;generalize hnme:AJ n=nm at aV aM;generalize hs0:AI nm=s0 at aV aM;obtain⟨pa,I,rfl,hcap1,aL⟩:=hp.BP;unfold maxLen at aL;have bQ:=A1 hp;have a4:=A1 Y
 go_enter func151,ntmps151
 go_wp2_with (fail);refine aV.o.mono ?_;rintro e w1⟨d,rfl,aG,aO,bH⟩;have a3:=A1 aG;have HC1:=A1 aO;have a0:=A1 bH;have f4:=aG.fz 4;have g4:=aG.c4;have bD:=A1 (aG.s4 (.slice pa l.length I));have a6:Hid (A4 Aa w (w1.setCell (A9 d 4) (.slice pa l.length I))):=aO.a1 (p:=(A9 d 4)) (λh=>by have h':d<w.heap.size:=h;omega) _;have HG1:=A1 a3.o.lt;obtain⟨O,aN⟩:∃O,w1.setCell (A9 d 4) (.slice pa l.length I)=O:=⟨_,rfl⟩;have hw2s:w1.heap.size=O.heap.size:=by rw[<-aN];simp
 rw[aN]at bD a6;have aF:Hid (d<O.heap.size):=bD.o.lt;have bI:=A1 (TR O);have bO:=A1 (bD.o.ai ((A4.C Aa O).ah (.cells #[.pointer none,.slice none 0 0] 260)) (λh=>h));have bM:Hid (A4 Aa w (O.alloc (.cells #[.pointer none,.slice none 0 0] 260))):=a6.o.ah _;have aJ:Hid (w.heap.size<=O.heap.size):=a6.o.Al;go_wp2;generalize bC:O.alloc (.cells #[.pointer none,.slice none 0 0] 260)=w3 at bI bO bM ⊢;have aP:Hid (O.heap.size<=w3.heap.size):=by rw[<-bC];show O.heap.size<=_;simp
 generalize O.heap.size=bb at bI aF aJ aP ⊢;go_loopw [22] (λiv wr=>∃k:Nat,iv=A0 k/\k<=l.length/\Hid (GO bb bb (Cf (l.take k)) wr/\BY wr d 182 b nm s0 n (.slice pa l.length I)/\A4 Aa w wr/\bb<=wr.heap.size)) (λiv _=>l.length-(intOf iv).toNat)
 case atStart=>exact⟨0,rfl,by omega,by simpa[Cf] using bI.o,bO.o,bM.o,aP.o⟩
 case round=>
  obtain⟨k,rfl,hk,hI⟩:=hrel;by_cases aE:k<l.length
  ·obtain⟨i1,i2,i3,i4⟩:=hI.o;obtain⟨g,o,rfl,-,c1,c2,c3⟩:=Hx.at bQ.o k aE;have L:=bB _ (BT aE);have aS:l.take (k+1)=l.take k++[l[k]'aE]:=DL aE;generalize hxe:(l[k]'aE)=x at c1 c2 c3 L aS;obtain⟨x1,x2,x3⟩:=x;dsimp only at c1 c2 c3;have d1:=i3.ag c1;have d2:=i3.ag c2;have d3:=i3.ag c3;obtain⟨⟨aR,aY⟩,ht,hv⟩:=L;dsimp only at aR aY ht hv;have PB:=A1 (λz=>Rw z x1 x2 x3 ⟨aR,by omega⟩ ht hv);(have aH:Hid (Cf (l.take (k+1))=Cf (l.take k)++Be x1 x2 x3):=by unfold Hid;rw[aS,Yq];simp[Cf]);(have aZ:(Cf (l.take k)).length<=17*l.length:=by rw[NN,BI];omega);generalize hpk:Cf (l.take k)=pk at i1 aH aZ;have aW:=NP x1 x2 x3;generalize hpbe:Be x1 x2 x3=pb at PB aH aW;have a7:=A1 i1;have aK:=A1 i2;have bE:=A1 i3;have aU:=A1 i4;have bP:Hid (∀w6,A4 Aa wr w6->_):=λw6 h6=>Nb (t:=pb) w6 (a7.o.ai h6 (λ_ h=>h.elim)) (by omega) (AQ aU.o h6.Al);(have a5:(k:Int)<(l.length:Int):=by omega);have hk0:(0:Int)<=(k:Int):=Ge _;go_wp2_with (fail);refine(PB.o _).mono ?_;rintro e w6⟨rfl,a9⟩;have aT:Hid (A4 Aa wr w6):=((A4.C Aa wr).ah _).Au a9 λ_ h _=>h;have a8:=A1 (bP.o w6 aT.o);go_wp2_with (go_at_call 194;refine a8.o.mono ?_;rintro e w7⟨rfl,bF,bG⟩;have a1:=A1 bF;have aQ:=A1 bG);go_roundw
   case rel=>
    have c7:A4 (λk=>bb<=k) w6 w7:=A4.b8 aQ.o;refine⟨k+1,by go_num,by omega,by rw[aH.o];exact a1.o,(aK.o.ai aT.o (λh=>h)).ai c7 (λh=>by have:=aF.o;omega),?_,?_⟩
    ·exact(bE.o.Au aT.o λ_ h _=>h).Au c7 λx L Y=>by have:=aJ.o;omega
    ·exact AQ aU.o (AQ aT.o.Al aQ.o.size)
   case measure=>simp[intOf];omega
  ·obtain⟨i1,i2,i3,i4⟩:=hI.o;(obtain rfl:k=l.length:=by omega);rw[Cc]at i1;have a7:=A1 i1;have aK:=A1 i2;have bE:=A1 i3;have aU:=A1 i4;have bL:=A1 (A2z wr.drew (a7.o.ai ((A4.C Aa _).aa) (λ_ h=>h.elim)) aU.o);(have a5:¬((l.length:Int)<(l.length:Int)):=by omega);have aB:Hid (∀z,Below bb wr.drew z->(A8 z d 0 (A6 b)/\A8 z d 1 (.string ⟨nm.toArray⟩)/\A8 z d 2 (.int .u32 s0))/\A4 Aa w z):=λz L=>by
    have cx:A4 (λk=>bb<=k) wr.drew z:=A4.b8 L;have fx:=aK.o.aa.ai cx (λh=>by have:=aF.o;omega);exact⟨⟨fx.c0,fx.c1,fx.c2⟩,bE.o.aa.Au cx λx L Y=>by have:=aJ.o;omega⟩
   have e0:=aK.o.aa.c0;have e1:=aK.o.aa.c1;have e2:=aK.o.aa.c2;obtain⟨bJ,bK⟩:=X;dsimp only at aM;have bN:Hid (∀z,Below bb wr.drew z->∀wy,As z Ft wy (λw' W=>Bu w' b bK W)->(A8 wy d 0 (A6 b)/\A8 wy d 1 (.string ⟨nm.toArray⟩)/\A8 wy d 2 (.int .u32 s0))/\As w Ft wy (λw' W=>Bu w' b bK W)):=λz L wy hy=>by
    have cx:A4 (λk=>bb<=k) wr.drew z:=A4.b8 L;have fx:=(aK.o.aa.ai cx (λh=>by have:=aF.o;omega)).ai hy.1 (λh=>by have:=a4.o _ h;have:=a0.o;omega);exact⟨⟨fx.c0,fx.c1,fx.c2⟩,hy.aY (aB.o z L).2⟩
   by_cases L:bJ=0
   case neg=>
    (have hxb:(bJ !=0)=true:=by simpa using L);go_wp2;refine Bt (λw'=>A8 w' d 0 (A6 b)/\A8 w' d 1 (.string ⟨nm.toArray⟩)/\A8 w' d 2 (.int .u32 s0)) 6
     (Bb [0,1,2,3,4,5] [4,5]) ⟨e0,e1,e2⟩ ?_
    iterate 4 (refine B1 ?_;(try simp only[Ak]))
    refine Bd λK hK=>?_;go_simp;refine bL.o.mono ?_;rintro e w9⟨rfl,E⟩;refine hK _ _ (aB.o w9 E).1 (λhS=>?_);have aI:=A1 (aM.o w9 (aB.o w9 E).2);have aA:=A1 (bN.o w9 E)
    (try simp only[Ak])
    refine Bd λK hK=>?_;go_simp;refine aI.o.mono ?_;rintro e aD⟨rfl,hI⟩;refine hK _ _ (aA.o aD hI).1 (λhS=>?_);have bA:=A1 (aA.o aD hI).2
    (try simp only[Ak])
    refine B4 ?_;simp only[Bm,Bl];go_wp2;go_ret2;exact⟨rfl,bA.o⟩
   case pos=>
    subst L;go_wp2;refine Bt (λw'=>A8 w' d 0 (A6 b)/\A8 w' d 1 (.string ⟨nm.toArray⟩)/\A8 w' d 2 (.int .u32 s0)) 6
     (Bb [0,1,2,3,4,5] [4,5]) ⟨e0,e1,e2⟩ ?_
    iterate 4 (refine B1 ?_;(try simp only[Ak]))
    refine Bd λK hK=>?_;go_simp;refine bL.o.mono ?_;rintro e w9⟨rfl,E⟩;refine hK _ _ (aB.o w9 E).1 (λhS=>?_);have aI:=A1 (aM.o w9 (aB.o w9 E).2);have aA:=A1 (bN.o w9 E)
    (try simp only[Ak])
    refine Bd λK hK=>?_;go_simp;refine aI.o.mono ?_;rintro e aD⟨rfl,hI⟩;refine hK _ _ (aA.o aD hI).1 (λhS=>?_);have bA:=A1 (aA.o aD hI).2
    (try simp only[Ak])
    refine B4 ?_;simp only[Bm,Bl];go_wp2;go_ret2;exact⟨⟨_,rfl⟩,bA.o⟩
end
def Rh{P:PD}{a c m:Nat}(h:Fit P a c m)(nm:Bs):(P.aV nm).1.length<=m:=by
 have h1:=KW h nm;unfold PD.aV;split
 ·simp
 ·split
  ·rename_i d z;unfold HK at z;split at z
   ·cases z
   ·split at z
    ·cases z;simp only[BI];omega
    ·cases z
  ·simp
def SR:∀(k:Nat) (l:Bs),(Gq k l).length*8<=l.length
 | 0,l=>by simp[Gq]
 | k+1,l=>by
  unfold Gq;split
  ·simp
  ·have:=SR k (l.drop 8);simp only[Cq,Cl]at this ⊢;omega
def A4.bD{S:Nat->Prop}{w w':World}(h:A4 S w w'){p:Addr}{v:Value}(d:w.cell? p=some v)(E:¬S p.block):w'.cell? p=some v:=by
 have z:=Gz w _ d;have:=h.Am p.block z E;unfold World.cell? at d ⊢;rw[this];exact d
def D6.fh{w:World}{g o n cap:Nat}{l:List Int}(h:D6 w (.slice (some (A9 g o)) n cap) l)(Y:0<l.length)(a':Option Addr)(ha:1<l.length->a'=some (A9 g (o+1)))(L:∀x,a'=some x->x.block=g):D6 w (.slice a' (n-1) (cap-1)) l.tail:=by
 obtain⟨h1,a,c,e,h2,h3,O,W⟩:=h;cases e;have E:l.tail.length=l.length-1:=List.length_tail;refine⟨by rw[SU];omega,a',cap-1,by rw[E],by omega,by omega,λx z=>?_,λj u hj=>?_⟩
 ·unfold Value.ownBlock at z;cases a' with
  | none=>simp at z
  | some y=>
   simp only at z;have:=L y rfl;cases z;rw[this];exact O g rfl
 ·have d:(Ef l)[j+1]?=some u:=by
   cases l with
   | nil=>simp at Y
   | cons x r=>simpa[Ef] using hj
  obtain⟨g',o',e,X⟩:=W _ _ d;cases e;have I:j+1<(Ef l).length:=(HE.1 d).1;rw[SU]at I;exact⟨g,o+1,ha (by omega),by rw[show o+1+j=o+(j+1) by omega];exact X⟩
section
variable {w:World} {b B:Nat} {P:PD} {Ft:Nat->Prop} {a c m:Nat} {n:Int}
def Yn(w:World)(h:Bu w b P Ft)(aJ:∀k,Ft k->k<w.heap.size)(hF:Fit P a c m)(hl:CV a c m)(hL:Lets B w):
 Ag 96 #[A6 b] w λe w'=>
  (P.aZ=none/\e=.returned (.tuple #[.pointer none,A0 7])/\A4 Aa w w')\/
  ∃ix xb v,P.aZ=some ix/\e=.returned (.tuple #[A6 xb,A0 0])/\BY w' xb 162 b AK (AI AK) ix.B9 v/\D6 w' v ix.segs/\(∀g,v.ownBlock=some g->xb<g)/\w.heap.size<=xb/\A4 Aa w w':=by
 have a8:=A1 (OD w b 3 (by omega) (Hq (n:=0) (by omega) (by omega)) hL);have aZ:Hid (∀w1,A4 Aa w w1->_):=λw1 hc=>Ro AK (AU.au h aJ hc) (λk hk=>Bi (aJ k hk) hc.Al) hF hl;have aF:(P.aV AK).1.length<=4294967296:=AQ (Rh hF AK) hl.m;obtain⟨X,hX⟩:∃X,P.aZ=X:=⟨_,rfl⟩;have bA:Hid (indexOf (P.aV AK)=X):=hX;rw[hX];have bF:BN 3 0=AK:=rfl;rw[show ((3:Nat):Int)=3 from rfl,bF]at a8;generalize hnme:AK=nm at a8 aZ bA aF ⊢;generalize hs0:AI nm=s0 at a8 aZ ⊢;obtain⟨⟨O,de⟩,bO⟩:∃x,P.aV nm=x:=⟨_,rfl⟩;rw[bO]at aZ bA aF;dsimp only at aZ aF
 go_enter func96,ntmps96
 go_wp2_with (fail);refine a8.m ?_;rintro e w1⟨rfl,a5⟩;have aG:BY (w1.aC #[A6 b,.string ⟨nm.toArray⟩,.int .u32 s0,A0 1,.slice none 0 0] 162) w1.heap.size 162 b nm s0 1 (.slice none 0 0):=Bf w1 _;have bU:Hid (A4 Aa w (w1.aC #[A6 b,.string ⟨nm.toArray⟩,.int .u32 s0,A0 1,.slice none 0 0] 162)):=a5.ah _;have aP:Hid (w.heap.size<=w1.heap.size):=a5.Al;have bK:=A1 (aZ.o _ bU.o);have bG:=A1 aG;have g0:=aG.c0;have g1:=aG.c1;have g2:=aG.c2;go_wp2_with (fail);refine bK.m ?_;rintro e w2⟨rfl,aT⟩;have aO:=A1 (bG.o.ai aT (λh=>h));have aU:Hid (A4 Aa w w2):=bU.o.tr aT;have aI:Hid (w1.heap.size<w2.heap.size):=aO.o.lt;generalize w1.heap.size=xb at *;by_cases h8:de=8
 case pos=>
  subst h8;have z:Hid (X=some ⟨1,[]⟩):=by unfold Hid;rw[<-bA.o];unfold indexOf;rw[Ai rfl]
  go_wp2;go_ret2;exact .inr ⟨⟨1,[]⟩,xb,_,z.o,rfl,aO.o,Dt.bN,λg hg=>by simp[Value.ownBlock]at hg,aP.o,aU.o⟩
 case neg=>
 have h8b:(de==8)=false:=by simpa using h8
 have aS:=A1 (A0q w2 O aF);have aY:Hid ((EB O).length*8<=O.length):=SR _ _
 have aM:Hid ((if de≠0\/EB O=[]\/O.length≠(EB O).length*8 then none else
  if (EB O).all isNum=false then none else
  if Cr Ch (EB O).tail then some ⟨(EB O).headD 0,(EB O).tail⟩ else none)=X):=by
  rw[<-bA.o];unfold indexOf;rw[Ae h8];rfl
 generalize hns:EB O=ns at aS aY aM;go_wp2_with (fail);refine aS.m ?_;rintro e w3⟨v,rfl,hv,bQ,aK⟩;have aE:=A1 (aO.o.ai aK (λh=>h));have aB:Hid (A4 Aa w w3):=aU.o.tr aK;obtain⟨ap,cp,rfl,hcap1,aQ,bC,-⟩:=Bk hv;unfold maxLen at aQ;have bT:=A1 hv;have bH:Hid (∀g,(Value.slice ap ns.length cp).ownBlock=some g->w2.heap.size<=g):=bQ;have HW3:=A1 aK.Al;by_cases E:de≠0\/ns=[]\/O.length≠ns.length*8
 case pos=>
  have z:Hid (X=none):=by unfold Hid;rw[<-aM.o,Ai E]
  by_cases Y:de=0
  ·subst Y;by_cases aD:ns=[]
   ·subst aD;go_wp2;go_ret2;exact .inl ⟨z.o,rfl,aB.o⟩
   ·have bB:((ns.length:Int)==0)=false:=by
     have:ns.length≠0:=λe=>aD (Hj.1 e);simp;omega
    have hd:((O.length:Int)!=wrap64 ((ns.length:Int)*8))=true:=by
     (have:O.length≠ns.length*8:=by rcases E with h|h|h;exact absurd rfl h;exact absurd h aD;exact h);have:=aY.o;(have ew:wrap64 ((ns.length:Int)*8)=(ns.length:Int)*8:=by unfold wrap64;omega);rw[ew];simp;omega
    go_wp2;go_ret2;exact .inl ⟨z.o,rfl,aB.o⟩
  ·(have hb:(de !=0)=true:=by simpa using Y);go_wp2;go_ret2;exact .inl ⟨z.o,rfl,aB.o⟩
 case neg=>
  have hz:de=0/\ns≠[]/\O.length=ns.length*8:=⟨A3Y λh=>E (.inl h),λh=>E (.inr (.inl h)),A3Y λh=>E (.inr (.inr h))⟩;obtain⟨rfl,aD,hd0⟩:=hz;have aX:Hid ((if ns.all isNum=false then none else if Cr Ch ns.tail then some ⟨ns.headD 0,ns.tail⟩ else none)=X):=by rw[<-aM.o,Ae E];rfl
  have I:0<ns.length:=IC.2 aD;have bB:((ns.length:Int)==0)=false:=by simp;omega
  have hd:((O.length:Int)!=wrap64 ((ns.length:Int)*8))=false:=by
   (have ew:wrap64 ((ns.length:Int)*8)=(ns.length:Int)*8:=by unfold wrap64;omega);rw[ew];simp;omega
  obtain⟨g,rfl⟩:=bC I;have bM:Hid (ns.length<=1099511627776):=by unfold Hid;omega
  go_wp2;go_loopw [44] (λiv wr=>∃k:Nat,iv=A0 k/\k<=ns.length/\wr=w3/\Hid ((ns.take k).all isNum=true)) (λiv _=>ns.length-(intOf iv).toNat)
  case atStart=>exact⟨0,rfl,by omega,rfl,by unfold Hid;rfl⟩
  case round=>
   obtain⟨k,rfl,hk,rfl,hI⟩:=hrel;by_cases W:k<ns.length
   ·have d:A8 wr g k (A0 (ns[k]'W)):=BD bT.o rfl (On ns k W);have a2:ns.take (k+1)=ns.take k++[ns[k]'W]:=DL W;have aH:(ns[k]'W)∈ns:=BT W;generalize L:(ns[k]'W)=x at d a2 aH;have a9:=A1 (SO wr x);(have bI:(k:Int)<(ns.length:Int):=by omega);have hk0:=BR k;have bE:=A1 a2;have aW:=A1 aH;by_cases hn:isNum x=true
    ·(have bN:Hid ((ns.take (k+1)).all isNum=true):=by unfold Hid;rw[bE.o,List.all_append,hI.o];simp[hn]);rw[hn]at a9;go_wp2_with (go_at_call 128;refine a9.m ?_;rintro e w4⟨rfl,rfl⟩);go_roundw
     case rel=>exact⟨k+1,by go_num,by omega,trivial,bN.o⟩
     case measure=>simp[intOf];omega
    ·(have bJ:isNum x=false:=by simpa using hn);have z:Hid (X=none):=by
      unfold Hid;rw[<-aX.o,Ai];have:¬ns.all isNum=true:=λh=>hn (N3.1 h x aW.o);simpa using this
     rw[bJ]at a9;go_wp2_with (go_at_call 128;refine a9.m ?_;rintro e w4⟨rfl,rfl⟩);go_ret2;exact .inl ⟨z.o,rfl,aB.o⟩
   ·(obtain rfl:k=ns.length:=by omega);(have hall:ns.all isNum=true:=by have:=hI.o;rwa [Cc]at this);(have aL:Hid ((if Cr Ch ns.tail then some (Ix.mk (ns.headD 0) ns.tail) else none)=X):=by have:=aX.o;rwa [Ae (by simp[hall])]at this);have d:A8 wr.drew g 0 (A0 (ns.headD 0)):=by
     have Y:=On ns 0 I;have:(ns[0]'I)=ns.headD 0:=by cases ns with
      | nil=>simp at I
      | cons x r=>rfl
     rw[this]at Y;exact BD bT.o rfl Y
    (have bI:¬((ns.length:Int)<(ns.length:Int)):=by omega);have f3:=aE.o.aa.fz 3;have f4:=aE.o.aa.fz 4;have g3:=aE.o.aa.c3;have g4:=aE.o.aa.c4;generalize hh0:ns.headD 0=Y at d aL;(have hn1:(1:Int)<=(ns.length:Int):=by omega);obtain⟨a',aR⟩:∃a':Option Addr,(if cp=1 then some ((A9 g 0):Addr) else some (A9 g 1))=a':=⟨_,rfl⟩;have bW:=A1 (D6.fh (Ee.rd bT.o) I a' (λh=>by rw[<-aR,Ae (by omega)]) (λx L=>by rw[<-aR]at L;split at L<;>cases L<;>rfl));(have bS:∀x,a'=some x->x.block=g:=λx L=>by rw[<-aR]at L;split at L<;>cases L<;>rfl);have bD:∀g',(Value.slice a' (ns.length-1) (cp-1)).ownBlock=some g'->g'=g:=λg' hg=>by
     unfold Value.ownBlock at hg;cases L:a' with
     | none=>rw[L]at hg;simp at hg
     | some y=>rw[L]at hg;have:=bS y L;simp at hg;omega
    have aV:=A1 bD;have aN:Hid (w2.heap.size<=g):=bH.o g rfl;have bR:BY (wr.setCell (A9 xb 3) (A0 Y)).drew xb 162 b nm s0 Y (.slice none 0 0):=(aE.o.s3 Y).aa;have k9:A4 (One xb) wr (wr.setCell (A9 xb 3) (A0 Y)).drew:=((A4.C (One xb) wr).aj (b:=xb) rfl 3 _).aa;have aA:(wr.setCell (A9 xb 3) (A0 Y)).drew.cell? (A9 g 0)=some (A0 Y):=k9.bD d (λh=>by have h':g=xb:=h;have:=aN.o;have:=aI.o;omega);have a7:=A1 bR;have bV:=A1 k9;go_wp2;refine Bt (λw'=>A8 w' g 0 (A0 Y)) 10
     (Bb [0,1,2,3,4,5,6,7,8,9] [9]) d ?_
    iterate 9 (refine B1 ?_;(try simp only[Ak]))
    refine Bd λK hK=>?_;go_simp;refine hK _ _ aA (λhS=>?_)
    (try simp only[Ak])
    refine B4 ?_;simp only[Bm,Bl];generalize (wr.setCell (A9 xb 3) (A0 Y)).drew=w9 at a7 bV aA ⊢;have f94:=a7.o.fz 4;have g94:=a7.o.c4;have a3:=A1 (a7.o.s4 (.slice a' (ns.length-1) (cp-1)));have c104:=a3.o.c4;have a1:A4 (One xb) wr (w9.setCell (A9 xb 4) (.slice a' (ns.length-1) (cp-1))):=bV.o.aj rfl 4 _;(have a0:Hid (A4 Aa w (w9.setCell (A9 xb 4) (.slice a' (ns.length-1) (cp-1)))):=aB.o.Au a1 λx L aJ=>by have bL:x=xb:=L;have:=aP.o;omega);have a4:Hid (D6 (w9.setCell (A9 xb 4) (.slice a' (ns.length-1) (cp-1))) (.slice a' (ns.length-1) (cp-1)) ns.tail):=Dt.An bW.o a1 λg' hg L=>by
     have bL:g'=xb:=L;have:=aV.o g' hg;have:=aN.o;have:=aI.o;omega
    have a6:=A1 (XE _ _ _ a4.o (by rw[List.length_tail];have:=bM.o;omega));by_cases hr:Cr Ch ns.tail=true
    ·rw[hr]at a6;(have z:Hid (X=some ⟨Y,ns.tail⟩):=by unfold Hid;rw[<-aL.o,Ai hr]);go_wp2_with (go_at_call 129;refine a6.m ?_;rintro e w5⟨rfl,nn,rfl⟩);go_ret2;have kk:=(A4.C Aa (w9.setCell (A9 xb 4) (.slice a' (ns.length-1) (cp-1)))).aX nn;exact .inr ⟨_,xb,_,z.o,rfl,a3.o.ai kk (λh=>h),Dt.An a4.o kk (λ_ _ h=>h),λg' hg=>by have:=aV.o g' hg;have:=aN.o;have:=aI.o;omega,aP.o,a0.o.tr kk⟩
    ·(have bP:Cr Ch ns.tail=false:=by simpa using hr);rw[bP]at a6;(have z:Hid (X=none):=by unfold Hid;rw[<-aL.o,Ae hr]);go_wp2_with (go_at_call 129;refine a6.m ?_;rintro e w5⟨rfl,nn,rfl⟩);go_ret2;exact .inl ⟨z.o,rfl,a0.o.aX nn⟩
end
def A2y{B b:Nat}{l:List UInt8}(w:World)(h:GO B b l w)(d:B<=w.heap.size):
 Calls Tryz.prog 197 #[.pointer (some ⟨b,0,none⟩)] w λe w'=>e=.returned (.string ⟨l.toArray⟩)/\Below B w w'/\∀k o,w.heap[k]?=some o->k≠b->(∀c fz,o≠.cells c 5 fz)->w'.heap[k]?=some o:=by
 refine(Any.Builder_String_any_k Tryz.lays169 Tryz.Builder_Extra_169 B b l w (h.imp Lib.BuilderAtF.of Lib.BuilderAtF.of) d).mono ?_;rintro e w'⟨L,_,z,W⟩;exact⟨L,z,λk o I E O=>W k o I (λe=>E (by simpa using e)) O⟩
def Bg.s1{w:World}{d:Nat}{T:TypeId}{p:Value}{name:ByteArray}{s:Nat}(h:Bg w d T p name s)(nm:ByteArray):Bg (w.setCell (A9 d 1) (.string nm)) d T p nm s:=BL h
def A4.fk{Ft:Nat->Prop}{x:Nat}{w d z:World}(h:A4 Ft w d)(k:A4 (One x) d z):A4 (λk=>Ft k\/k=x) w z:=
 (h.ad λ_ _ h=>.inl h).Au k λ_ h _=>.inr h
def Bg.aa{w:World}{d:Nat}{T:TypeId}{p:Value}{name:ByteArray}{s:Nat}(h:Bg w d T p name s):Bg w.drew d T p name s:=by unfold Bg at h ⊢;exact h
section
variable {w:World} {b B xb:Nat} {P:PD} {Ft:Nat->Prop} {a c m:Nat} {n:Int}
def XW(h:Bu w b P Ft)(old nm:ByteArray)(E:Fit P a c m)(z:CV a c m):
 Ag 242 #[A6 b,.string old,.string nm] w (Aj (A0 (P.aN old nm).1) λw'=>As w Ft w' (λw' d=>Bu w' b (P.aN old nm).2 d)):=
 XV h old nm (by have:=E.A5;have:=E.An;have:=z.a;have:=z.c;omega)
def Ow(d:Int)(segs:List Int):(Cj d segs).length=8+8*segs.length:=by
 unfold Cj;rw[Ba,CL]
 congr 1
 induction segs with
 | nil=>rfl
 | cons x r ih=>simp only[MZ,Ba,ih,CL,Cq];omega
def Fit.aG{P:PD}{a c m:Nat}(h:Fit P a c m)(nm:Bs)(s:Nat)(l:Bs):Fit (P.aG nm s l).2 (a+1) (c+1) (m+l.length+4):=by
 have z:=h.ao (Ab nm);have E:(AS s l).length=l.length+4:=by simp[AS,Hn]
 have d:=z.aq (Ab nm) (AS s l);rw[E]at d;unfold PD.aG;split
 ·exact z.ad (Ao _) (Ao _) (by omega)
 ·split
  ·exact d.ad (Ao _) (Ao _) (by omega)
  ·exact(d.ae (Ab nm)).ad (Ao _) (Ao _) (by omega)
def Fit.ei{P:PD}{a c m:Nat}(h:Fit P a c m)(d:Int)(segs:List Int):Fit (P.ak d segs).2 (a+2) (c+2) (m+12+8*segs.length):=by
 have z:=h.aG Bv (AI AK) (Cj d segs);rw[Ow]at z;unfold PD.ak;split
 ·exact z.ad (by omega) (by omega) (by omega)
 ·exact(z.aN (Ab Bv) (Ab AK)).ad (by omega) (by omega) (by omega)
def VR(w:World)(d f0:Int)(sv v0:Value)(segs:List Int)(hX:BY w xb 162 b AK (AI AK) f0 v0)(h:Bu w b P Ft)(L:∀k,Ft k->k<w.heap.size)(hn:¬Ft xb)(hF:Fit P a c m)(hl:CV (a+2) (c+2) (m+12+8*segs.length))(hL:Lets B w)(hs:D6 w sv segs)(hf:Ax d)(bL:∀x∈segs,Ax x)(hsl:segs.length<=134217728):
 Ag 200 #[A6 xb,A0 d,sv] w λe w'=>
  e=.returned (A0 (P.ak d segs).1)/\BY w' xb 162 b AK (AI AK) (if (P.ak d segs).1=0 then d else f0) (if (P.ak d segs).1=0 then sv else v0)/\Ji w Ft xb w' b (P.ak d segs).2:=by
 have aE:=hX.lt;have bE:BN 4 0=Bv:=rfl;have b6:Hid (∀w1,A4 Aa w w1->Ag 134 #[A0 4,A0 0] w1 (Aj (.string ⟨Bv.toArray⟩) λw'=>A4 Aa w1 w')):=λw1 hc=>by
  have:=M4 (n:=0) w1 4 (by omega) (by omega) (by decide +kernel) (hL.aM hc);rw[show ((4:Nat):Int)=4 from rfl,bE]at this;exact this
 have hi:=Ow d segs;have bG:CV (a+1) (c+1) m:=⟨by have:=hl.a;omega,by have:=hl.c;omega,by have:=hl.m;omega⟩;have aO:Hid (∀w1,A4 Aa w w1->_):=λw1 hc=>PO Bv (Cj d segs) (Js AK) (AU.au h L hc) (λk hk=>Bi (L k hk) hc.Al) (by rw[hi];omega) hF bG;have aV:Hid (∀w1 O,Bu w1 b (P.aG Bv (AI AK) (Cj d segs)).2 O->_):=λw1 O h1=>XW h1 (Ab Bv) (Ab AK) (hF.aG _ _ _) ⟨by have:=hl.a;omega,by have:=hl.c;omega,by rw[hi];have:=hl.m;omega⟩;have aN:Hid (P.ak d segs=if (P.aG Bv (AI AK) (Cj d segs)).1≠0 then P.aG Bv (AI AK) (Cj d segs) else (P.aG Bv (AI AK) (Cj d segs)).2.aN (Ab Bv) (Ab AK)):=rfl;obtain⟨R,hR⟩:∃R,P.ak d segs=R:=⟨_,rfl⟩;rw[hR]at aN ⊢;have cS:Hid (∀wx x,Ax x->_):=λwx x I=>KI wx x I;have aB:Cj d segs=AO d++segs.flatMap AO:=rfl;obtain⟨dn,bB⟩:∃dn,Bv=dn:=⟨_,rfl⟩;obtain⟨nm,aY⟩:∃nm,AK=nm:=⟨_,rfl⟩;rw[aY]at hX aO aV aN ⊢;rw[bB]at b6 aO aV aN;obtain⟨s0,bM⟩:∃s0,AI nm=s0:=⟨_,rfl⟩;rw[bM]at hX aO aV aN ⊢;obtain⟨W,hW⟩:∃W,P.aG dn s0 (Cj d segs)=W:=⟨_,rfl⟩;rw[hW]at aO aV aN;obtain⟨Q,hQ⟩:∃Q,W.2.aN (Ab dn) (Ab nm)=Q:=⟨_,rfl⟩;rw[hQ]at aV aN;obtain⟨il,b1⟩:∃il,Cj d segs=il:=⟨_,rfl⟩;rw[b1]at aO aB hi;have bK:=A1 aB;have dG:=A1 hi;obtain⟨pa,aA,rfl,hcap1,a6⟩:=hs.BP;unfold maxLen at a6;have dF:=A1 hs;have bI:=A1 L;have cE:=A1 hn;have cX:=A1 hX;have HFI:=A1 hf;have cG:=A1 bL;have bA:=A1 aE;have cZ:=A1 (TR w);have cV:Hid (A4 Aa w (w.aC #[.pointer none,.slice none 0 0] 260)):=(A4.C _ w).ah _;have bU:=A1 (cS.o (w.aC #[.pointer none,.slice none 0 0] 260) d hf);clear hR bE aB aY bB bM hW hQ b1 hi bG h L hn hF hl hL hs hX hf bL aE
 go_enter func200,ntmps200
 go_wp2_with (fail);refine bU.m ?_;rintro e w1⟨rfl,aU⟩;have bD:Hid (GO w.heap.size w.heap.size [] w1):=cZ.o.ai aU (λ_ h=>h.elim);have cD:Hid (A4 Aa w w1):=cV.o.tr aU;have cP:Hid (w.heap.size<w1.heap.size):=Bi (by simp) aU.Al;have bF:=A1 (Nb (t:=AO d) w1 bD.o (by rw[CL];simp) cD.o.Al);clear aU bU cZ cV;go_wp2_with (fail);refine bF.m ?_;rintro e w2⟨rfl,aJ,a0⟩;have bR:Hid (GO w.heap.size w.heap.size (AO d) w2):=aJ;have dH:Hid (A4 Aa w w2):=cD.o.Au (A4.b8 a0) λx I L=>by omega
 have cY:Hid (w.heap.size<w2.heap.size):=Bi cP.o a0.size;clear aJ a0 bF bD cD cP;go_wp2;obtain⟨bb,aZ⟩:∃bb,w.heap.size=bb:=⟨_,rfl⟩;rw[aZ]at bR cY ⊢;have bX:=A1 aZ;clear aZ;go_loopw [18] (λiv wr=>∃k:Nat,iv=A0 k/\k<=segs.length/\Hid (GO bb bb (AO d++(segs.take k).flatMap AO) wr/\A4 Aa w wr/\bb<wr.heap.size)) (λiv _=>segs.length-(intOf iv).toNat)
 case atStart=>exact⟨0,rfl,by omega,by simpa using bR.o,dH.o,cY.o⟩
 case round=>
  obtain⟨k,rfl,hk,hI⟩:=hrel;by_cases aK:k<segs.length
  ·obtain⟨i1,i2,i3⟩:=hI.o;obtain⟨g,o,rfl,c1⟩:=D6.at dF.o k aK;have I:=cG.o _ (BT aK);have a2:segs.take (k+1)=segs.take k++[segs[k]'aK]:=DL aK;obtain⟨x,bJ⟩:∃x,(segs[k]'aK)=x:=⟨_,rfl⟩;rw[bJ]at c1 I a2;have d1:=i2.ag c1;have a4:=A1 (cS.o wr x I);(have a9:Hid ((segs.take (k+1)).flatMap AO=(segs.take k).flatMap AO++AO x):=by unfold Hid;rw[a2];simp);have bC:(AO d++(segs.take k).flatMap AO).length<=8+8*segs.length:=by
    have:=Ow d (segs.take k);unfold Cj at this;rw[this,BI];omega
   obtain⟨pk,a5⟩:∃pk,AO d++(segs.take k).flatMap AO=pk:=⟨_,rfl⟩;(have aX:Hid (AO d++(segs.take (k+1)).flatMap AO=pk++AO x):=by unfold Hid;rw[a9.o,<-C8,a5]);rw[a5]at i1 bC;have aE:=CL x;obtain⟨ib,aB⟩:∃ib,AO x=ib:=⟨_,rfl⟩;rw[aB]at a4 aX aE;have cA:=A1 i1;have bY:=A1 i2;have bQ:=A1 i3;have cM:Hid (∀w6,A4 Aa wr w6->_):=λw6 h6=>Nb (t:=ib) w6 (cA.o.ai h6 (λ_ h=>h.elim)) (by omega) (AQ (Fb bQ.o) h6.Al);(have b9:(k:Int)<(segs.length:Int):=by omega);have hk0:=BR k;clear i1 i2 i3 hI c1 bJ a2 a5 aB I bC aE a9;go_wp2_with (fail);refine a4.m ?_;rintro e w6⟨rfl,a1⟩;have cQ:=A1 a1;have cB:=A1 (cM.o w6 a1);clear a1 a4 cM;go_wp2_with (go_at_call 194;refine cB.m ?_;rintro e w7⟨rfl,aJ,b2⟩;have b8:=A1 aJ;have bS:=A1 b2;clear aJ b2);go_roundw
   case rel=>
    have c7:A4 (λk=>bb<=k) w6 w7:=A4.b8 bS.o;refine⟨k+1,by go_num,by omega,by rw[aX.o];exact b8.o,?_,?_⟩
    ·exact(bY.o.tr cQ.o).Au c7 λx I L=>by have:=bX.o;omega
    ·exact Bi bQ.o (AQ cQ.o.Al bS.o.size)
   case measure=>simp[intOf];omega
  ·obtain⟨i1,i2,i3⟩:=hI.o;(obtain rfl:k=segs.length:=by omega);rw[Cc,<-bK.o]at i1;(have b9:¬((segs.length:Int)<(segs.length:Int)):=by omega);have fx:=cX.o.ai i2 (λh=>h);have g0:=fx.c0;have g1:=fx.c1;have g2:=fx.c2;have bV:Bg (wr.aC #[A6 b,.string (Ab nm),.int .u32 s0] 160) wr.heap.size 160 (A6 b) (Ab nm) s0:=Bf wr _;have ka:A4 Aa wr (wr.aC #[A6 b,.string (Ab nm),.int .u32 s0] 160):=(A4.C _ wr).ah _;have bN:=A1 (b6.o _ (i2.tr ka));have cU:=A1 ka;have cO:=A1 bV;have cA:=A1 i1;have bY:=A1 i2;have bQ:=A1 i3;have FX:=A1 fx;clear i1 i2 i3 ka bV b6 hI fx;go_wp2_with (fail);refine bN.m ?_;rintro e w5⟨rfl,a3⟩;have aT:=cO.o.ai a3 (λh=>h);have cT:A4 Aa wr w5:=cU.o.tr a3;have b7:=aT.c1;have bZ:=aT.fz 1;have aH:=A1 (aT.s1 ⟨dn.toArray⟩);have b5:Hid (A4 Aa wr (w5.setCell (A9 wr.heap.size 1) (.string ⟨dn.toArray⟩))):=cT.a1 (p:=(A9 wr.heap.size 1)) (λh=>by have h':wr.heap.size<wr.heap.size:=h;omega) _;clear a3 aT cT bN cO cU;generalize bH:wr.heap.size=db at *;have aQ:=A1 bH;clear bH;go_wp2;generalize w5.setCell (A9 db 1) (.string ⟨dn.toArray⟩)=w6 at aH b5 ⊢;have cJ:Hid (GO bb bb il w6.drew):=cA.o.ai b5.o.aa (λ_ h=>h.elim);have b4:=A1 (A2y w6.drew cJ.o (by have:=bQ.o;have:=aQ.o;have:=b5.o.Al;show bb<=w6.heap.size;omega));have aS:Hid (∀wx,Below bb w6.drew wx->(∀k o,w6.drew.heap[k]?=some o->k≠bb->(∀c fz,o≠.cells c 5 fz)->wx.heap[k]?=some o)->Bg wx db 160 (A6 b) ⟨dn.toArray⟩ s0/\A4 Aa w wx):=λwx I ho=>
    ⟨ho db _ aH.o.aa (by have:=bQ.o;have:=aQ.o;omega) (λc fz e=>by cases e),(bY.o.tr b5.o.aa).Au (A4.b8 I) λx I L=>by have:=bX.o;omega⟩
   have bT:Hid (∀wx,Bg wx db 160 (A6 b) ⟨dn.toArray⟩ s0->A4 Aa w wx->∀wy,As wx Ft wy (λw' z=>Bu w' b W.2 z)->Bg wy db 160 (A6 b) ⟨dn.toArray⟩ s0/\BY wy xb 162 b nm s0 f0 v0/\As w Ft wy (λw' z=>Bu w' b W.2 z)):=λwx hf I wy hy=>
    ⟨hf.ai hy.1 (λh=>by have:=bI.o _ h;have:=bY.o.Al;have:=aQ.o;omega),(cX.o.ai I (λh=>h)).ai hy.1 cE.o,hy.aY I⟩
   have e0:=aH.o.aa.c0;have e1:=aH.o.aa.c1;have e2:=aH.o.aa.c2;obtain⟨cH,dC⟩:=W;dsimp only at aO aV bT aN;clear b7 bZ g0 g1 g2 dG bK;by_cases hw:cH=0
   case neg=>
    (have a8:R=(cH,dC):=by rw[aN.o,Ai hw]);subst a8;(have hwb:(cH !=0)=true:=by simpa using hw);refine Bt (λw'=>A8 w' db 0 (A6 b)/\A8 w' db 1 (.string ⟨dn.toArray⟩)/\A8 w' db 2 (.int .u32 s0)) 3
     [(0,true),(1,false),(2,false)] ⟨e0,e1,e2⟩ ?_
    (refine B1 ?_;(try simp only[Act.put,Ur,Uq,Uo,Un,Um]))
    refine Bd λK X=>?_;go_simp;refine b4.m ?_;rintro e w9⟨rfl,aF,aI⟩;obtain⟨E,Y⟩:=aS.o w9 aF aI;refine X _ _ ⟨E.c0,E.c1,E.c2⟩ (λhS=>?_);have aG:=A1 (aO.o w9 Y);have aM:=A1 (bT.o w9 E Y);clear X K hS aF aI E Y b4 aS aO bT
    (try simp only[Ak])
    refine Bd λK X=>?_;go_simp;refine aG.m ?_;rintro e aD⟨rfl,hI⟩;obtain⟨E,Y,q3⟩:=aM.o aD hI;refine X _ _ ⟨E.c0,E.c1,E.c2⟩ (λhS=>?_);have dJ:=A1 Y;have dA:=A1 q3;clear X K hS hI aG aM E Y q3
    (try simp only[Ak])
    refine B4 ?_;simp only[Bm,Bl];go_wp2;go_ret;dsimp only
    obtain⟨r1,z,r2,r3,r4⟩:=dA.o;exact⟨rfl,dJ.o,r1.ad λ_ _ h=>.inl h,z,r2,r3,r4⟩
   case pos=>
    subst hw;(have a8:R=Q:=by rw[aN.o,Ae (by simp)]);subst a8;clear aN;refine Bt (λw'=>A8 w' db 0 (A6 b)/\A8 w' db 1 (.string ⟨dn.toArray⟩)/\A8 w' db 2 (.int .u32 s0)) 3
     [(0,true),(1,false),(2,false)] ⟨e0,e1,e2⟩ ?_
    (refine B1 ?_;(try simp only[Act.put,Ur,Uq,Uo,Un,Um]))
    refine Bd λK X=>?_;go_simp;refine b4.m ?_;rintro e w9⟨rfl,aF,aI⟩;obtain⟨E,Y⟩:=aS.o w9 aF aI;refine X _ _ ⟨E.c0,E.c1,E.c2⟩ (λhS=>?_);have aG:=A1 (aO.o w9 Y);have aM:=A1 (bT.o w9 E Y);have b0:=A1 E;have b3:=A1 Y;clear X K hS aF aI E Y b4 aS aO bT
    (try simp only[Ak])
    refine Bd λK X=>?_;go_simp;refine aG.m ?_;rintro e aD⟨rfl,hI⟩;obtain⟨E,Y,q3⟩:=aM.o aD hI;refine X _ _ ⟨E.c0,E.c1,E.c2⟩ (λhS=>?_);obtain⟨r1,-⟩:=q3;obtain⟨-,O,r2,r3,r5⟩:=hI;have dD:=A1 b0.o.lt;have dI:=A1 b3.o.Al;have cL:Hid (∀k,O k->Ft k\/w.heap.size<=k):=λk hk=>(r5 k hk).imp id λh=>AQ dI.o h
    have cN:=A1 r1;have aL:=A1 (aV.o aD.drew O (AU.au r2 r3 (A4.C _ aD).aa));have x0:=Y.aa.c0;have x1:=Y.aa.c1;have x2:=E.aa.c1;(have cF:Hid (¬O xb):=λh=>by rcases cL.o _ h with h|h;exact cE.o h;have:=bA.o;omega);have cC:Hid (¬O db):=λh=>by
     rcases r5 _ h with h|h
     ·have:=bI.o _ h;have:=bY.o.Al;have:=aQ.o;omega
     ·have:=dD.o;omega
    have bW:Hid (∀wz,As aD.drew O wz (λw' z=>Bu w' b R.2 z)->(BY wz xb 162 b nm s0 f0 v0/\Bg wz db 160 (A6 b) ⟨dn.toArray⟩ s0)/\As w Ft wz (λw' z=>Bu w' b R.2 z)):=λwz hz=>
     ⟨⟨Y.aa.ai hz.1 cF.o,E.aa.ai hz.1 cC.o⟩,by
      obtain⟨z1,aP,z2,z3,z4⟩:=hz
      exact⟨(cN.o.aa).Au z1 λx I L=>(cL.o x I).resolve_right (by omega),aP,z2,z3,λk hk=>(z4 k hk).elim (λh=>cL.o k h) λh=>.inr (AQ cN.o.Al h)⟩⟩
    clear X K hS aG aM E Y r1 r2 r3 r5 aV b0 b3
    (try simp only[Ak])
    refine B4 ?_;simp only[Bm,Bl];obtain⟨bO,a7⟩:=R;dsimp only at aL bW;have aW:Hid (∀wz,BY wz xb 162 b nm s0 f0 v0->As w Ft wz (λw' z=>Bu w' b a7 z)->BY ((wz.setCell (A9 xb 3) (A0 d)).setCell (A9 xb 4) (.slice pa segs.length aA)) xb 162 b nm s0 d (.slice pa segs.length aA)/\Ji w Ft xb ((wz.setCell (A9 xb 3) (A0 d)).setCell (A9 xb 4) (.slice pa segs.length aA)) b ⟨a7.D,a7.F⟩):=λwz I hz=>by
     obtain⟨z1,aP,z2,z3,z4⟩:=hz;have kz:A4 (One xb) wz ((wz.setCell (A9 xb 3) (A0 d)).setCell (A9 xb 4) (.slice pa segs.length aA)):=((A4.C (One xb) wz).aj (b:=xb) rfl 3 _).aj rfl 4 _;(have cI:¬aP xb:=λh=>by rcases z4 _ h with h|h;exact cE.o h;have:=bA.o;omega);exact⟨(I.s3 d).s4 _,z1.fk kz,aP,AU.aI z2 (kz.au z3 λk hk e=>by have e':k=xb:=e;subst e';exact cI hk),λk hk=>Bi (z3 k hk) kz.Al,z4⟩
    by_cases hr:bO=0
    case neg=>
     (have hrb:(bO !=0)=true:=by simpa using hr);go_wp2;refine Bt (λw'=>A8 w' xb 0 (A6 b)/\A8 w' xb 1 (.string ⟨nm.toArray⟩)/\A8 w' db 1 (.string ⟨dn.toArray⟩)) 13
      (Bb [0,1,2,3,4,5,6,7,8,9,10,11,12] [12]) ⟨x0,x1,x2⟩ ?_
     iterate 12 (refine B1 ?_;(try simp only[Ak]))
     refine Bd λK X=>?_;go_simp;refine aL.m ?_;rintro e aR⟨rfl,hI⟩;obtain⟨⟨y1,y2⟩,y3⟩:=bW.o aR hI;refine X _ _ ⟨y1.c0,y1.c1,y2.c1⟩ (λhS=>?_);have dB:=A1 y1;have dE:=A1 y3;clear X K hS hI aL bW y1 y2 y3
     (try simp only[Ak])
     refine B4 ?_;simp only[Bm,Bl];go_wp2;go_ret;dsimp only
     obtain⟨r1,z,r2,r3,r4⟩:=dE.o;exact⟨rfl,dB.o,r1.ad λ_ _ h=>.inl h,z,r2,r3,r4⟩
    case pos=>
     subst hr;go_wp2;refine Bt (λw'=>A8 w' xb 0 (A6 b)/\A8 w' xb 1 (.string ⟨nm.toArray⟩)/\A8 w' db 1 (.string ⟨dn.toArray⟩)) 13
      (Bb [0,1,2,3,4,5,6,7,8,9,10,11,12] [12]) ⟨x0,x1,x2⟩ ?_
     iterate 12 (refine B1 ?_;(try simp only[Ak]))
     refine Bd λK X=>?_;go_simp;refine aL.m ?_;rintro e aR⟨rfl,hI⟩;obtain⟨⟨y1,y2⟩,y3⟩:=bW.o aR hI;refine X _ _ ⟨y1.c0,y1.c1,y2.c1⟩ (λhS=>?_);have bP:=A1 (aW.o aR y1 y3);have g3:=y1.c3;have z3:=y1.fz 3;have g4:=(y1.s3 d).c4;have z4:=(y1.s3 d).fz 4;clear X K hS hI aL bW y1 y2 y3 aW
     (try simp only[Ak])
     refine B4 ?_;simp only[Bm,Bl];go_wp2;go_ret;exact⟨rfl,bP.o.1,bP.o.2⟩
end
end
section
open Go.RowKit
def Cx(w:World)(jb b:Nat)(lv:Value)(last puts:Int)(ov:Value):Prop:=w.heap[jb]?=some (.cells #[.pointer (some ⟨b,0,none⟩),lv,.int .i64 last,.int .i64 puts,ov] 208 (0,0))
section
variable {w w':World} {jb b:Nat} {lv ov:Value} {last puts:Int}
def Cx.c0(h:Cx w jb b lv last puts ov):A8 w jb 0 (A6 b):=by unfold Cx at h;simp[A8,World.cell?,h]
def Cx.c1(h:Cx w jb b lv last puts ov):A8 w jb 1 lv:=by unfold Cx at h;simp[A8,World.cell?,h]
def Cx.c2(h:Cx w jb b lv last puts ov):A8 w jb 2 (A0 last):=by unfold Cx at h;simp[A8,World.cell?,h]
def Cx.c3(h:Cx w jb b lv last puts ov):A8 w jb 3 (A0 puts):=by unfold Cx at h;simp[A8,World.cell?,h]
def Cx.c4(h:Cx w jb b lv last puts ov):A8 w jb 4 ov:=by unfold Cx at h;simp[A8,World.cell?,h]
def Cx.fz(h:Cx w jb b lv last puts ov)(o:Nat):w.frozen? (A9 jb o)=false:=by unfold Cx at h;simp[World.frozen?,h]
def Cx.lt(h:Cx w jb b lv last puts ov):jb<w.heap.size:=By h
def Cx.s1(h:Cx w jb b lv last puts ov)(x:Value):Cx (w.setCell (A9 jb 1) x) jb b x last puts ov:=BL h
def Cx.s2(h:Cx w jb b lv last puts ov)(x:Int):Cx (w.setCell (A9 jb 2) (A0 x)) jb b lv x puts ov:=BL h
def Cx.s3(h:Cx w jb b lv last puts ov)(x:Int):Cx (w.setCell (A9 jb 3) (A0 x)) jb b lv last x ov:=BL h
def Cx.s4(h:Cx w jb b lv last puts ov)(x:Value):Cx (w.setCell (A9 jb 4) x) jb b lv last puts x:=BL h
def Cx.aa(h:Cx w jb b lv last puts ov):Cx w.drew jb b lv last puts ov:=by unfold Cx at h ⊢;exact h
def Cx.ai{S:Nat->Prop}(h:Cx w jb b lv last puts ov)(d:A4 S w w')(z:¬S jb):Cx w' jb b lv last puts ov:=d.ai h z
end
structure DA (w:World) (jb b:Nat) (lv ov:Value) (J:Jn):Prop where
 Af:Cx w jb b lv J.Ac J.puts ov
 Av:Ee w lv J.Av
 AE:(J.AE=none/\ov=.pointer none)\/∃n s lb,J.AE=some (n,s)/\ov=.pointer (some ⟨lb,0,none⟩)/\Bg w lb 237 (.pointer (some ⟨b,0,none⟩)) ⟨(Ah n).toArray⟩ s/\s<4294967296
def De(jb:Nat)(lv ov:Value)(k:Nat):Prop:=k=jb\/lv.ownBlock=some k\/ov=.pointer (some ⟨k,0,none⟩)
section
variable {w w':World} {jb b:Nat} {lv ov:Value} {J:Jn}
def DA.aI(h:DA w jb b lv ov J)(z:Gc (De jb lv ov) w w'):DA w' jb b lv ov J:=by
 refine⟨(z jb (.inl rfl)).trans h.Af,Aw h.Av λg O=>z g (.inr (.inl O)),?_⟩;rcases h.AE with d|⟨n,s,E,d,rfl,L,I⟩
 ·exact .inl d
 ·exact .inr ⟨n,s,E,d,rfl,(z E (.inr (.inr rfl))).trans L,I⟩
def DA.lt(h:DA w jb b lv ov J){k:Nat}(d:De jb lv ov k):k<w.heap.size:=by
 rcases d with rfl|d|rfl
 ·exact h.Af.lt
 ·exact Ay h.Av d
 ·rcases h.AE with⟨_,z⟩|⟨n,s,lb,_,z,E,_⟩
  ·cases z
  ·cases z;exact E.lt
def DA.An{S:Nat->Prop}(h:DA w jb b lv ov J)(z:A4 S w w')(E:∀k,De jb lv ov k->¬S k):DA w' jb b lv ov J:=
 h.aI (z.au (λ_ d=>h.lt d) E)
def DA.al(h:DA w jb b lv ov J)(d:A4 Aa w w'):DA w' jb b lv ov J:=h.An d λ_ _ h=>h
end
def OB(l:List Int)(j:Nat)(d:j<l.length):l.getD j 0=l[j]'d:=by simp[List.getD,d]
def A1t(w:World)(X v2:Value)(d h:List Int)(O:D6 w X d)(L:D6 w v2 h):
 Ag 241 #[X,v2] w (Aj (.bool (decide (d=h))) λw'=>∃q,w'=w.drewN q):=by
 obtain⟨a1,c1,rfl,p1,p2⟩:=O.BP;obtain⟨a2,c2,rfl,q1,q2⟩:=L.BP;unfold maxLen at p2 q2;by_cases Y:d.length=h.length
 case neg=>
  have I:¬d=h:=λe=>Y (by rw[e]);refine(Tryz.slices_Equal_int_lens a1 a2 _ c1 _ c2 w Y).mono ?_;rintro e w'⟨rfl,rfl⟩;exact⟨by rw[Cu I],0,rfl⟩
 case pos=>
 by_cases h0:d.length=0
 ·have e1:d=[]:=Hj.1 h0;have e2:h=[]:=Hj.1 (by omega);subst e1;subst e2;refine(Tryz.slices_Equal_int_empty a1 a2 c1 0 c2 w (by omega)).mono ?_;rintro e w'⟨rfl,rfl⟩;exact⟨by simp,0,rfl⟩
 ·obtain⟨g1,o1,rfl,-⟩:=D6.at O 0 (by omega);obtain⟨g2,o2,rfl,-⟩:=D6.at L 0 (by omega);refine(Tryz.slices_Equal_int g1 o1 _ c1 g2 o2 _ c2 d h w (Ao _) (Ao _) (by omega) (by omega) (λj z=>?_) (λj z=>?_)).mono ?_
  ·obtain⟨g,o,e,W⟩:=D6.at O j z;cases e;rw[OB d j z];exact W
  ·obtain⟨g,o,e,W⟩:=D6.at L j z;cases e;rw[OB h j z];exact W
  rintro e w'⟨rfl,q,rfl⟩;refine⟨?_,q,rfl⟩;rw[Cc,Cc];by_cases E:d=h
  ·rw[Ct E,E];simp
  ·rw[Cu E,Hu.2 E]
def Rj:∀(k s:Nat) (l:Bs),(DD k s l).1.length*21<=l.length
 | 0,_,l=>by simp[DD]
 | k+1,s,l=>by
  unfold DD;split
  ·simp
  ·rename_i h;split
   ·have:=Rj k (AW s (l.take 17)) (l.drop 21);rw[Cl]at this;simp only[Cq];omega
   ·simp
def Yl(s:Nat)(ahead:Int)(l:Bs):(Gh s ahead l).1.length*21<=l.length:=by
 unfold Gh;split
 ·simp
 ·split
  ·split
   ·have:=Rj l.length (AW s (l.take 8)) (l.drop 12);rw[Cl]at this;simp only;omega
   ·simp
  ·simp
def ZJ{P:PD}{a c m:Nat}(h:Fit P a c m)(n ahead:Int):(P.aT n ahead).1.length*21<=m:=by
 have d:=KW h (Ah n);unfold PD.aT GD;split
 ·simp
 ·exact AQ (Yl _ _ _) d
end
end Go.Proofs.YtodcnkbblippnaaGreatDoor
