/- Part 8 of a proof: walks of the program. -/
import Derived.Shelf.Strings.BuilderK
import Derived.Test.YtodcnkbblippnaaGreatDoorPart07
namespace Go.Proofs.YtodcnkbblippnaaGreatDoor
set_option maxRecDepth 100000
set_option maxHeartbeats 32000000
set_option linter.defProp false
open Go.Proofs.Tryz
section
open Go.RowKit
attribute [local go_sem ↓] C5
def R8(w:World)(x:Int):Ac 169 #[A0 x] w (Ak (.bool false) λw'=>w=w'):=by
 go_enter func169,ntmps169
 go_wp2;go_ret;exact⟨rfl,rfl⟩
def JX(w:World)(x y:Int):Ac 130 #[A0 x,A0 y] w (Ak (A0 (Bo x y)) λw'=>w=w'):=by
 have d:=A1 (R8);unfold Bo
 go_enter func130,ntmps130
 by_cases h:x<y
 ·rw[Am h];go_wp2_with (go_at_call 169;refine(d.o _ _).mono ?_;rintro e w'⟨rfl,rfl⟩);go_ret;exact⟨rfl,rfl⟩
 ·by_cases z:y<x
  ·rw[Ad h,Am z];go_wp2_with (go_at_call 169;refine(d.o _ _).mono ?_;rintro e w'⟨rfl,rfl⟩);go_ret;exact⟨rfl,rfl⟩
  ·rw[Ad h,Ad z];go_wp2_with (go_at_call 169;refine(d.o _ _).mono ?_;rintro e w'⟨rfl,rfl⟩);go_ret;exact⟨rfl,rfl⟩
def Gw(a b:Int):Int:=if a≠0 then a else b
def LD(w:World)(g:Nat)(a b:Int)(h0:A5 w g 0 (A0 a))(h1:A5 w g 1 (A0 b)):
 Ac 156 #[AH g 2 2] w (Ak (A0 (Gw a b)) λw'=>w=w'):=by
 unfold Gw
 go_enter func156,ntmps156
 by_cases d:a=0
 ·subst d;rw[Ad (by simp)];by_cases h:b=0
  ·subst h;go_wp2;refine FY 3 ?_;rw[E6];go_wp2;rw[E6];go_wp2;rw[E6];go_wp2;go_ret;exact⟨rfl,rfl⟩
  ·(have hb':(b !=0)=true:=by simpa using h);go_wp2;refine FY 2 ?_;rw[E6];go_wp2;rw[E6];go_wp2;go_ret;exact⟨rfl,rfl⟩
 ·rw[Am d];have ha':(a !=0)=true:=by simpa using d
  go_wp2;refine FY 1 ?_;rw[E6];go_wp2;go_ret;exact⟨rfl,rfl⟩
def Sg(p q:Pu):BI p q=Gw (Bo p.1 q.1) (Bo p.2.1 q.2.1):=rfl
def CH(p:Pu):Value:=.agg #[A0 p.1,A0 p.2.1,A0 p.2.2]
def Ji(w:World)(p q:Pu):Ac 158 #[CH p,CH q] w (Ak (A0 (BI p q)) λw'=>A2 A7 w w'):=by
 obtain⟨E,d,I⟩:=p;obtain⟨z,H,L⟩:=q;rw[Sg];unfold CH;dsimp only
 have aB:=A1 (JX);have aD:=A1 (LD);obtain⟨x,hx⟩:∃x,Bo E z=x:=⟨_,rfl⟩;obtain⟨y,hy⟩:∃y,Bo d H=y:=⟨_,rfl⟩;rw[hx,hy];have b1:Bk ((w.alloc (.cells #[A0 E,A0 d,A0 I] 113)).alloc (.cells #[A0 z,A0 H,A0 L] 113)) w.heap.size E d I:=(DD _ _ _ (by simp)).trans (Bw w _);have b2:Bk ((w.alloc (.cells #[A0 E,A0 d,A0 I] 113)).alloc (.cells #[A0 z,A0 H,A0 L] 113)) (w.heap.size+1) z H L:=by
  have:=Bw (w.alloc (.cells #[A0 E,A0 d,A0 I] 113)) (.cells #[A0 z,A0 H,A0 L] 113);simpa[Bk] using this
 have k2:A2 A7 w ((w.alloc (.cells #[A0 E,A0 d,A0 I] 113)).alloc (.cells #[A0 z,A0 H,A0 L] 113)):=((A2.C _ w).ae _).ae _;have sz:((w.alloc (.cells #[A0 E,A0 d,A0 I] 113)).alloc (.cells #[A0 z,A0 H,A0 L] 113)).heap.size=w.heap.size+2:=by simp
 have U:=A1 b1;have O:=A1 b2;have aA:=A1 k2;have aF:=A1 sz
 go_enter func158,ntmps158
 go_wp2;generalize ((w.alloc (.cells #[A0 E,A0 d,A0 I] 113)).alloc (.cells #[A0 z,A0 H,A0 L] 113))=w2 at U O aA aF ⊢;refine BH (λw'=>A5 w' w.heap.size 0 (A0 E)/\A5 w' w.heap.size 1 (A0 d)/\A5 w' (w.heap.size+1) 0 (A0 z)/\A5 w' (w.heap.size+1) 1 (A0 H)) 14
  (Bj [0,1,2,3,5,6,7,8,9,10,4,11,12,13] [4,11,12,13]) ⟨U.o.c0,U.o.c1,O.o.c0,O.o.c1⟩ ?_
 iterate 10 (refine B5 ?_;(try simp only[An]))
 refine B7 λK J=>?_;go_simp;have V:=A1 U.o.I;have Y:=A1 O.o.I;refine(aB.o _ _ _).mono ?_;rintro e w3⟨rfl,rfl⟩;rw[hx];refine J _ _ ⟨V.o.c0,V.o.c1,Y.o.c0,Y.o.c1⟩ (λhS=>?_)
 (try simp only[An])
 refine B7 λK J=>?_;go_simp;refine(aB.o _ _ _).mono ?_;rintro e w4⟨rfl,rfl⟩;rw[hy];refine J _ _ ⟨V.o.c0,V.o.c1,Y.o.c0,Y.o.c1⟩ (λhS=>?_)
 (try simp only[An])
 refine B7 λK J=>?_;go_simp;have ka:A2 A7 w2 (w2.alloc (.cells #[A0 x,A0 y] 3)).drew:=((A2.C _ _).ae _).I;have Z:=U.o.Ap ka (λh=>h);have W:=O.o.Ap ka (λh=>h);have hb:(w2.alloc (.cells #[A0 x,A0 y] 3)).drew.heap[w2.heap.size]?=some (.cells #[A0 x,A0 y] 3):=Bw w2 _;refine J _ _ ⟨Z.c0,Z.c1,W.c0,W.c1⟩ (λhS=>?_)
 (try simp only[An])
 refine B7 λK J=>?_;go_simp;refine(aD.o _ _ x y (by simp only[A5,World.cell?,hb];rfl) (by simp only[A5,World.cell?,hb];rfl)).mono ?_;rintro e w5⟨rfl,rfl⟩;refine J _ _ ⟨Z.c0,Z.c1,W.c0,W.c1⟩ (λhS=>?_);have aE:Hid (A2 A7 w (w2.alloc (.cells #[A0 x,A0 y] 3)).drew):=aA.o.tr ka
 (try simp only[An])
 refine Bd ?_;simp only[BD,BC];go_wp2;go_ret;exact⟨rfl,aE.o⟩
def O7{t len:Int}(h:1<=len):AY t len=if t.tmod len<0 then t.tdiv len-1 else t.tdiv len:=by
 unfold AY;have Z:=Int.mul_ediv_add_emod t len;have W:=NN t (b:=len) (by omega);have e3:=NO t (b:=len) (by omega);have f1:=TC t len;have f3:t.tmod len<len:=NK t (by omega);have f4 : -len<t.tmod len:=by
  by_cases U:0<=t
  ·have:=Int.tmod_nonneg len U;omega
  ·have:=NK (-t) (b:=len) (by omega);rw[NL]at this;omega
 obtain⟨q,H⟩:∃q,t/len=q:=⟨_,rfl⟩;obtain⟨r,I⟩:∃r,t % len=r:=⟨_,rfl⟩;obtain⟨d,z⟩:∃d,t.tdiv len=d:=⟨_,rfl⟩;obtain⟨E,y⟩:∃E,t.tmod len=E:=⟨_,rfl⟩;rw[H,I]at Z;rw[I]at W e3;rw[z,y]at f1;rw[y]at f3 f4;rw[H,z,y];have key:len*(q-d)=E-r:=by
  have:len*(q-d)=len*q-len*d:=Int.mul_sub ..;omega
 by_cases J:E<0
 ·rw[Am J];have V : -(2*len)<len*(q-d):=by omega
  have O:len*(q-d)<0:=by omega
  have L:q-d<0:=by
   rcases Hv (q-d) 0 with h|h
   ·exact h
   ·have:=Int.mul_nonneg (a:=len) (by omega) h;omega
  have Y : -2<q-d:=by
   rcases Hv (-2) (q-d) with h|h
   ·exact h
   ·have:len*(q-d)<=len*(-2):=NM h (by omega);omega
  omega
 ·rw[Ad J];have V : -len<len*(q-d):=by omega
  have O:len*(q-d)<len:=by omega
  have L:q-d<1:=by
   rcases Hv (q-d) 1 with h|h
   ·exact h
   ·have:len*1<=len*(q-d):=NM h (by omega);omega
  have Y : -1<q-d:=by
   rcases Hv (-1) (q-d) with h|h
   ·exact h
   ·have:len*(q-d)<=len*(-1):=NM h (by omega);omega
  omega
def Oh{t len:Int}(H:AE t)(y:1<=len)(E:t.tmod len<0):AE (t.tdiv len-1):=by
 obtain⟨t1,t2⟩:=H;have f1:=TC t len;have f4 : -len<t.tmod len:=by
  by_cases I:0<=t
  ·have:=Int.tmod_nonneg len I;omega
  ·have:=NK (-t) (b:=len) (by omega);rw[NL]at this;omega
 obtain⟨q,z⟩:∃q,t.tdiv len=q:=⟨_,rfl⟩;obtain⟨r,d⟩:∃r,t.tmod len=r:=⟨_,rfl⟩;rw[z,d]at f1;rw[d]at f4 E;rw[z];constructor
 ·rcases Hv 0 q with h|h
  ·omega
  ·have:len*q<=1*q:=Int.mul_le_mul_of_nonpos_right y h;omega
 ·rcases Hv (q-1) 0 with h|h
  ·omega
  ·have h2:1*(q-1)<=len*(q-1):=Int.mul_le_mul_of_nonneg_right y h;have h3:len*(q-1)=len*q-len*1:=Int.mul_sub ..;omega
def IX(w:World)(t len:Int)(z:AE t)(h:1<=len/\len<=4611686018427387904):
 Ac 157 #[A0 t,A0 len] w (Ak (A0 (AY t len)) λw'=>w=w'):=by
 obtain⟨t1,t2⟩:=z;have hl0:¬len=0:=by omega
 rw[O7 h.1]
 go_enter func157,ntmps157
 by_cases d:t.tmod len<0
 ·rw[Am d];have y:wrap64 (t.tdiv len-1)=t.tdiv len-1:=by
   have:=Oh ⟨t1,t2⟩ h.1 d;unfold AE at this;unfold wrap64;omega
  go_wp2
  all_goals first|(exfalso;omega)|skip
  go_ret;refine⟨?_,rfl⟩;show Ending.returned (A0 (wrap64 (t.tdiv len-1)))=_;rw[y]
 ·rw[Ad d];go_wp2
  all_goals first|(exfalso;omega)|skip
  go_ret;exact⟨rfl,rfl⟩
def Lb{α:Type}(cmp:α->α->Int):∀(l:List α) (k:Nat) (h:k+1<l.length),BQ cmp (l.drop k)=(decide (cmp (l[k]'(by omega)) (l[k+1]'h)<0)&&BQ cmp (l.drop (k+1))):=by
 intro l k h;rw[EH (by omega:k<l.length),EH h];rfl
def La{α:Type}(cmp:α->α->Int)(l:List α)(k:Nat)(h:l.length<=k+1):BQ cmp (l.drop k)=true:=by
 have:(l.drop k).length<=1:=by rw[CS];omega
 match hx:l.drop k with
 | []=>rfl
 | [x]=>rfl
 | x::y::r=>rw[hx]at this;simp at this
def JZ(x y:Int):Bo x y = -1\/Bo x y=0\/Bo x y=1:=by
 unfold Bo;split
 ·exact .inl rfl
 ·split
  ·exact .inr (.inr rfl)
  ·exact .inr (.inl rfl)
def P8(w:World)(v:Value)(l:List Int)(h:C4 w v l)(hl:l.length<1099511627776):
 Ac 129 #[v,.func (.func 130) #[] #[]] w (Ak (.bool (BQ Bo l)) λw'=>∃n,w'=w.drewN n):=by
 obtain⟨a,cap,rfl,h1,h2⟩:=h.BU;unfold maxLen at h2;have aA:Hid (BQ Bo l=BQ Bo (l.drop 0)):=rfl;generalize hR:BQ Bo l=R at aA ⊢;have H:=A1 h
 go_enter func129,ntmps129
 go_wp2;go_loopw [5] (λiv wr=>∃k:Nat,iv=A0 ((k:Int)+1)/\k<=l.length/\(∃n,wr=w.drewN n)/\Hid (R=BQ Bo (l.drop k))) (λiv _=>l.length+1-(intOf iv).toNat)
 case atStart=>exact⟨0,rfl,by omega,⟨0,rfl⟩,aA.o⟩
 case round=>
  obtain⟨k,rfl,hk,⟨n,rfl⟩,L⟩:=hrel;by_cases z:k+1<l.length
  ·obtain⟨g,o,rfl,c1⟩:=C4.at H.o k (by omega);obtain⟨g',o',e,c2⟩:=C4.at H.o (k+1) z;cases e;have d:=L.o;rw[Lb Bo l k z]at d;have J:=JZ (l[k]'(by omega)) (l[k+1]'z);have O:=A1 (λn=>JX (w.drewN n) (l[k]'(by omega)) (l[k+1]'z));obtain⟨x,hx⟩:∃x,(l[k]'(by omega))=x:=⟨_,rfl⟩;obtain⟨y,hy⟩:∃y,(l[k+1]'z)=y:=⟨_,rfl⟩;rw[hx]at c1 d J O;rw[hy]at c2 d J O;generalize Y:Bo x y=cc at d J O;have d1:∀n,A5 (w.drewN n) g (o+k) (A0 x):=λn=>c1;have d2:∀n,A5 (w.drewN n) g (o+(k+1)) (A0 y):=λn=>c2;have I:=A1 d;clear c1 c2 hx hy Y d L;(have W:(k:Int)+1<(l.length:Int):=by omega);have hk0:=C3 k;(have hki2:(k:Int)<(l.length:Int):=by omega);(have Z:IntKind.i64.wrap (k:Int)=k:=by simp[IntKind.wrap,IntKind.bits,IntKind.signed];omega);(have ew1:IntKind.i64.wrap ((k:Int)+1-1)=k:=by rw[Hw];exact Z);(have tk:((k:Int)+1).toNat=k+1:=by omega);(have pk:(0:Int)<=(k:Int)+1:=by omega);by_cases hc:cc<0
   ·have E:Hid (R=BQ Bo (l.drop (k+1))):=by
     have:=I.o;rw[Cc hc,Kp]at this;exact this
    clear I;(have V:¬(0<=cc):=by omega);go_wp2;refine BH (λw'=>A5 w' g (o+k) (A0 x)/\A5 w' g (o+(k+1)) (A0 y)) 11
     (Bj [0,1,2,3,4,5,6,7,8,9,10] [10]) ⟨d1 (n+1),d2 (n+1)⟩ ?_
    iterate 10 (refine B5 ?_;(try simp only[An]))
    refine B7 λK U=>?_;go_simp;refine(O.o (n+1)).mono ?_;rintro e w3⟨rfl,rfl⟩;refine U _ _ ⟨d1 (n+1),d2 (n+1)⟩ (λhS=>?_);clear U K hS
    (try simp only[An])
    refine Bd ?_;simp only[BD,BC];go_wp2;go_roundw
    case rel=>exact⟨k+1,by go_num,by omega,⟨n+1,rfl⟩,E.o⟩
    case measure=>simp[intOf];omega
   ·have E:R=false:=by
     have:=I.o;rw[Cj hc,NQ]at this;exact this
    clear I;subst E;(have V:0<=cc:=by omega);go_wp2;refine BH (λw'=>A5 w' g (o+k) (A0 x)/\A5 w' g (o+(k+1)) (A0 y)) 11
     (Bj [0,1,2,3,4,5,6,7,8,9,10] [10]) ⟨d1 (n+1),d2 (n+1)⟩ ?_
    iterate 10 (refine B5 ?_;(try simp only[An]))
    refine B7 λK U=>?_;go_simp;refine(O.o (n+1)).mono ?_;rintro e w3⟨rfl,rfl⟩;refine U _ _ ⟨d1 (n+1),d2 (n+1)⟩ (λhS=>?_)
    (try simp only[An])
    refine Bd ?_;simp only[BD,BC];go_wp2;go_ret;exact⟨rfl,_,rfl⟩
  ·(have E:R=true:=by rw[L.o,La Bo l k (by omega)]);subst E;(have W:¬((k:Int)+1<(l.length:Int)):=by omega);go_wp2;go_ret;exact⟨rfl,_,rfl⟩
def MS(p q:Pu):BI p q = -1\/BI p q=0\/BI p q=1:=by
 unfold BI;split<;>exact JZ _ _
def P7(w:World)(v:Value)(l:List Pu)(h:F8 w v l)(hl:l.length<1099511627776):
 Ac 177 #[v,.func (.func 158) #[] #[]] w (Ak (.bool (BQ BI l)) λw'=>A2 A7 w w'):=by
 obtain⟨a,cap,rfl,h1,h2⟩:=h.BU;unfold maxLen at h2;have aN:Hid (BQ BI l=BQ BI (l.drop 0)):=rfl;generalize hR:BQ BI l=R at aN ⊢;have H:=A1 h
 go_enter func177,ntmps177
 go_wp2;go_loopw [5] (λiv wr=>∃k:Nat,iv=A0 ((k:Int)+1)/\k<=l.length/\Hid (A2 A7 w wr)/\Hid (R=BQ BI (l.drop k))) (λiv _=>l.length+1-(intOf iv).toNat)
 case atStart=>exact⟨0,rfl,by omega,A2.C _ _,aN.o⟩
 case round=>
  obtain⟨k,rfl,hk,z,Y⟩:=hrel;by_cases L:k+1<l.length
  ·obtain⟨g,o,rfl,-,c1,c2,c3⟩:=F8.at H.o k (by omega);obtain⟨g',o',e,-,c4,c5,c6⟩:=F8.at H.o (k+1) L;cases e;have d:=Y.o;rw[Lb BI l k L]at d;have V:=MS (l[k]'(by omega)) (l[k+1]'L);have aA:=A1 (λE=>Ji E (l[k]'(by omega)) (l[k+1]'L));obtain⟨x,O⟩:∃x,(l[k]'(by omega))=x:=⟨_,rfl⟩;obtain⟨y,hy⟩:∃y,(l[k+1]'L)=y:=⟨_,rfl⟩;rw[O]at c1 c2 c3 d V aA;rw[hy]at c4 c5 c6 d V aA;obtain⟨x1,x2,x3⟩:=x;obtain⟨y1,y2,y3⟩:=y;generalize hcc:BI (x1,x2,x3) (y1,y2,y3)=cc at d V aA;dsimp only at c1 c2 c3 c4 c5 c6;have d1:=z.o.I.af c1;have d2:=z.o.I.af c2;have d3:=z.o.I.af c3;have d4:=z.o.I.af c4;have d5:=z.o.I.af c5;have d6:=z.o.I.af c6;have aB:=A1 d;have aG:=A1 c1;have aJ:=A1 c2;have aI:=A1 c3;have aD:=A1 c4;have aK:=A1 c5;have aE:=A1 c6;(have aF:(k:Int)+1<(l.length:Int):=by omega);have hk0:=C3 k;(have hki2:(k:Int)<(l.length:Int):=by omega);(have aH:IntKind.i64.wrap (k:Int)=k:=by simp[IntKind.wrap,IntKind.bits,IntKind.signed];omega);(have ew1:IntKind.i64.wrap ((k:Int)+1-1)=k:=by rw[Hw];exact aH);(have tk:((k:Int)+1).toNat=k+1:=by omega);(have pk:(0:Int)<=(k:Int)+1:=by omega);have U:Hid (∀E,A2 A7 wr.drew E->(A5 E g (o+k*3) (A0 x1)/\A5 E g (o+k*3+1) (A0 x2)/\A5 E g (o+k*3+2) (A0 x3)/\A5 E g (o+(k+1)*3) (A0 y1)/\A5 E g (o+(k+1)*3+1) (A0 y2)/\A5 E g (o+(k+1)*3+2) (A0 y3))/\A2 A7 w E):=λE O=>
    ⟨⟨O.af (z.o.I.af aG.o),O.af (z.o.I.af aJ.o),O.af (z.o.I.af aI.o),O.af (z.o.I.af aD.o),O.af (z.o.I.af aK.o),O.af (z.o.I.af aE.o)⟩,z.o.I.tr O⟩
   by_cases W:cc<0
   ·have I:Hid (R=BQ BI (l.drop (k+1))):=by
     have:=aB.o;rw[Cc W,Kp]at this;exact this
    (have aL:¬(0<=cc):=by omega);go_wp2;refine BH (λw'=>A5 w' g (o+k*3) (A0 x1)/\A5 w' g (o+k*3+1) (A0 x2)/\A5 w' g (o+k*3+2) (A0 x3)/\A5 w' g (o+(k+1)*3) (A0 y1)/\A5 w' g (o+(k+1)*3+1) (A0 y2)/\A5 w' g (o+(k+1)*3+2) (A0 y3)) 11
     (Bj [0,1,2,3,4,5,6,7,8,9,10] [10]) ⟨d1,d2,d3,d4,d5,d6⟩ ?_
    iterate 10 (refine B5 ?_;(try simp only[An]))
    refine B7 λK hK=>?_;go_simp;refine(aA.o _).mono ?_;rintro e Z⟨rfl,J⟩;refine hK _ _ (U.o Z J).1 (λhS=>?_);have aM:=A1 (U.o Z J).2
    (try simp only[An])
    refine Bd ?_;simp only[BD,BC];go_wp2;go_roundw
    case rel=>exact⟨k+1,by go_num,by omega,aM.o,I.o⟩
    case measure=>simp[intOf];omega
   ·have I:R=false:=by
     have:=aB.o;rw[Cj W,NQ]at this;exact this
    subst I;(have aL:0<=cc:=by omega);go_wp2;refine BH (λw'=>A5 w' g (o+k*3) (A0 x1)/\A5 w' g (o+k*3+1) (A0 x2)/\A5 w' g (o+k*3+2) (A0 x3)/\A5 w' g (o+(k+1)*3) (A0 y1)/\A5 w' g (o+(k+1)*3+1) (A0 y2)/\A5 w' g (o+(k+1)*3+2) (A0 y3)) 11
     (Bj [0,1,2,3,4,5,6,7,8,9,10] [10]) ⟨d1,d2,d3,d4,d5,d6⟩ ?_
    iterate 10 (refine B5 ?_;(try simp only[An]))
    refine B7 λK hK=>?_;go_simp;refine(aA.o _).mono ?_;rintro e Z⟨rfl,J⟩;refine hK _ _ (U.o Z J).1 (λhS=>?_);have aM:=A1 (U.o Z J).2
    (try simp only[An])
    refine Bd ?_;simp only[BD,BC];go_wp2;go_ret;exact⟨rfl,aM.o⟩
  ·(have I:R=true:=by rw[Y.o,La BI l k (by omega)]);subst I;(have aF:¬((k:Int)+1<(l.length:Int)):=by omega);go_wp2;go_ret;exact⟨rfl,z.o⟩
def OX{k:Nat}{l:Bs}(h:l.length<17):Dj k l=some ([],l):=by cases k<;>simp[Dj,h]
def OY{k:Nat}{c:UInt8}{d:Bs}(h:16<=d.length):Dj (k+1) (c::d)=if c.toNat<8 then (Dj k (d.drop 16)).map λr=>(((c.toNat:Int),B1 d,B1 (d.drop 8)):: r.1,r.2) else none:=by
 have y:¬(c::d).length<17:=by simp;omega
 simp only[Dj,Ad y];rfl
section
variable {w:World} {b B:Nat} {P:PD} {Ft:Nat->Prop} {a c m:Nat} {n:Int}
def Ps(w:World)(h:B4 w b P Ft)(aL:∀k,Ft k->k<w.heap.size)(hF:Fit P a c m)(hl:BL a c m)(hn:By n)(hL:Lets B w):
 Ac 135 #[A4 b,A0 n] w λe w'=>
  (P.CY n=none/\e=.returned (.tuple #[.pointer none,A0 7])/\A2 A7 w w')\/
  ∃l O v,P.CY n=some l/\e=.returned (.tuple #[A4 O,A0 0])/\Bh w' O 182 b (AJ n) (AB (AJ n)) n v/\AO w' v l/\(∀g,v.ownBlock=some g->w.heap.size<=g)/\w.heap.size<=O/\A2 A7 w w':=by
 obtain⟨i0,hi,bJ,bQ,bP⟩:=Dr FK;have bD:=A1 (L4 w b hn hL);have a5:Hid (∀w1,A2 A7 w w1->_):=λw1 hc=>Lq (AJ n) (AP.au h aL hc) (λk hk=>Bc (aL k hk) hc.Af) hF hl;have aM:(P.aO (AJ n)).1.length<=4294967296:=by
  have h1:=Ho hF (AJ n);have:=hl.m;unfold PD.aO;split
  ·simp
  ·split
   ·rename_i d hd;unfold Fj at hd;split at hd
    ·cases hd
    ·split at hd
     ·cases hd;simp only[Dg];omega
     ·cases hd
   ·simp
 obtain⟨X,hX⟩:∃X,P.CY n=X:=⟨_,rfl⟩;have bE:Hid (FZ (P.aO (AJ n))=X):=hX;rw[hX];have bH:AJ n=B9 2 n:=rfl;rw[<-bH]at bD;generalize hnme:AJ n=nm at bD a5 bE aM ⊢;generalize hs0:AB nm=s0 at bD a5 ⊢;obtain⟨⟨dt,de⟩,bM⟩:∃x,P.aO nm=x:=⟨_,rfl⟩;rw[bM]at a5 bE aM;dsimp only at a5 aM
 go_enter func135,ntmps135
 go_wp2_with (fail);refine bD.m ?_;rintro e w1⟨O,rfl,aJ,bA,bU⟩;have aZ:=A1 (a5.o w1 bA);have aX:=A1 aJ;have aY:=A1 bA;have aW:=A1 bU;have g0:=aJ.c0;have g1:=aJ.c1;have g2:=aJ.c2;by_cases he:de=0
 case neg=>
  have hb:(de !=0)=true:=by simpa using he
  have J:Hid (X=none):=by unfold Hid;rw[<-bE.o];unfold FZ;rw[Am he]
  go_wp2_with (go_at_call 126;refine aZ.m ?_;rintro e w2⟨rfl,Z⟩;have aA:=A1 Z);go_ret2;exact .inl ⟨J.o,rfl,aY.o.tr aA.o⟩
 case pos=>
 subst he
 have aD:Hid ((match Dj dt.length dt with
  | none=>none
  | some (l,r)=>if r=[]/\BQ BI l=true then some l else none)=X):=by
  rw[<-bE.o];unfold FZ;rw[Ad (by simp)];rfl
 generalize hY:Dj dt.length dt=Y at aD;have cA:=A1 hY;go_wp2_with (fail);refine aZ.m ?_;rintro e w2⟨rfl,Z⟩;have bS:=A1 (aX.o.Ap Z (λh=>h));have aA:Hid (A2 A7 w w2):=aY.o.tr Z;have bN:=A1 aX.o.lt;have a2:=A1 Z.Af;go_wp2;go_loopw [7] (λtv wr=>∃(l:Bs) (k:Nat) (z:List Pu),tv=.string ⟨l.toArray⟩/\z.length*17+l.length<=dt.length/\Hid (∃v,Bh wr O 182 b nm s0 n v/\AO wr v z/\(∀g,v.ownBlock=some g->w2.heap.size<=g)/\(A2 A7 w wr/\w2.heap.size<=wr.heap.size)/\l.length<=k/\Y=(Dj k l).map λr=>(z++r.1,r.2))) (λtv _=>match tv with | .string x=>x.size|_=>0)
 case atStart=>exact⟨dt,dt.length,[],rfl,by simp,_,bS.o,BW _ _ _ _,λg L=>by simp[Value.ownBlock]at L,⟨aA.o,Aw _⟩,Aw _,by rw[<-cA.o];simp⟩
 case round=>
  obtain⟨l,k,z,rfl,aH,hI⟩:=hrel;have U:(ByteArray.mk l.toArray).size=l.length:=by show l.toArray.size=_;simp
  by_cases aP:l.length<17
  case pos=>
   obtain⟨v,i1,i2,i3,⟨i4,a3⟩,-,i6⟩:=hI.o;rw[OX aP]at i6;simp only[FO,EI]at i6;subst i6;(have hlt17:¬(17<=(l.length:Int)):=by omega);have bK:=A1 i1;have aQ:=A1 i2;have a4:=A1 i3;have aU:=A1 i4;have g4:=i1.c4;by_cases V:l=[]
   case neg=>
    (have J:Hid (X=none):=by unfold Hid;rw[<-aD.o];simp only;rw[Ad (λh=>V h.1)]);have hbl:(l==[])=false:=GO.2 V;go_wp2;go_ret2;exact .inl ⟨J.o,rfl,aU.o⟩
   case pos=>
   subst V;have bB:=A1 (P7 wr v z aQ.o.rd (by simp at aH;omega));by_cases hr:BQ BI z=true
   case neg=>
    (have bO:BQ BI z=false:=by simpa using hr);(have J:Hid (X=none):=by unfold Hid;rw[<-aD.o];simp only;rw[Ad (λh=>hr h.2)]);rw[bO]at bB;go_wp2_with (go_at_call 177;refine bB.m ?_;rintro e w3⟨rfl,aO⟩;have W:=A1 aO);go_ret2;exact .inl ⟨J.o,rfl,aU.o.tr W.o⟩
   case pos=>
    (have J:Hid (X=some z):=by unfold Hid;rw[<-aD.o];simp only;rw[Am ⟨by first|trivial|rfl,hr⟩]);rw[hr]at bB;go_wp2_with (go_at_call 177;refine bB.m ?_;rintro e w3⟨rfl,aO⟩;have W:=A1 aO);go_ret2;exact .inr ⟨z,O,v,J.o,rfl,bK.o.Ap W.o (λh=>h),Aq aQ.o λg L=>W.o.Ao g (Av aQ.o L) (λh=>h),λg L=>Az aA.o.Af (a4.o g L),aW.o,aU.o.tr W.o⟩
  case neg=>
   obtain⟨v,i1,i2,i3,⟨i4,a3⟩,i5,i6⟩:=hI.o;obtain⟨k,rfl⟩:∃k',k=k'+1:=⟨k-1,by omega⟩;obtain⟨c0,d,rfl⟩:∃c0 d,l=c0::d:=by
    cases l with
    | nil=>simp at aP
    | cons c0 d=>exact⟨c0,d,rfl⟩
   (have aB:16<=d.length:=by simp at aP;omega);rw[OY aB]at i6;obtain⟨ap,cp,rfl,hcap1,aS,-⟩:=AR i2;unfold maxLen at aS;have aV:=A1 (λw5=>Ls w5 c0 d ⟨aB,by simp at aH;omega⟩);have e2:(ByteArray.mk (c0::d).toArray).extract 17 (d.length+1)=⟨(d.drop 16).toArray⟩:=by
    rw[extract_mk,Dh,EF (by rw[CS];omega)]
   obtain⟨H,bR⟩:∃H,B1 d=H:=⟨_,rfl⟩;obtain⟨E,bF⟩:∃E,B1 (d.drop 8)=E:=⟨_,rfl⟩;rw[bR,bF]at aV i6;obtain⟨q,hq⟩:∃q,d.drop 16=q:=⟨_,rfl⟩;(have a6:q.length+16=d.length:=by rw[<-hq,CS];omega);rw[hq]at e2 i6;obtain⟨ll,a7⟩:∃ll,d.length=ll:=⟨_,rfl⟩;(have bL:(c0::d).length=ll+1:=by simp[a7]);rw[bL]at U aH i5;rw[a7]at e2 aB a6;(have hge:17<=(ll:Int)+1:=by omega);generalize hty:ByteArray.mk (c0::d).toArray=ty at e2 U aV ⊢;have g4:=i1.c4;have f4:=i1.fz 4;have bK:=A1 i1;have aQ:=A1 i2;have a4:=A1 i3;have aU:=A1 i4;have bG:=A1 a3;have b8:=A1 i5;have bX:=A1 i6;have aK:=A1 a6;have a1:=A1 aH;by_cases aG:c0.toNat<8
   case neg=>
    (have J:Hid (X=none):=by unfold Hid;rw[<-aD.o,bX.o,Ad aG];rfl);rw[show decide (c0.toNat<8)=false from Cj aG]at aV;go_wp2_with (go_at_call 176;refine(aV.o _).mono ?_;rintro e w6⟨rfl,aN⟩;have aF:=A1 aN);go_ret2;exact .inl ⟨J.o,rfl,(aU.o.tr aF.o).ae _⟩
   case pos=>
    rw[show decide (c0.toNat<8)=true from Cc aG]at aV;have b9:Hid (Y=(Dj k q).map λr=>((z++[((c0.toNat:Int),H,E)])++r.1,r.2)):=by
     unfold Hid;rw[bX.o,Am aG];cases Dj k q<;>simp
    go_wp2_with (go_at_call 176;refine(aV.o _).mono ?_;rintro e w6⟨rfl,aN⟩;have bI:=A1 (Bw w6 (.cells #[A0 c0.toNat,A0 H,A0 E] 113));have aF:=A1 aN);have bT:A2 A7 wr (w6.alloc (.cells #[A0 c0.toNat,A0 H,A0 E] 113)):=aF.o.ae _;have aT:Hid (Bk (w6.alloc (.cells #[A0 c0.toNat,A0 H,A0 E] 113)) w6.heap.size c0.toNat H E):=bI.o;have a0:=A1 bT;have bV:Hid (∀g,(Value.slice ap z.length cp).ownBlock=some g->g<w6.heap.size):=λg L=>Bc (Av aQ.o L) aF.o.Af;generalize (w6.alloc (.cells #[A0 c0.toNat,A0 H,A0 E] 113))=w7 at aT a0 ⊢;generalize w6.heap.size=pb at aT bV ⊢;have bY:=A1 (bK.o.Ap a0.o (λh=>h));have bZ:Hid (AO w7 (.slice ap z.length cp) z):=Aq aQ.o λg L=>a0.o.Ao g (Av aQ.o L) (λh=>h);have b2:Hid (w2.heap.size<=w7.heap.size):=Az bG.o a0.o.Af;have cC:Hid (A2 A7 w w7):=aU.o.tr a0.o;refine BH (λw'=>A5 w' pb 0 (A0 c0.toNat)/\A5 w' pb 1 (A0 H)/\A5 w' pb 2 (A0 E)/\A5 w' O 4 (.slice ap z.length cp)) 8
     (Bj [0,1,2,3,4,5,6,7] [6,7]) ⟨aT.o.I.c0,aT.o.I.c1,aT.o.I.c2,bY.o.I.c4⟩ ?_
    iterate 6 (refine B5 ?_;(try simp only[An]))
    refine B7 λK hK=>?_;go_simp;have ka:A2 A7 w7 (w7.alloc (.cells #[A0 c0.toNat,A0 H,A0 E] 113)).drew:=((A2.C _ _).ae _).I;have bC:=aT.o.Ap ka (λh=>h);have bW:=bY.o.Ap ka (λh=>h);have b7:Hid (AO (w7.alloc (.cells #[A0 c0.toNat,A0 H,A0 E] 113)).drew (.slice ap z.length cp) z):=Aq bZ.o λg L=>ka.Ao g (Av bZ.o L) (λh=>h);have a9:Hid (Src Tryz.prog 3 97 (AH w7.heap.size 1 1) 1 #[A0 c0.toNat,A0 H,A0 E].toList (w7.alloc (.cells #[A0 c0.toNat,A0 H,A0 E] 113)).drew):=by
     have hb:(w7.alloc (.cells #[A0 c0.toNat,A0 H,A0 E] 113)).drew.heap[w7.heap.size]?=some (.cells #[A0 c0.toNat,A0 H,A0 E] 113 (0,0)):=Bw w7 _;exact Src.bJ underlying97 hb 1 1 rfl (FE [((c0.toNat:Int),H,E)])
    refine hK _ _ ⟨bC.c0,bC.c1,bC.c2,bW.c4⟩ (λhS=>?_)
    (try simp only[An])
    refine Em rfl (by rfl) (λK hK=>?_);refine H0 (.tmp 40) (.tmp 42) 97 97 rfl 113 i0 _ 3 24 underlying97 hi bJ bQ bP rfl (by decide) (.slice ap z.length cp) z.length (Bv z) (by rfl) b7.o _ 1 _ (by rfl) a9.o (by have:=a1.o;omega) ?_;intro a8 I w8 hA;have aE:=hA.Aj (S:=λk=>(Value.slice ap z.length cp).ownBlock=some k) λ_ h=>h;have b1:Hid (O<w2.heap.size):=Bc bN.o a2.o;have aR:=bC.Ap aE (λh=>EE _ (bV.o _ h));have aI:=bW.Ap aE (λh=>by have:=a4.o _ h;have:=b1.o;omega);have b6:Hid (AO w8 (.slice a8 (z.length+1) I) (z++[((c0.toNat:Int),H,E)])):=by
     (have e:(z++[((c0.toNat:Int),H,E)]).length=z.length+1:=by simp);unfold Hid AO;rw[G1,e];exact hA.AA
    have b0:Hid (∀g,(Value.slice a8 (z.length+1) I).ownBlock=some g->w2.heap.size<=g):=λg L=>by
     rcases hA.BJ with h|h
     ·rw[h]at L;exact a4.o g L
     ·rw[h]at L;cases L;have:=b2.o;have:=ka.Af;omega
    (have cB:Hid (A2 A7 w w8):=(cC.o.tr ka).As aE λy hy aL=>by have:=a4.o y hy;have:=aA.o.Af;omega);have cD:Hid (w2.heap.size<=w8.heap.size):=Az b2.o (Az ka.Af aE.Af);refine hK _ _ ⟨aR.c0,aR.c1,aR.c2,aI.c4⟩ (λhS=>?_);have g4:=aI.c4;have f4:=aI.fz 4;have b5:=A1 (aI.s4 (.slice a8 (z.length+1) I));have b4:Hid (A2 A7 w (w8.sC O 4 (.slice a8 (z.length+1) I))):=cB.o.a1 (p:=(A8 O 4)) (λh=>by have h':O<w.heap.size:=h;have:=aW.o;omega) _;have b3:Hid (AO (w8.sC O 4 (.slice a8 (z.length+1) I)) (.slice a8 (z.length+1) I) (z++[((c0.toNat:Int),H,E)])):=Aq b6.o λg L=>EV _ _ _ _ (λe=>by have e':g=O:=e;have:=b0.o g L;have:=b1.o;omega)
    (try simp only[An])
    refine Bd ?_;simp only[BD,BC];go_wp2;go_roundw
    case rel=>exact⟨q,k,z++[((c0.toNat:Int),H,E)],rfl,by have:=a1.o;have:=aK.o;simp;omega,_,b5.o,by have:=b3.o;simpa using this,by have:=b0.o;simpa using this,⟨b4.o,by have:=cD.o;simpa using this⟩,by have:=b8.o;have:=aK.o;omega,b9.o⟩
    case measure=>
     (have e:(ByteArray.mk q.toArray).size=q.length:=by show q.toArray.size=_;simp);have:=aK.o;simp only[e,U];omega
end
def Cw(p:Pu):Prop:=(0<=p.1/\p.1<8)/\AE p.2.1/\AE p.2.2
def PB(a b:List Pu):BX (a++b)=BX a++BX b:=by simp[BX]
def Jj(s t v:Int):(AW s t v).length=17:=by simp[AW,CO]
def Jg(l:List Pu):(BX l).length=17*l.length:=by
 induction l with
 | nil=>rfl
 | cons p r ih=>
  have:BX (p::r)=AW p.1 p.2.1 p.2.2++BX r:=rfl;rw[this,B2,ih,Jj,Cr];omega
def A2.bA{B:Nat}{w w':World}(h:Below B w w'):A2 (λk=>B<=k) w w':=⟨h.os,h.tape,h.output,h.size,λk _ hn=>h.block k (by omega)⟩
section
variable {w:World} {b B:Nat} {P:PD} {Ft:Nat->Prop} {a c m:Nat} {n:Int}
def Ql(w:World)(pv:Value)(l:List Pu)(h:B4 w b P Ft)(L:∀k,Ft k->k<w.heap.size)(hF:Fit P a c m)(hl:BL (a+1) (c+1) m)(hn:By n)(hL:Lets B w)(hp:F8 w pv l)(a6:∀p∈l,Cw p)(hpl:l.length<=134217728):
 Ac 151 #[A4 b,A0 n,pv] w λe w'=>
  ((P.aK n l).1≠0/\e=.returned (.tuple #[.pointer none,A0 (P.aK n l).1])\/(P.aK n l).1=0/\∃d,e=.returned (.tuple #[A4 d,A0 0]))/\Al w Ft w' (λw' J=>B4 w' b (P.aK n l).2 J):=by
 have aQ:=A1 (L4 w b hn hL);have aH:Hid (∀w1,A2 A7 w w1->_):=λw1 hc=>Kv (AJ n) (BX l) (Gr (AJ n)) (AP.au h L hc) (λk hk=>Bc (L k hk) hc.Af) (by rw[Jg];omega) hF hl;obtain⟨X,hX⟩:∃X,P.aK n l=X:=⟨_,rfl⟩;have aS:P.aI (AJ n) (AB (AJ n)) (BX l)=X:=hX;rw[hX];rw[aS]at aH;have aX:AJ n=B9 2 n:=rfl;rw[<-aX]at aQ;generalize hnme:AJ n=nm at aQ aH;generalize hs0:AB nm=s0 at aQ aH;obtain⟨pa,E,rfl,hcap1,aG⟩:=hp.BU;unfold maxLen at aG;have bM:=A1 hp;have aZ:=A1 L
 go_enter func151,ntmps151
 go_wp2_with (fail);refine aQ.o.mono ?_;rintro e w1⟨d,rfl,aA,aJ,bC⟩;have aY:=A1 aA;have HC1:=A1 aJ;have aV:=A1 bC;have f4:=aA.fz 4;have g4:=aA.c4;have a8:=A1 (aA.s4 (.slice pa l.length E));have a1:Hid (A2 A7 w (w1.setCell (A8 d 4) (.slice pa l.length E))):=aJ.a1 (p:=(A8 d 4)) (λh=>by have h':d<w.heap.size:=h;omega) _;have HG1:=A1 aY.o.lt;obtain⟨I,aI⟩:∃I,w1.setCell (A8 d 4) (.slice pa l.length E)=I:=⟨_,rfl⟩;have hw2s:w1.heap.size=I.heap.size:=by rw[<-aI];simp
 rw[aI]at a8 a1;have Z:Hid (d<I.heap.size):=a8.o.lt;have bD:=A1 (MU I);have bK:=A1 (a8.o.Ap ((A2.C A7 I).ae (.cells #[.pointer none,.slice none 0 0] 260)) (λh=>h));have bI:Hid (A2 A7 w (I.alloc (.cells #[.pointer none,.slice none 0 0] 260))):=a1.o.ae _;have aE:Hid (w.heap.size<=I.heap.size):=a1.o.Af;go_wp2;generalize a7:I.alloc (.cells #[.pointer none,.slice none 0 0] 260)=w3 at bD bK bI ⊢;have aK:Hid (I.heap.size<=w3.heap.size):=by rw[<-a7];show I.heap.size<=_;simp
 generalize I.heap.size=bb at bD Z aE aK ⊢;go_loopw [22] (λiv wr=>∃k:Nat,iv=A0 k/\k<=l.length/\Hid (Eu bb bb (BX (l.take k)) wr/\Bh wr d 182 b nm s0 n (.slice pa l.length E)/\A2 A7 w wr/\bb<=wr.heap.size)) (λiv _=>l.length-(intOf iv).toNat)
 case atStart=>exact⟨0,rfl,by omega,by simpa[BX] using bD.o,bK.o,bI.o,aK.o⟩
 case round=>
  obtain⟨k,rfl,hk,hI⟩:=hrel;by_cases W:k<l.length
  ·obtain⟨i1,i2,i3,i4⟩:=hI.o;obtain⟨g,o,rfl,-,c1,c2,c3⟩:=F8.at bM.o k W;have H:=a6 _ (Cx W);have aN:l.take (k+1)=l.take k++[l[k]'W]:=D9 W;generalize hxe:(l[k]'W)=x at c1 c2 c3 H aN;obtain⟨x1,x2,x3⟩:=x;dsimp only at c1 c2 c3;have d1:=i3.af c1;have d2:=i3.af c2;have d3:=i3.af c3;obtain⟨⟨aM,aT⟩,ht,hv⟩:=H;dsimp only at aM aT ht hv;have bH:=A1 (λy=>Lu y x1 x2 x3 ⟨aM,by omega⟩ ht hv);(have aB:Hid (BX (l.take (k+1))=BX (l.take k)++AW x1 x2 x3):=by unfold Hid;rw[aN,PB];simp[BX]);(have aU:(BX (l.take k)).length<=17*l.length:=by rw[Jg,Dg];omega);generalize hpk:BX (l.take k)=pk at i1 aB aU;have aR:=Jj x1 x2 x3;generalize hpbe:AW x1 x2 x3=pb at bH aB aR;have a2:=A1 i1;have aF:=A1 i2;have a9:=A1 i3;have aP:=A1 i4;have bL:Hid (∀w6,A2 A7 wr w6->_):=λw6 h6=>IV (t:=pb) w6 (a2.o.Ap h6 (λ_ h=>h.elim)) (by omega) (Az aP.o h6.Af);(have a0:(k:Int)<(l.length:Int):=by omega);have hk0:(0:Int)<=(k:Int):=EU _;go_wp2_with (fail);refine(bH.o _).mono ?_;rintro e w6⟨rfl,a4⟩;have aO:Hid (A2 A7 wr w6):=((A2.C A7 wr).ae _).As a4 λ_ h _=>h;have a3:=A1 (bL.o w6 aO.o);go_wp2_with (go_at_call 194;refine a3.o.mono ?_;rintro e w7⟨rfl,bA,bB⟩;have aW:=A1 bA;have aL:=A1 bB);go_roundw
   case rel=>
    have c7:A2 (λk=>bb<=k) w6 w7:=A2.bA aL.o;refine⟨k+1,by go_num,by omega,by rw[aB.o];exact aW.o,(aF.o.Ap aO.o (λh=>h)).Ap c7 (λh=>by have:=Z.o;omega),?_,?_⟩
    ·exact(a9.o.As aO.o λ_ h _=>h).As c7 λx H L=>by have:=aE.o;omega
    ·exact Az aP.o (Az aO.o.Af aL.o.size)
   case measure=>simp[intOf];omega
  ·obtain⟨i1,i2,i3,i4⟩:=hI.o;(obtain rfl:k=l.length:=by omega);rw[CP]at i1;have a2:=A1 i1;have aF:=A1 i2;have a9:=A1 i3;have aP:=A1 i4;have bG:=A1 (Sv wr.drew (a2.o.Ap ((A2.C A7 _).I) (λ_ h=>h.elim)) aP.o);(have a0:¬((l.length:Int)<(l.length:Int)):=by omega);have U:Hid (∀y,Below bb wr.drew y->(A5 y d 0 (A4 b)/\A5 y d 1 (.string ⟨nm.toArray⟩)/\A5 y d 2 (.int .u32 s0))/\A2 A7 w y):=λy H=>by
    have cx:A2 (λk=>bb<=k) wr.drew y:=A2.bA H;have fx:=aF.o.I.Ap cx (λh=>by have:=Z.o;omega);exact⟨⟨fx.c0,fx.c1,fx.c2⟩,a9.o.I.As cx λx H L=>by have:=aE.o;omega⟩
   have e0:=aF.o.I.c0;have e1:=aF.o.I.c1;have e2:=aF.o.I.c2;obtain⟨bE,bF⟩:=X;dsimp only at aH;have bJ:Hid (∀y,Below bb wr.drew y->∀wy,Al y Ft wy (λw' J=>B4 w' b bF J)->(A5 wy d 0 (A4 b)/\A5 wy d 1 (.string ⟨nm.toArray⟩)/\A5 wy d 2 (.int .u32 s0))/\Al w Ft wy (λw' J=>B4 w' b bF J)):=λy H wy hy=>by
    have cx:A2 (λk=>bb<=k) wr.drew y:=A2.bA H;have fx:=(aF.o.I.Ap cx (λh=>by have:=Z.o;omega)).Ap hy.1 (λh=>by have:=aZ.o _ h;have:=aV.o;omega);exact⟨⟨fx.c0,fx.c1,fx.c2⟩,hy.aN (U.o y H).2⟩
   by_cases H:bE=0
   case neg=>
    (have hxb:(bE !=0)=true:=by simpa using H);go_wp2;refine BH (λw'=>A5 w' d 0 (A4 b)/\A5 w' d 1 (.string ⟨nm.toArray⟩)/\A5 w' d 2 (.int .u32 s0)) 6
     (Bj [0,1,2,3,4,5] [4,5]) ⟨e0,e1,e2⟩ ?_
    iterate 4 (refine B5 ?_;(try simp only[An]))
    refine B7 λK hK=>?_;go_simp;refine bG.o.mono ?_;rintro e Y⟨rfl,z⟩;refine hK _ _ (U.o Y z).1 (λhS=>?_);have aD:=A1 (aH.o Y (U.o Y z).2);have O:=A1 (bJ.o Y z)
    (try simp only[An])
    refine B7 λK hK=>?_;go_simp;refine aD.o.mono ?_;rintro e V⟨rfl,hI⟩;refine hK _ _ (O.o V hI).1 (λhS=>?_);have a5:=A1 (O.o V hI).2
    (try simp only[An])
    refine Bd ?_;simp only[BD,BC];go_wp2;go_ret2;exact⟨rfl,a5.o⟩
   case pos=>
    subst H;go_wp2;refine BH (λw'=>A5 w' d 0 (A4 b)/\A5 w' d 1 (.string ⟨nm.toArray⟩)/\A5 w' d 2 (.int .u32 s0)) 6
     (Bj [0,1,2,3,4,5] [4,5]) ⟨e0,e1,e2⟩ ?_
    iterate 4 (refine B5 ?_;(try simp only[An]))
    refine B7 λK hK=>?_;go_simp;refine bG.o.mono ?_;rintro e Y⟨rfl,z⟩;refine hK _ _ (U.o Y z).1 (λhS=>?_);have aD:=A1 (aH.o Y (U.o Y z).2);have O:=A1 (bJ.o Y z)
    (try simp only[An])
    refine B7 λK hK=>?_;go_simp;refine aD.o.mono ?_;rintro e V⟨rfl,hI⟩;refine hK _ _ (O.o V hI).1 (λhS=>?_);have a5:=A1 (O.o V hI).2
    (try simp only[An])
    refine Bd ?_;simp only[BD,BC];go_wp2;go_ret2;exact⟨⟨_,rfl⟩,a5.o⟩
end
def Lk{P:PD}{a c m:Nat}(h:Fit P a c m)(nm:Bs):(P.aO nm).1.length<=m:=by
 have h1:=Ho h nm;unfold PD.aO;split
 ·simp
 ·split
  ·rename_i d y;unfold Fj at y;split at y
   ·cases y
   ·split at y
    ·cases y;simp only[Dg];omega
    ·cases y
  ·simp
def Mo:∀(k:Nat) (l:Bs),(EO k l).length*8<=l.length
 | 0,l=>by simp[EO]
 | k+1,l=>by
  unfold EO;split
  ·simp
  ·have:=Mo k (l.drop 8);simp only[Cr,CS]at this ⊢;omega
def A2.bq{S:Nat->Prop}{w w':World}(h:A2 S w w'){p:Addr}{v:Value}(d:w.cell? p=some v)(z:¬S p.block):w'.cell? p=some v:=by
 have y:=Gb w _ d;have:=h.Ao p.block y z;unfold World.cell? at d ⊢;rw[this];exact d
def C4.dv{w:World}{g o n cap:Nat}{l:List Int}(h:C4 w (.slice (some (A8 g o)) n cap) l)(U:0<l.length)(a':Option Addr)(V:1<l.length->a'=some (A8 g (o+1)))(I:∀x,a'=some x->x.block=g):C4 w (.slice a' (n-1) (cap-1)) l.tail:=by
 obtain⟨h1,a,c,e,h2,h3,J,L⟩:=h;cases e;have E:l.tail.length=l.length-1:=List.length_tail;refine⟨by rw[Mp];omega,a',cap-1,by rw[E],by omega,by omega,λx z=>?_,λj u W=>?_⟩
 ·unfold Value.ownBlock at z;cases a' with
  | none=>simp at z
  | some y=>
   simp only at z;have:=I y rfl;cases z;rw[this];exact J g rfl
 ·have d:(CI l)[j+1]?=some u:=by
   cases l with
   | nil=>simp at U
   | cons x r=>simpa[CI] using W
  obtain⟨g',o',e,O⟩:=L _ _ d;cases e;have H:j+1<(CI l).length:=(Tl.1 d).1;rw[Mp]at H;exact⟨g,o+1,V (by omega),by rw[show o+1+j=o+(j+1) by omega];exact O⟩
section
variable {w:World} {b B:Nat} {P:PD} {Ft:Nat->Prop} {a c m:Nat} {n:Int}
def Pz(w:World)(h:B4 w b P Ft)(aF:∀k,Ft k->k<w.heap.size)(hF:Fit P a c m)(hl:BL a c m)(hL:Lets B w):
 Ac 96 #[A4 b] w λe w'=>
  (P.aT=none/\e=.returned (.tuple #[.pointer none,A0 7])/\A2 A7 w w')\/
  ∃ix xb v,P.aT=some ix/\e=.returned (.tuple #[A4 xb,A0 0])/\Bh w' xb 162 b AF (AB AF) ix.BR v/\C4 w' v ix.A6/\(∀g,v.ownBlock=some g->xb<g)/\w.heap.size<=xb/\A2 A7 w w':=by
 have a5:=A1 (JL w b 3 (by omega) (Fo (n:=0) (by omega) (by omega)) hL);have aW:Hid (∀w1,A2 A7 w w1->_):=λw1 hc=>Lq AF (AP.au h aF hc) (λk hk=>Bc (aF k hk) hc.Af) hF hl;have aA:(P.aO AF).1.length<=4294967296:=Az (Lk hF AF) hl.m;obtain⟨X,hX⟩:∃X,P.aT=X:=⟨_,rfl⟩;have a7:Hid (indexOf (P.aO AF)=X):=hX;rw[hX];have bC:B9 3 0=AF:=rfl;rw[show ((3:Nat):Int)=3 from rfl,bC]at a5;generalize hnme:AF=nm at a5 aW a7 aA ⊢;generalize hs0:AB nm=s0 at a5 aW ⊢;obtain⟨⟨J,de⟩,bL⟩:∃x,P.aO nm=x:=⟨_,rfl⟩;rw[bL]at aW a7 aA;dsimp only at aW aA
 go_enter func96,ntmps96
 go_wp2_with (fail);refine a5.m ?_;rintro e w1⟨rfl,a2⟩;have aB:Bh (w1.aC #[A4 b,.string ⟨nm.toArray⟩,.int .u32 s0,A0 1,.slice none 0 0] 162) w1.heap.size 162 b nm s0 1 (.slice none 0 0):=Bw w1 _;have bR:Hid (A2 A7 w (w1.aC #[A4 b,.string ⟨nm.toArray⟩,.int .u32 s0,A0 1,.slice none 0 0] 162)):=a2.ae _;have aL:Hid (w.heap.size<=w1.heap.size):=a2.Af;have bH:=A1 (aW.o _ bR.o);have bD:=A1 aB;have g0:=aB.c0;have g1:=aB.c1;have g2:=aB.c2;go_wp2_with (fail);refine bH.m ?_;rintro e w2⟨rfl,aP⟩;have aK:=A1 (bD.o.Ap aP (λh=>h));have aQ:Hid (A2 A7 w w2):=bR.o.tr aP;have aE:Hid (w1.heap.size<w2.heap.size):=aK.o.lt;generalize w1.heap.size=xb at *;by_cases h8:de=8
 case pos=>
  subst h8;have z:Hid (X=some ⟨1,[]⟩):=by unfold Hid;rw[<-a7.o];unfold indexOf;rw[Am rfl]
  go_wp2;go_ret2;exact .inr ⟨⟨1,[]⟩,xb,_,z.o,rfl,aK.o,Cq.bx,λg V=>by simp[Value.ownBlock]at V,aL.o,aQ.o⟩
 case neg=>
 have h8b:(de==8)=false:=by simpa using h8
 have aO:=A1 (R9 w2 J aA);have aV:Hid ((Dw J).length*8<=J.length):=Mo _ _
 have aI:Hid ((if de≠0\/Dw J=[]\/J.length≠(Dw J).length*8 then none else
  if (Dw J).all isNum=false then none else
  if BQ Bo (Dw J).tail then some ⟨(Dw J).headD 0,(Dw J).tail⟩ else none)=X):=by
  rw[<-a7.o];unfold indexOf;rw[Ad h8];rfl
 generalize hns:Dw J=ns at aO aV aI;go_wp2_with (fail);refine aO.m ?_;rintro e w3⟨v,rfl,hv,bN,aG⟩;have Z:=A1 (aK.o.Ap aG (λh=>h));have W:Hid (A2 A7 w w3):=aQ.o.tr aG;obtain⟨ap,cp,rfl,hcap1,aM,a9,-⟩:=AR hv;unfold maxLen at aM;have bQ:=A1 hv;have bE:Hid (∀g,(Value.slice ap ns.length cp).ownBlock=some g->w2.heap.size<=g):=bN;have HW3:=A1 aG.Af;by_cases E:de≠0\/ns=[]\/J.length≠ns.length*8
 case pos=>
  have z:Hid (X=none):=by unfold Hid;rw[<-aI.o,Am E]
  by_cases O:de=0
  ·subst O;by_cases Y:ns=[]
   ·subst Y;go_wp2;go_ret2;exact .inl ⟨z.o,rfl,W.o⟩
   ·have a8:((ns.length:Int)==0)=false:=by
     have:ns.length≠0:=λe=>Y (Fy.1 e);simp;omega
    have hd:((J.length:Int)!=wrap64 ((ns.length:Int)*8))=true:=by
     (have:J.length≠ns.length*8:=by rcases E with h|h|h;exact absurd rfl h;exact absurd h Y;exact h);have:=aV.o;(have ew:wrap64 ((ns.length:Int)*8)=(ns.length:Int)*8:=by unfold wrap64;omega);rw[ew];simp;omega
    go_wp2;go_ret2;exact .inl ⟨z.o,rfl,W.o⟩
  ·(have hb:(de !=0)=true:=by simpa using O);go_wp2;go_ret2;exact .inl ⟨z.o,rfl,W.o⟩
 case neg=>
  have hz:de=0/\ns≠[]/\J.length=ns.length*8:=⟨TD λh=>E (.inl h),λh=>E (.inr (.inl h)),TD λh=>E (.inr (.inr h))⟩;obtain⟨rfl,Y,hd0⟩:=hz;have aU:Hid ((if ns.all isNum=false then none else if BQ Bo ns.tail then some ⟨ns.headD 0,ns.tail⟩ else none)=X):=by rw[<-aI.o,Ad E];rfl
  have H:0<ns.length:=Nw.2 Y;have a8:((ns.length:Int)==0)=false:=by simp;omega
  have hd:((J.length:Int)!=wrap64 ((ns.length:Int)*8))=false:=by
   (have ew:wrap64 ((ns.length:Int)*8)=(ns.length:Int)*8:=by unfold wrap64;omega);rw[ew];simp;omega
  obtain⟨g,rfl⟩:=a9 H;have bJ:Hid (ns.length<=1099511627776):=by unfold Hid;omega
  go_wp2;go_loopw [44] (λiv wr=>∃k:Nat,iv=A0 k/\k<=ns.length/\wr=w3/\Hid ((ns.take k).all isNum=true)) (λiv _=>ns.length-(intOf iv).toNat)
  case atStart=>exact⟨0,rfl,by omega,rfl,by unfold Hid;rfl⟩
  case round=>
   obtain⟨k,rfl,hk,rfl,hI⟩:=hrel;by_cases L:k<ns.length
   ·have d:A5 wr g k (A0 (ns[k]'L)):=Be bQ.o rfl (JB ns k L);have aZ:ns.take (k+1)=ns.take k++[ns[k]'L]:=D9 L;have aD:(ns[k]'L)∈ns:=Cx L;generalize I:(ns[k]'L)=x at d aZ aD;have a6:=A1 (Ml wr x);(have bF:(k:Int)<(ns.length:Int):=by omega);have hk0:=C3 k;have bB:=A1 aZ;have aT:=A1 aD;by_cases hn:isNum x=true
    ·(have bK:Hid ((ns.take (k+1)).all isNum=true):=by unfold Hid;rw[bB.o,List.all_append,hI.o];simp[hn]);rw[hn]at a6;go_wp2_with (go_at_call 128;refine a6.m ?_;rintro e w4⟨rfl,rfl⟩);go_roundw
     case rel=>exact⟨k+1,by go_num,by omega,trivial,bK.o⟩
     case measure=>simp[intOf];omega
    ·(have bG:isNum x=false:=by simpa using hn);have z:Hid (X=none):=by
      unfold Hid;rw[<-aU.o,Am];have:¬ns.all isNum=true:=λh=>hn (Kl.1 h x aT.o);simpa using this
     rw[bG]at a6;go_wp2_with (go_at_call 128;refine a6.m ?_;rintro e w4⟨rfl,rfl⟩);go_ret2;exact .inl ⟨z.o,rfl,W.o⟩
   ·(obtain rfl:k=ns.length:=by omega);(have aS:ns.all isNum=true:=by have:=hI.o;rwa [CP]at this);(have aH:Hid ((if BQ Bo ns.tail then some (Ix.mk (ns.headD 0) ns.tail) else none)=X):=by have:=aU.o;rwa [Ad (by simp[aS])]at this);have d:A5 wr.drew g 0 (A0 (ns.headD 0)):=by
     have O:=JB ns 0 H;have:(ns[0]'H)=ns.headD 0:=by cases ns with
      | nil=>simp at H
      | cons x r=>rfl
     rw[this]at O;exact Be bQ.o rfl O
    (have bF:¬((ns.length:Int)<(ns.length:Int)):=by omega);have f3:=Z.o.I.fz 3;have f4:=Z.o.I.fz 4;have g3:=Z.o.I.c3;have g4:=Z.o.I.c4;generalize hh0:ns.headD 0=O at d aH;(have hn1:(1:Int)<=(ns.length:Int):=by omega);obtain⟨a',aN⟩:∃a':Option Addr,(if cp=1 then some ((A8 g 0):Addr) else some (A8 g 1))=a':=⟨_,rfl⟩;have bT:=A1 (C4.dv (Cs.rd bQ.o) H a' (λh=>by rw[<-aN,Ad (by omega)]) (λx I=>by rw[<-aN]at I;split at I<;>cases I<;>rfl));(have bP:∀x,a'=some x->x.block=g:=λx I=>by rw[<-aN]at I;split at I<;>cases I<;>rfl);have bA:∀g',(Value.slice a' (ns.length-1) (cp-1)).ownBlock=some g'->g'=g:=λg' V=>by
     unfold Value.ownBlock at V;cases I:a' with
     | none=>rw[I]at V;simp at V
     | some y=>rw[I]at V;have:=bP y I;simp at V;omega
    have aR:=A1 bA;have aJ:Hid (w2.heap.size<=g):=bE.o g rfl;have bO:Bh (wr.setCell (A8 xb 3) (A0 O)).drew xb 162 b nm s0 O (.slice none 0 0):=(Z.o.s3 O).I;have k9:A2 (One xb) wr (wr.setCell (A8 xb 3) (A0 O)).drew:=((A2.C (One xb) wr).ak (b:=xb) rfl 3 _).I;have U:(wr.setCell (A8 xb 3) (A0 O)).drew.cell? (A8 g 0)=some (A0 O):=k9.bq d (λh=>by have h':g=xb:=h;have:=aJ.o;have:=aE.o;omega);have a4:=A1 bO;have bS:=A1 k9;go_wp2;refine BH (λw'=>A5 w' g 0 (A0 O)) 10
     (Bj [0,1,2,3,4,5,6,7,8,9] [9]) d ?_
    iterate 9 (refine B5 ?_;(try simp only[An]))
    refine B7 λK hK=>?_;go_simp;refine hK _ _ U (λhS=>?_)
    (try simp only[An])
    refine Bd ?_;simp only[BD,BC];generalize (wr.setCell (A8 xb 3) (A0 O)).drew=w9 at a4 bS U ⊢;have f94:=a4.o.fz 4;have g94:=a4.o.c4;have a0:=A1 (a4.o.s4 (.slice a' (ns.length-1) (cp-1)));have c104:=a0.o.c4;have aY:A2 (One xb) wr (w9.setCell (A8 xb 4) (.slice a' (ns.length-1) (cp-1))):=bS.o.ak rfl 4 _;(have aX:Hid (A2 A7 w (w9.setCell (A8 xb 4) (.slice a' (ns.length-1) (cp-1)))):=W.o.As aY λx I aF=>by have bI:x=xb:=I;have:=aL.o;omega);have a1:Hid (C4 (w9.setCell (A8 xb 4) (.slice a' (ns.length-1) (cp-1))) (.slice a' (ns.length-1) (cp-1)) ns.tail):=Cq.Aj bT.o aY λg' V I=>by
     have bI:g'=xb:=I;have:=aR.o g' V;have:=aJ.o;have:=aE.o;omega
    have a3:=A1 (P8 _ _ _ a1.o (by rw[List.length_tail];have:=bJ.o;omega));by_cases hr:BQ Bo ns.tail=true
    ·rw[hr]at a3;(have z:Hid (X=some ⟨O,ns.tail⟩):=by unfold Hid;rw[<-aH.o,Am hr]);go_wp2_with (go_at_call 129;refine a3.m ?_;rintro e w5⟨rfl,nn,rfl⟩);go_ret2;have kk:=(A2.C A7 (w9.setCell (A8 xb 4) (.slice a' (ns.length-1) (cp-1)))).aU nn;exact .inr ⟨_,xb,_,z.o,rfl,a0.o.Ap kk (λh=>h),Cq.Aj a1.o kk (λ_ _ h=>h),λg' V=>by have:=aR.o g' V;have:=aJ.o;have:=aE.o;omega,aL.o,aX.o.tr kk⟩
    ·(have bM:BQ Bo ns.tail=false:=by simpa using hr);rw[bM]at a3;(have z:Hid (X=none):=by unfold Hid;rw[<-aH.o,Ad hr]);go_wp2_with (go_at_call 129;refine a3.m ?_;rintro e w5⟨rfl,nn,rfl⟩);go_ret2;exact .inl ⟨z.o,rfl,aX.o.aU nn⟩
end
def Su{B b:Nat}{l:List UInt8}(w:World)(h:Eu B b l w)(d:B<=w.heap.size):
 Calls Tryz.prog 197 #[.pointer (some ⟨b,0,none⟩)] w λe w'=>e=.returned (.string ⟨l.toArray⟩)/\Below B w w'/\∀k o,w.heap[k]?=some o->k≠b->(∀c fz,o≠.cells c 5 fz)->w'.heap[k]?=some o:=by
 refine(Any.Builder_String_any_k Tryz.lays169 Tryz.Builder_Extra_169 B b l w (h.imp Lib.BuilderAtF.of Lib.BuilderAtF.of) d).mono ?_;rintro e w'⟨H,_,y,J⟩;exact⟨H,y,λk o E z I=>J k o E (λe=>z (by simpa using e)) I⟩
def AK.s1{w:World}{d:Nat}{T:TypeId}{p:Value}{name:ByteArray}{s:Nat}(h:AK w d T p name s)(nm:ByteArray):AK (w.setCell (A8 d 1) (.string nm)) d T p nm s:=Ca h
def A2.dy{Ft:Nat->Prop}{x:Nat}{w d y:World}(h:A2 Ft w d)(k:A2 (One x) d y):A2 (λk=>Ft k\/k=x) w y:=
 (h.U λ_ _ h=>.inl h).As k λ_ h _=>.inr h
def AK.I{w:World}{d:Nat}{T:TypeId}{p:Value}{name:ByteArray}{s:Nat}(h:AK w d T p name s):AK w.drew d T p name s:=by unfold AK at h ⊢;exact h
section
variable {w:World} {b B xb:Nat} {P:PD} {Ft:Nat->Prop} {a c m:Nat} {n:Int}
def Pc(h:B4 w b P Ft)(d nm:ByteArray)(E:Fit P a c m)(z:BL a c m):
 Ac 242 #[A4 b,.string d,.string nm] w (Ak (A0 (P.aV d nm).1) λw'=>Al w Ft w' (λw' y=>B4 w' b (P.aV d nm).2 y)):=
 Pb h d nm (by have:=E.A3;have:=E.Aj;have:=z.a;have:=z.c;omega)
def JI(d:Int)(A6:List Int):(Db d A6).length=8+8*A6.length:=by
 unfold Db;rw[B2,CO]
 congr 1
 induction A6 with
 | nil=>rfl
 | cons x r ih=>simp only[Kj,B2,ih,CO,Cr];omega
def Fit.aI{P:PD}{a c m:Nat}(h:Fit P a c m)(nm:Bs)(s:Nat)(l:Bs):Fit (P.aI nm s l).2 (a+1) (c+1) (m+l.length+4):=by
 have y:=h.al (Aa nm);have z:(Ba s l).length=l.length+4:=by simp[Ba,EY]
 have d:=y.aw (Aa nm) (Ba s l);rw[z]at d;unfold PD.aI;split
 ·exact y.U (Aw _) (Aw _) (by omega)
 ·split
  ·exact d.U (Aw _) (Aw _) (by omega)
  ·exact(d.az (Aa nm)).U (Aw _) (Aw _) (by omega)
def Fit.cD{P:PD}{a c m:Nat}(h:Fit P a c m)(d:Int)(A6:List Int):Fit (P.ag d A6).2 (a+2) (c+2) (m+12+8*A6.length):=by
 have y:=h.aI Cu (AB AF) (Db d A6);rw[JI]at y;unfold PD.ag;split
 ·exact y.U (by omega) (by omega) (by omega)
 ·exact(y.aV (Aa Cu) (Aa AF)).U (by omega) (by omega) (by omega)
def Od(w:World)(d f0:Int)(sv v0:Value)(A6:List Int)(hX:Bh w xb 162 b AF (AB AF) f0 v0)(h:B4 w b P Ft)(H:∀k,Ft k->k<w.heap.size)(hn:¬Ft xb)(hF:Fit P a c m)(hl:BL (a+2) (c+2) (m+12+8*A6.length))(hL:Lets B w)(hs:C4 w sv A6)(hf:AE d)(bK:∀x∈A6,AE x)(hsl:A6.length<=134217728):
 Ac 200 #[A4 xb,A0 d,sv] w λe w'=>
  e=.returned (A0 (P.ag d A6).1)/\Bh w' xb 162 b AF (AB AF) (if (P.ag d A6).1=0 then d else f0) (if (P.ag d A6).1=0 then sv else v0)/\Gl w Ft xb w' b (P.ag d A6).2:=by
 have aD:=hX.lt;have bD:B9 4 0=Cu:=rfl;have b5:Hid (∀O,A2 A7 w O->Ac 134 #[A0 4,A0 0] O (Ak (.string ⟨Cu.toArray⟩) λw'=>A2 A7 O w')):=λO hc=>by
  have:=I5 (n:=0) O 4 (by omega) (by omega) (by decide +kernel) (hL.ao hc);rw[show ((4:Nat):Int)=4 from rfl,bD]at this;exact this
 have hi:=JI d A6;have bF:BL (a+1) (c+1) m:=⟨by have:=hl.a;omega,by have:=hl.c;omega,by have:=hl.m;omega⟩;have aN:Hid (∀O,A2 A7 w O->_):=λO hc=>Kv Cu (Db d A6) (Gr AF) (AP.au h H hc) (λk hk=>Bc (H k hk) hc.Af) (by rw[hi];omega) hF bF;have aU:Hid (∀O I,B4 O b (P.aI Cu (AB AF) (Db d A6)).2 I->_):=λO I h1=>Pc h1 (Aa Cu) (Aa AF) (hF.aI _ _ _) ⟨by have:=hl.a;omega,by have:=hl.c;omega,by rw[hi];have:=hl.m;omega⟩;have aM:Hid (P.ag d A6=if (P.aI Cu (AB AF) (Db d A6)).1≠0 then P.aI Cu (AB AF) (Db d A6) else (P.aI Cu (AB AF) (Db d A6)).2.aV (Aa Cu) (Aa AF)):=rfl;obtain⟨R,hR⟩:∃R,P.ag d A6=R:=⟨_,rfl⟩;rw[hR]at aM ⊢;have cQ:Hid (∀wx x,AE x->_):=λwx x E=>Hj wx x E;have aA:Db d A6=AG d++A6.flatMap AG:=rfl;obtain⟨V,bA⟩:∃V,Cu=V:=⟨_,rfl⟩;obtain⟨nm,aX⟩:∃nm,AF=nm:=⟨_,rfl⟩;rw[aX]at hX aN aU aM ⊢;rw[bA]at b5 aN aU aM;obtain⟨s0,bL⟩:∃s0,AB nm=s0:=⟨_,rfl⟩;rw[bL]at hX aN aU aM ⊢;obtain⟨W,hW⟩:∃W,P.aI V s0 (Db d A6)=W:=⟨_,rfl⟩;rw[hW]at aN aU aM;obtain⟨Q,hQ⟩:∃Q,W.2.aV (Aa V) (Aa nm)=Q:=⟨_,rfl⟩;rw[hQ]at aU aM;obtain⟨il,b0⟩:∃il,Db d A6=il:=⟨_,rfl⟩;rw[b0]at aN aA hi;have bJ:=A1 aA;have dF:=A1 hi;obtain⟨pa,Y,rfl,hcap1,a5⟩:=hs.BU;unfold maxLen at a5;have dE:=A1 hs;have bH:=A1 H;have cD:=A1 hn;have cV:=A1 hX;have HFI:=A1 hf;have cF:=A1 bK;have a9:=A1 aD;have cY:=A1 (MU w);have cU:Hid (A2 A7 w (w.aC #[.pointer none,.slice none 0 0] 260)):=(A2.C _ w).ae _;have bT:=A1 (cQ.o (w.aC #[.pointer none,.slice none 0 0] 260) d hf);clear hR bD aA aX bA bL hW hQ b0 hi bF h H hn hF hl hL hs hX hf bK aD
 go_enter func200,ntmps200
 go_wp2_with (fail);refine bT.m ?_;rintro e O⟨rfl,aT⟩;have bC:Hid (Eu w.heap.size w.heap.size [] O):=cY.o.Ap aT (λ_ h=>h.elim);have cC:Hid (A2 A7 w O):=cU.o.tr aT;have cO:Hid (w.heap.size<O.heap.size):=Bc (by simp) aT.Af;have bE:=A1 (IV (t:=AG d) O bC.o (by rw[CO];simp) cC.o.Af);clear aT bT cY cU;go_wp2_with (fail);refine bE.m ?_;rintro e w2⟨rfl,aI,aZ⟩;have bQ:Hid (Eu w.heap.size w.heap.size (AG d) w2):=aI;have dG:Hid (A2 A7 w w2):=cC.o.As (A2.bA aZ) λx E H=>by omega
 have cX:Hid (w.heap.size<w2.heap.size):=Bc cO.o aZ.size;clear aI aZ bE bC cC cO;go_wp2;obtain⟨bb,aY⟩:∃bb,w.heap.size=bb:=⟨_,rfl⟩;rw[aY]at bQ cX ⊢;have bW:=A1 aY;clear aY;go_loopw [18] (λiv wr=>∃k:Nat,iv=A0 k/\k<=A6.length/\Hid (Eu bb bb (AG d++(A6.take k).flatMap AG) wr/\A2 A7 w wr/\bb<wr.heap.size)) (λiv _=>A6.length-(intOf iv).toNat)
 case atStart=>exact⟨0,rfl,by omega,by simpa using bQ.o,dG.o,cX.o⟩
 case round=>
  obtain⟨k,rfl,hk,U⟩:=hrel;by_cases aJ:k<A6.length
  ·obtain⟨i1,i2,i3⟩:=U.o;obtain⟨g,o,rfl,c1⟩:=C4.at dE.o k aJ;have E:=cF.o _ (Cx aJ);have a1:A6.take (k+1)=A6.take k++[A6[k]'aJ]:=D9 aJ;obtain⟨x,bI⟩:∃x,(A6[k]'aJ)=x:=⟨_,rfl⟩;rw[bI]at c1 E a1;have d1:=i2.af c1;have a3:=A1 (cQ.o wr x E);(have a8:Hid ((A6.take (k+1)).flatMap AG=(A6.take k).flatMap AG++AG x):=by unfold Hid;rw[a1];simp);have bB:(AG d++(A6.take k).flatMap AG).length<=8+8*A6.length:=by
    have:=JI d (A6.take k);unfold Db at this;rw[this,Dg];omega
   obtain⟨pk,a4⟩:∃pk,AG d++(A6.take k).flatMap AG=pk:=⟨_,rfl⟩;(have aW:Hid (AG d++(A6.take (k+1)).flatMap AG=pk++AG x):=by unfold Hid;rw[a8.o,<-CQ,a4]);rw[a4]at i1 bB;have aD:=CO x;obtain⟨ib,aA⟩:∃ib,AG x=ib:=⟨_,rfl⟩;rw[aA]at a3 aW aD;have b9:=A1 i1;have bX:=A1 i2;have bP:=A1 i3;have cL:Hid (∀w6,A2 A7 wr w6->_):=λw6 h6=>IV (t:=ib) w6 (b9.o.Ap h6 (λ_ h=>h.elim)) (by omega) (Az (FQ bP.o) h6.Af);(have b8:(k:Int)<(A6.length:Int):=by omega);have hk0:=C3 k;clear i1 i2 i3 U c1 bI a1 a4 aA E bB aD a8;go_wp2_with (fail);refine a3.m ?_;rintro e w6⟨rfl,a0⟩;have cP:=A1 a0;have cA:=A1 (cL.o w6 a0);clear a0 a3 cL;go_wp2_with (go_at_call 194;refine cA.m ?_;rintro e w7⟨rfl,aI,b1⟩;have b7:=A1 aI;have bR:=A1 b1;clear aI b1);go_roundw
   case rel=>
    have c7:A2 (λk=>bb<=k) w6 w7:=A2.bA bR.o;refine⟨k+1,by go_num,by omega,by rw[aW.o];exact b7.o,?_,?_⟩
    ·exact(bX.o.tr cP.o).As c7 λx E H=>by have:=bW.o;omega
    ·exact Bc bP.o (Az cP.o.Af bR.o.size)
   case measure=>simp[intOf];omega
  ·obtain⟨i1,i2,i3⟩:=U.o;(obtain rfl:k=A6.length:=by omega);rw[CP,<-bJ.o]at i1;(have b8:¬((A6.length:Int)<(A6.length:Int)):=by omega);have fx:=cV.o.Ap i2 (λh=>h);have g0:=fx.c0;have g1:=fx.c1;have g2:=fx.c2;have bU:AK (wr.aC #[A4 b,.string (Aa nm),.int .u32 s0] 160) wr.heap.size 160 (A4 b) (Aa nm) s0:=Bw wr _;have ka:A2 A7 wr (wr.aC #[A4 b,.string (Aa nm),.int .u32 s0] 160):=(A2.C _ wr).ae _;have bM:=A1 (b5.o _ (i2.tr ka));have cT:=A1 ka;have cN:=A1 bU;have b9:=A1 i1;have bX:=A1 i2;have bP:=A1 i3;have FX:=A1 fx;clear i1 i2 i3 ka bU b5 U fx;go_wp2_with (fail);refine bM.m ?_;rintro e w5⟨rfl,a2⟩;have aS:=cN.o.Ap a2 (λh=>h);have cS:A2 A7 wr w5:=cT.o.tr a2;have b6:=aS.c1;have bY:=aS.fz 1;have aG:=A1 (aS.s1 ⟨V.toArray⟩);have b4:Hid (A2 A7 wr (w5.setCell (A8 wr.heap.size 1) (.string ⟨V.toArray⟩))):=cS.a1 (p:=(A8 wr.heap.size 1)) (λh=>by have h':wr.heap.size<wr.heap.size:=h;omega) _;clear a2 aS cS bM cN cT;generalize bG:wr.heap.size=db at *;have aP:=A1 bG;clear bG;go_wp2;generalize w5.setCell (A8 db 1) (.string ⟨V.toArray⟩)=w6 at aG b4 ⊢;have cI:Hid (Eu bb bb il w6.drew):=b9.o.Ap b4.o.I (λ_ h=>h.elim);have b3:=A1 (Su w6.drew cI.o (by have:=bP.o;have:=aP.o;have:=b4.o.Af;show bb<=w6.heap.size;omega));have aR:Hid (∀wx,Below bb w6.drew wx->(∀k o,w6.drew.heap[k]?=some o->k≠bb->(∀c fz,o≠.cells c 5 fz)->wx.heap[k]?=some o)->AK wx db 160 (A4 b) ⟨V.toArray⟩ s0/\A2 A7 w wx):=λwx E ho=>
    ⟨ho db _ aG.o.I (by have:=bP.o;have:=aP.o;omega) (λc fz e=>by cases e),(bX.o.tr b4.o.I).As (A2.bA E) λx E H=>by have:=bW.o;omega⟩
   have bS:Hid (∀wx,AK wx db 160 (A4 b) ⟨V.toArray⟩ s0->A2 A7 w wx->∀wy,Al wx Ft wy (λw' y=>B4 w' b W.2 y)->AK wy db 160 (A4 b) ⟨V.toArray⟩ s0/\Bh wy xb 162 b nm s0 f0 v0/\Al w Ft wy (λw' y=>B4 w' b W.2 y)):=λwx hf E wy hy=>
    ⟨hf.Ap hy.1 (λh=>by have:=bH.o _ h;have:=bX.o.Af;have:=aP.o;omega),(cV.o.Ap E (λh=>h)).Ap hy.1 cD.o,hy.aN E⟩
   have e0:=aG.o.I.c0;have e1:=aG.o.I.c1;have e2:=aG.o.I.c2;obtain⟨cG,dB⟩:=W;dsimp only at aN aU bS aM;clear b6 bY g0 g1 g2 dF bJ;by_cases hw:cG=0
   case neg=>
    (have a7:R=(cG,dB):=by rw[aM.o,Am hw]);subst a7;(have hwb:(cG !=0)=true:=by simpa using hw);refine BH (λw'=>A5 w' db 0 (A4 b)/\A5 w' db 1 (.string ⟨V.toArray⟩)/\A5 w' db 2 (.int .u32 s0)) 3
     [(0,true),(1,false),(2,false)] ⟨e0,e1,e2⟩ ?_
    (refine B5 ?_;(try simp only[Act.put,Nb,Na,N9,N8,N7]))
    refine B7 λK J=>?_;go_simp;refine b3.m ?_;rintro e w9⟨rfl,aE,aH⟩;obtain⟨z,L⟩:=aR.o w9 aE aH;refine J _ _ ⟨z.c0,z.c1,z.c2⟩ (λhS=>?_);have aF:=A1 (aN.o w9 L);have aL:=A1 (bS.o w9 z L);clear J K hS aE aH z L b3 aR aN bS
    (try simp only[An])
    refine B7 λK J=>?_;go_simp;refine aF.m ?_;rintro e aB⟨rfl,U⟩;obtain⟨z,L,q3⟩:=aL.o aB U;refine J _ _ ⟨z.c0,z.c1,z.c2⟩ (λhS=>?_);have dI:=A1 L;have cZ:=A1 q3;clear J K hS U aF aL z L q3
    (try simp only[An])
    refine Bd ?_;simp only[BD,BC];go_wp2;go_ret;dsimp only
    obtain⟨r1,y,r2,r3,r4⟩:=cZ.o;exact⟨rfl,dI.o,r1.U λ_ _ h=>.inl h,y,r2,r3,r4⟩
   case pos=>
    subst hw;(have a7:R=Q:=by rw[aM.o,Ad (by simp)]);subst a7;clear aM;refine BH (λw'=>A5 w' db 0 (A4 b)/\A5 w' db 1 (.string ⟨V.toArray⟩)/\A5 w' db 2 (.int .u32 s0)) 3
     [(0,true),(1,false),(2,false)] ⟨e0,e1,e2⟩ ?_
    (refine B5 ?_;(try simp only[Act.put,Nb,Na,N9,N8,N7]))
    refine B7 λK J=>?_;go_simp;refine b3.m ?_;rintro e w9⟨rfl,aE,aH⟩;obtain⟨z,L⟩:=aR.o w9 aE aH;refine J _ _ ⟨z.c0,z.c1,z.c2⟩ (λhS=>?_);have aF:=A1 (aN.o w9 L);have aL:=A1 (bS.o w9 z L);have bZ:=A1 z;have b2:=A1 L;clear J K hS aE aH z L b3 aR aN bS
    (try simp only[An])
    refine B7 λK J=>?_;go_simp;refine aF.m ?_;rintro e aB⟨rfl,U⟩;obtain⟨z,L,q3⟩:=aL.o aB U;refine J _ _ ⟨z.c0,z.c1,z.c2⟩ (λhS=>?_);obtain⟨r1,-⟩:=q3;obtain⟨-,I,r2,r3,r5⟩:=U;have dC:=A1 bZ.o.lt;have dH:=A1 b2.o.Af;have cJ:Hid (∀k,I k->Ft k\/w.heap.size<=k):=λk hk=>(r5 k hk).imp id λh=>Az dH.o h
    have cM:=A1 r1;have aK:=A1 (aU.o aB.drew I (AP.au r2 r3 (A2.C _ aB).I));have x0:=L.I.c0;have x1:=L.I.c1;have x2:=z.I.c1;(have cE:Hid (¬I xb):=λh=>by rcases cJ.o _ h with h|h;exact cD.o h;have:=a9.o;omega);have cB:Hid (¬I db):=λh=>by
     rcases r5 _ h with h|h
     ·have:=bH.o _ h;have:=bX.o.Af;have:=aP.o;omega
     ·have:=dC.o;omega
    have bV:Hid (∀Z,Al aB.drew I Z (λw' y=>B4 w' b R.2 y)->(Bh Z xb 162 b nm s0 f0 v0/\AK Z db 160 (A4 b) ⟨V.toArray⟩ s0)/\Al w Ft Z (λw' y=>B4 w' b R.2 y)):=λZ hz=>
     ⟨⟨L.I.Ap hz.1 cE.o,z.I.Ap hz.1 cB.o⟩,by
      obtain⟨z1,aO,z2,z3,z4⟩:=hz
      exact⟨(cM.o.I).As z1 λx E H=>(cJ.o x E).resolve_right (by omega),aO,z2,z3,λk hk=>(z4 k hk).elim (λh=>cJ.o k h) λh=>.inr (Az cM.o.Af h)⟩⟩
    clear J K hS aF aL z L r1 r2 r3 r5 aU bZ b2
    (try simp only[An])
    refine Bd ?_;simp only[BD,BC];obtain⟨bN,a6⟩:=R;dsimp only at aK bV;have aV:Hid (∀Z,Bh Z xb 162 b nm s0 f0 v0->Al w Ft Z (λw' y=>B4 w' b a6 y)->Bh ((Z.setCell (A8 xb 3) (A0 d)).setCell (A8 xb 4) (.slice pa A6.length Y)) xb 162 b nm s0 d (.slice pa A6.length Y)/\Gl w Ft xb ((Z.setCell (A8 xb 3) (A0 d)).setCell (A8 xb 4) (.slice pa A6.length Y)) b ⟨a6.D,a6.F⟩):=λZ E hz=>by
     obtain⟨z1,aO,z2,z3,z4⟩:=hz;have kz:A2 (One xb) Z ((Z.setCell (A8 xb 3) (A0 d)).setCell (A8 xb 4) (.slice pa A6.length Y)):=((A2.C (One xb) Z).ak (b:=xb) rfl 3 _).ak rfl 4 _;(have cH:¬aO xb:=λh=>by rcases z4 _ h with h|h;exact cD.o h;have:=a9.o;omega);exact⟨(E.s3 d).s4 _,z1.dy kz,aO,AP.aq z2 (kz.au z3 λk hk e=>by have e':k=xb:=e;subst e';exact cH hk),λk hk=>Bc (z3 k hk) kz.Af,z4⟩
    by_cases hr:bN=0
    case neg=>
     (have hrb:(bN !=0)=true:=by simpa using hr);go_wp2;refine BH (λw'=>A5 w' xb 0 (A4 b)/\A5 w' xb 1 (.string ⟨nm.toArray⟩)/\A5 w' db 1 (.string ⟨V.toArray⟩)) 13
      (Bj [0,1,2,3,4,5,6,7,8,9,10,11,12] [12]) ⟨x0,x1,x2⟩ ?_
     iterate 12 (refine B5 ?_;(try simp only[An]))
     refine B7 λK J=>?_;go_simp;refine aK.m ?_;rintro e aQ⟨rfl,U⟩;obtain⟨⟨y1,y2⟩,y3⟩:=bV.o aQ U;refine J _ _ ⟨y1.c0,y1.c1,y2.c1⟩ (λhS=>?_);have dA:=A1 y1;have dD:=A1 y3;clear J K hS U aK bV y1 y2 y3
     (try simp only[An])
     refine Bd ?_;simp only[BD,BC];go_wp2;go_ret;dsimp only
     obtain⟨r1,y,r2,r3,r4⟩:=dD.o;exact⟨rfl,dA.o,r1.U λ_ _ h=>.inl h,y,r2,r3,r4⟩
    case pos=>
     subst hr;go_wp2;refine BH (λw'=>A5 w' xb 0 (A4 b)/\A5 w' xb 1 (.string ⟨nm.toArray⟩)/\A5 w' db 1 (.string ⟨V.toArray⟩)) 13
      (Bj [0,1,2,3,4,5,6,7,8,9,10,11,12] [12]) ⟨x0,x1,x2⟩ ?_
     iterate 12 (refine B5 ?_;(try simp only[An]))
     refine B7 λK J=>?_;go_simp;refine aK.m ?_;rintro e aQ⟨rfl,U⟩;obtain⟨⟨y1,y2⟩,y3⟩:=bV.o aQ U;refine J _ _ ⟨y1.c0,y1.c1,y2.c1⟩ (λhS=>?_);have bO:=A1 (aV.o aQ y1 y3);have g3:=y1.c3;have z3:=y1.fz 3;have g4:=(y1.s3 d).c4;have z4:=(y1.s3 d).fz 4;clear J K hS U aK bV y1 y2 y3 aV
     (try simp only[An])
     refine Bd ?_;simp only[BD,BC];go_wp2;go_ret;exact⟨rfl,bO.o.1,bO.o.2⟩
end
end
section
open Go.RowKit
def Bz(w:World)(jb b:Nat)(lv:Value)(last Ag:Int)(ov:Value):Prop:=w.heap[jb]?=some (.cells #[.pointer (some ⟨b,0,none⟩),lv,.int .i64 last,.int .i64 Ag,ov] 208 (0,0))
section
variable {w w':World} {jb b:Nat} {lv ov:Value} {last Ag:Int}
def Bz.c0(h:Bz w jb b lv last Ag ov):A5 w jb 0 (A4 b):=by unfold Bz at h;simp[A5,World.cell?,h]
def Bz.c1(h:Bz w jb b lv last Ag ov):A5 w jb 1 lv:=by unfold Bz at h;simp[A5,World.cell?,h]
def Bz.c2(h:Bz w jb b lv last Ag ov):A5 w jb 2 (A0 last):=by unfold Bz at h;simp[A5,World.cell?,h]
def Bz.c3(h:Bz w jb b lv last Ag ov):A5 w jb 3 (A0 Ag):=by unfold Bz at h;simp[A5,World.cell?,h]
def Bz.c4(h:Bz w jb b lv last Ag ov):A5 w jb 4 ov:=by unfold Bz at h;simp[A5,World.cell?,h]
def Bz.fz(h:Bz w jb b lv last Ag ov)(o:Nat):w.frozen? (A8 jb o)=false:=by unfold Bz at h;simp[World.frozen?,h]
def Bz.lt(h:Bz w jb b lv last Ag ov):jb<w.heap.size:=CD h
def Bz.s1(h:Bz w jb b lv last Ag ov)(x:Value):Bz (w.setCell (A8 jb 1) x) jb b x last Ag ov:=Ca h
def Bz.s2(h:Bz w jb b lv last Ag ov)(x:Int):Bz (w.setCell (A8 jb 2) (A0 x)) jb b lv x Ag ov:=Ca h
def Bz.s3(h:Bz w jb b lv last Ag ov)(x:Int):Bz (w.setCell (A8 jb 3) (A0 x)) jb b lv last x ov:=Ca h
def Bz.s4(h:Bz w jb b lv last Ag ov)(x:Value):Bz (w.setCell (A8 jb 4) x) jb b lv last Ag x:=Ca h
def Bz.I(h:Bz w jb b lv last Ag ov):Bz w.drew jb b lv last Ag ov:=by unfold Bz at h ⊢;exact h
def Bz.Ap{S:Nat->Prop}(h:Bz w jb b lv last Ag ov)(d:A2 S w w')(y:¬S jb):Bz w' jb b lv last Ag ov:=d.Ap h y
end
structure Cy (w:World) (jb b:Nat) (lv ov:Value) (J:Jn):Prop where
 Ae:Bz w jb b lv J.A9 J.Ag ov
 Ah:Cs w lv J.Ah
 AA:(J.AA=none/\ov=.pointer none)\/∃n s lb,J.AA=some (n,s)/\ov=.pointer (some ⟨lb,0,none⟩)/\AK w lb 237 (.pointer (some ⟨b,0,none⟩)) ⟨(Ai n).toArray⟩ s/\s<4294967296
def C9(jb:Nat)(lv ov:Value)(k:Nat):Prop:=k=jb\/lv.ownBlock=some k\/ov=.pointer (some ⟨k,0,none⟩)
section
variable {w w':World} {jb b:Nat} {lv ov:Value} {J:Jn}
def Cy.aq(h:Cy w jb b lv ov J)(y:EC (C9 jb lv ov) w w'):Cy w' jb b lv ov J:=by
 refine⟨(y jb (.inl rfl)).trans h.Ae,Aq h.Ah λg I=>y g (.inr (.inl I)),?_⟩;rcases h.AA with d|⟨n,s,z,d,rfl,H,E⟩
 ·exact .inl d
 ·exact .inr ⟨n,s,z,d,rfl,(y z (.inr (.inr rfl))).trans H,E⟩
def Cy.lt(h:Cy w jb b lv ov J){k:Nat}(d:C9 jb lv ov k):k<w.heap.size:=by
 rcases d with rfl|d|rfl
 ·exact h.Ae.lt
 ·exact Av h.Ah d
 ·rcases h.AA with⟨_,y⟩|⟨n,s,lb,_,y,z,_⟩
  ·cases y
  ·cases y;exact z.lt
def Cy.Aj{S:Nat->Prop}(h:Cy w jb b lv ov J)(y:A2 S w w')(z:∀k,C9 jb lv ov k->¬S k):Cy w' jb b lv ov J:=
 h.aq (y.au (λ_ d=>h.lt d) z)
def Cy.an(h:Cy w jb b lv ov J)(d:A2 A7 w w'):Cy w' jb b lv ov J:=h.Aj d λ_ _ h=>h
end
def JJ(l:List Int)(j:Nat)(d:j<l.length):l.getD j 0=l[j]'d:=by simp[List.getD,d]
def RQ(w:World)(O V:Value)(d h:List Int)(I:C4 w O d)(H:C4 w V h):
 Ac 241 #[O,V] w (Ak (.bool (decide (d=h))) λw'=>∃q,w'=w.drewN q):=by
 obtain⟨W,c1,rfl,p1,Z⟩:=I.BU;obtain⟨Y,c2,rfl,q1,q2⟩:=H.BU;unfold maxLen at Z q2;by_cases U:d.length=h.length
 case neg=>
  have E:¬d=h:=λe=>U (by rw[e]);refine(Tryz.slices_Equal_int_lens W Y _ c1 _ c2 w U).mono ?_;rintro e w'⟨rfl,rfl⟩;exact⟨by rw[Cj E],0,rfl⟩
 case pos=>
 by_cases h0:d.length=0
 ·have e1:d=[]:=Fy.1 h0;have e2:h=[]:=Fy.1 (by omega);subst e1;subst e2;refine(Tryz.slices_Equal_int_empty W Y c1 0 c2 w (by omega)).mono ?_;rintro e w'⟨rfl,rfl⟩;exact⟨by simp,0,rfl⟩
 ·obtain⟨g1,o1,rfl,-⟩:=C4.at I 0 (by omega);obtain⟨g2,o2,rfl,-⟩:=C4.at H 0 (by omega);refine(Tryz.slices_Equal_int g1 o1 _ c1 g2 o2 _ c2 d h w (Aw _) (Aw _) (by omega) (by omega) (λj y=>?_) (λj y=>?_)).mono ?_
  ·obtain⟨g,o,e,L⟩:=C4.at I j y;cases e;rw[JJ d j y];exact L
  ·obtain⟨g,o,e,L⟩:=C4.at H j y;cases e;rw[JJ h j y];exact L
  rintro e w'⟨rfl,q,rfl⟩;refine⟨?_,q,rfl⟩;rw[CP,CP];by_cases z:d=h
  ·rw[Cc z,z];simp
  ·rw[Cj z,GO.2 z]
def Ln:∀(k s:Nat) (l:Bs),(CN k s l).1.length*21<=l.length
 | 0,_,l=>by simp[CN]
 | k+1,s,l=>by
  unfold CN;split
  ·simp
  ·rename_i h;split
   ·have:=Ln k (Ay s (l.take 17)) (l.drop 21);rw[CS]at this;simp only[Cr];omega
   ·simp
def Px(s:Nat)(ahead:Int)(l:Bs):(FD s ahead l).1.length*21<=l.length:=by
 unfold FD;split
 ·simp
 ·split
  ·split
   ·have:=Ln l.length (Ay s (l.take 8)) (l.drop 12);rw[CS]at this;simp only;omega
   ·simp
  ·simp
def QE{P:PD}{a c m:Nat}(h:Fit P a c m)(n ahead:Int):(P.aR n ahead).1.length*21<=m:=by
 have d:=Ho h (Ai n);unfold PD.aR Fk;split
 ·simp
 ·exact Az (Px _ _ _) d
end
end Go.Proofs.YtodcnkbblippnaaGreatDoor
