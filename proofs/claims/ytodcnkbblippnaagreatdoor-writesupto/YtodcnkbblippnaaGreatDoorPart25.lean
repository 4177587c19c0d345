/- Part 25 of a proof: walks of the program. -/
import Derived.Test.YtodcnkbblippnaaGreatDoorCards
import Derived.Test.YtodcnkbblippnaaGreatDoorTie
import Derived.ProofKit
import Derived.OpenShut
import Derived.Carry
import Derived.Deep.DeepHandedRow
import Derived.Deep.DeepWitnessRowRef
import Derived.Deep.Slices
import Derived.Lib.LaidTab
import Derived.Stop.LaidErr
import Derived.Test.YtodcnkbblippnaaGreatDoorPart24
namespace Go.Proofs.YtodcnkbblippnaaGreatDoor
set_option maxRecDepth 100000
set_option maxHeartbeats 32000000
set_option linter.defProp false
open Go.Proofs.Tryz
section
open Go.RowKit
attribute [local go_sem ↓] Cw
section
variable {α:Type} {lt:α->α->Bool}
def GA(lt:α->α->Bool)(a b:Nat)(l l':List α):Prop:=l'.length=l.length/\B2 lt ((l'.drop a).take (b-a))/\∀p q,p+q<=a\/b<=p->(l'.drop p).take q=(l.drop p).take q
def Sb{A M M' Z:List α}(h:M'.length=M.length)(d:B2 lt M'):GA lt A.length (A.length+M.length) (A++M++Z) (A++M'++Z):=by
 refine⟨by simp[h],?_,λp q hp=>?_⟩
 ·rw[A1P rfl (by omega) (λhx=>by omega)];exact d
 ·exact(A1O h p q (by omega))
def EH.a7{l l':List α}{C j b:Nat}(h:EH lt C (λi=>i<j) l)(z:GA lt (j*C) b l l')(I:b=j*C+C\/(b=l.length/\l.length<=j*C+C))(hj:j*C<=l.length):EH lt C (λi=>i<j+1) l':=λi d=>by
 rcases Nat.lt_or_eq_of_le (Pm d) with d|rfl
 ·rw[z.2.2 _ _ (.inl ?_)]
  ·exact h i d
  ·have:=Hy C (show i+1<=j from d);rw[Hz]at this;omega
 ·have E:=z.2.1;rcases I with rfl|⟨rfl,I⟩
  ·rwa [A3B]at E
  ·have e:(l'.drop (i*C)).take C=(l'.drop (i*C)).take (l.length-i*C):=by
    rw[Ec (by rw[Cl,z.1];omega),Ec (by rw[Cl,z.1];omega)]
   rw[e];exact E
def EH.fV{l l':List α}{B a b j:Nat}(h:EH lt B (λi=>j<=i) l)(E:GA lt a b l l')(z:b<=j*B):EH lt B (λi=>j<=i) l':=λi d=>by
 rw[E.2.2 _ _ (.inr (AQ z (Hy B d)))];exact h i d
def EH.dR{l:List α}{C j:Nat}(h:EH lt C (λi=>i<j) l)(z:l.length<=j*C):EH lt C (λ_=>True) l:=λi _=>by
 rcases F9 i j with d|d
 ·exact h i d
 ·rw[N1 (AQ z (Hy C d)),List.take_nil];exact List.Pairwise.nil
def GA.au{l:List α}{a b:Nat}(h:B2 lt ((l.drop a).take (b-a))):GA lt a b l l:=⟨rfl,h,λ_ _ _=>rfl⟩
def KU{l:List α}{a q r:Nat}(h:B2 lt ((l.drop a).take q))(d:r<=q):B2 lt ((l.drop a).take r):=by
 have:=h.b4 r
 rwa [K0,Jd d]at this
end
def X0{n B C:Nat}(hn:n<=4294967296)(hB:B<=n)(hC:2*B=C):
 wrap64 (2*(B:Int))=(C:Int)/\IntKind.i64.wrap (2*(B:Int))=(C:Int)/\wrap64 ((B:Int)*2)=(C:Int)/\IntKind.i64.wrap ((B:Int)*2)=(C:Int):=by
 have d:=GC (x:=2*(B:Int)) (k:=C) (by omega) (by omega);have h:=GC (x:=(B:Int)*2) (k:=C) (by omega) (by omega);exact⟨d.1,d.2,h.1,h.2⟩
def ZA{n b c:Nat}(h:b<=n)(hc:b+20=c):n+21-(intOf (A0 (c:Int))).toNat<n+21-(intOf (A0 (b:Int))).toNat:=by simp[intOf];omega
def Zz{n b c C:Nat}(h:b<=n)(hC:20<=C)(hc:b+C=c):n+C+1-(intOf (A0 (c:Int))).toNat<n+C+1-(intOf (A0 (b:Int))).toNat:=by simp[intOf];omega
def Ss{n B C:Nat}(h:B<n)(hB:20<=B)(hC:2*B=C):n-(intOf (A0 (C:Int))).toNat<n-(intOf (A0 (B:Int))).toNat:=by simp[intOf];omega
def A2F(a:Nat){B:Nat}(h:20<=B):a<a+B/\a+B<a+2*B/\a+B-a<=B/\a+2*B-(a+B)<=B/\20<=2*B:=by omega
def A1x{a B n:Nat}(h:¬a+2*B<=n):n<=a+2*B/\n-(a+B)<=B/\(¬a+B<n->n-a<=B):=by omega
section
variable {w w':World} {g cap n wb:Nat} {len:Int} {l:List Pu}
def Way(g cap n:Nat)(len:Int)(l:List Pu)(w h:World)(d:List Pu):Prop:=h.ownsRow 0 113 3 (.slice (some ⟨g,0,none⟩) n cap) n (AZ d)/\d.length=n/\Br (AH len) l d/\A4 (One g) w h
def VH(hT:∀p∈l,Ax p.2.1)(hl:1<=len/\len<=4611686018427387904)(hw:A8 w wb 0 (A0 len))(L:wb≠g)(O:n<=4294967296)(Y:World)(d:List Pu)(a b:Nat)(I:a<b)(hb:b<=n)(h:Way g cap n len l w Y d):
 Ag 243 #[AB g n cap,A0 a,A0 b,.func (Fn.func 155) #[] #[A6 wb]] Y (Aj (.tuple #[]) λw'=>∃E,Way g cap n len l w w' E/\GA (AH len) a b d E):=by
 obtain⟨h1,h2,h3,h4⟩:=h;subst h2;refine(T0 Y g cap wb len d a b I hb h1 (λp hp=>hT p (h3.bC.E4 (GI len) hp)) hl (h4.bD hw λe=>L e) L O).mono ?_;rintro e w'⟨rfl,m,X,q2,q3,q4,q5⟩;have hM:((d.drop a).take (b-a)).length=b-a:=by rw[BI,Cl];omega
 have aA:(d.take a).length=a:=by rw[BI];omega
 have W:d=d.take a++(d.drop a).take (b-a)++d.drop b:=by
  have:=Qw d (Fb I) (Ao b);simpa using this
 have hN:=Sb (lt:=AH len) (A:=d.take a) (Z:=d.drop b) (q2.trans hM.symm) q4;rw[<-W,aA,hM,show a+(b-a)=b by omega]at hN;have z:=hN.1;refine⟨rfl,d.take a++m++d.drop b,⟨?_,z,?_,h4.tr q5⟩,hN⟩
 ·unfold B5 at X;rw[z]at X;exact X
 ·refine h3.Au ?_;have e:(d.take b).drop a=(d.drop a).take (b-a):=List.drop_take ..;rw[e]at q3;have:=((Br.C (lt:=AH len) (d.take a)).aq q3).aq (Br.C (d.drop b))
  rwa [<-W]at this
def VG(hT:∀p∈l,Ax p.2.1)(hl:1<=len/\len<=4611686018427387904)(hw:A8 w wb 0 (A0 len))(L:wb≠g)(W:n<=4294967296)(wx:World)(d:List Pu)(a m b:Nat)(aA:a<m)(aD:m<b)(hb:b<=n)(h:Way g cap n len l w wx d)(s1:B2 (AH len) ((d.drop a).take (m-a)))(s2:B2 (AH len) ((d.drop m).take (b-m))):
 Ag 244 #[AB g n cap,A0 a,A0 m,A0 b,.func (Fn.func 155) #[] #[A6 wb]] wx (Aj (.tuple #[]) λw'=>∃z,Way g cap n len l w w' z/\GA (AH len) a b d z):=by
 obtain⟨h1,h2,h3,h4⟩:=h;have X:=Qw d (Fb aA) (Fb aD);have lA:(d.take a).length=a:=by rw[BI];omega
 have E:((d.drop a).take (m-a)).length=m-a:=by rw[BI,Cl];omega
 have I:((d.drop m).take (b-m)).length=b-m:=by rw[BI,Cl];omega
 obtain⟨A,hA⟩:∃A,d.take a=A:=⟨_,rfl⟩;obtain⟨U,hU⟩:∃U,(d.drop a).take (m-a)=U:=⟨_,rfl⟩;obtain⟨V,hV⟩:∃V,(d.drop m).take (b-m)=V:=⟨_,rfl⟩;obtain⟨Z,hZ⟩:∃Z,d.drop b=Z:=⟨_,rfl⟩;rw[hA,hU,hV,hZ]at X;rw[hA]at lA;rw[hU]at E s1;rw[hV]at I s2;subst X;have aB:U≠[]:=λe=>by rw[e]at E;simp at E;omega
 have Y:V≠[]:=λe=>by rw[e]at I;simp at I;omega
 have:=Qo _ wx g cap n wb len A U V Z (Ao _) aB Y h2.symm h1 (λp O=>hT p (h3.bC.E4 (GI len) (by simp at O ⊢;rcases O with O|O<;>simp[O]))) s1 s2 hl (h4.bD hw λe=>L e) L W;rw[lA,E,I,show a+(m-a)=m by omega,show m+(b-m)=b by omega]at this;refine this.mono ?_;rintro e w'⟨rfl,M,q1,q2,q3,q4,q5⟩;have hN:=Sb (lt:=AH len) (A:=A) (M:=U++V) (M':=M) (Z:=Z) (by rw[Ba,E,I];exact q2) q3;have ee:A++(U++V)++Z=A++U++V++Z:=by simp
 rw[ee,lA,Ba,E,I,show a+(m-a+(b-m))=b by omega]at hN;refine⟨rfl,A++M++Z,⟨q1,hN.1.trans h2,h3.Au ?_,h4.tr q5⟩,hN⟩;have:=((Br.C (lt:=AH len) A).aq q4).aq (Br.C Z)
 rwa [ee]at this
def WZ(w:World)(g cap wb:Nat)(len:Int)(l:List Pu)(Y:l.length<=4294967296)(h:B5 w (AB g l.length cap) l)(hT:∀p∈l,Ax p.2.1)(hl:1<=len/\len<=4611686018427387904)(hw:A8 w wb 0 (A0 len))(aM:wb≠g):
 Ag 202 #[AB g l.length cap,A0 l.length,.func (Fn.func 155) #[] #[A6 wb]] w (Aj (.tuple #[]) λw'=>B5 w' (AB g l.length cap) (E7 (AH len) l)/\A4 (One g) w w'):=by
 obtain⟨n,hn⟩:∃n,l.length=n:=⟨_,rfl⟩;have h0:Hid (Way g cap n len l w w l):=by unfold B5 at h;rw[hn]at h;exact⟨h,hn,Br.C _,A4.C _ _⟩
 rw[hn]at Y ⊢;have aS:Hid (∀wx z a b,a<b->b<=n->Way g cap n len l w wx z->_):=λwx z a b q1 q2 q3=>VH hT hl hw aM Y wx z a b q1 q2 q3;have aL:Hid (∀wx z a m b,a<m->m<b->b<=n->Way g cap n len l w wx z->_->_->_):=λwx z a m b q1 q2 q3 q4 q5 q6=>VG hT hl hw aM Y wx z a m b q1 q2 q3 q4 q5 q6;have aV:Hid (∀wx,Ag 243 #[AB g n cap,A0 n,A0 n,.func (Fn.func 155) #[] #[A6 wb]] wx (Aj (.tuple #[]) λw'=>wx=w')):=λwx=>SZ wx _ _ n n (by omega) (by omega);have a5:Hid (∀B C,B<=n->2*B=C->_):=λB C q1 q2=>X0 (B:=B) (C:=C) Y q1 q2;have a7:Hid (∀a b c m B C:Nat,a<=n->B<=n->2*B=C->a+C=b->b+C=c->a+B=m->(wrap64 ((a:Int)+(B:Int))=(m:Int)/\IntKind.i64.wrap ((a:Int)+(B:Int))=(m:Int))/\(wrap64 ((b:Int)+(C:Int))=(c:Int)/\IntKind.i64.wrap ((b:Int)+(C:Int))=(c:Int))):=λa b c m B C q1 q2 q3 q4 q5 q6=>⟨GC (by omega) (by omega),GC (by omega) (by omega)⟩
 have a0:Hid (∀a b c:Nat,a<=n->a+20=b->b+20=c->wrap64 ((b:Int)+20)=(c:Int)/\IntKind.i64.wrap ((b:Int)+20)=(c:Int)):=λa b c O X hc=>GC (by omega) (by omega);have aY:Hid (∀w' z,Way g cap n len l w w' z->B2 (AH len) z->B5 w' (AB g n cap) (E7 (AH len) l)/\A4 (One g) w w'):=λw' z q1 q2=>by
  obtain⟨a1,a2,a3,a4⟩:=q1;have e1:=(GI len).eC q2 a3;refine⟨?_,a4⟩;unfold B5;rw[<-e1,a2];exact a1
 go_enter func202,ntmps202
 go_wp2;go_loopw [7,8] (λav bv wr=>∃(j:Nat) (z:List Pu),av=A0 ((j*20:Nat):Int)/\bv=A0 ((j*20+20:Nat):Int)/\Hid (j*20<=n/\Way g cap n len l w wr z/\EH (AH len) 20 (λi=>i<j) z)) (λ_ bv _=>n+21-(intOf bv).toNat)
 case atStart=>exact⟨0,l,by go_num,by go_num,Ce _,h0.o,λi hi=>absurd hi (JX i)⟩
 case round=>
  obtain⟨j,z,rfl,rfl,hI⟩:=hrel;obtain⟨i1,i2,i3⟩:=hI.o;obtain⟨a,O⟩:∃a,j*20=a:=⟨_,rfl⟩;obtain⟨b,X⟩:∃b,a+20=b:=⟨_,rfl⟩;obtain⟨c,hc⟩:∃c,b+20=c:=⟨_,rfl⟩;have aA:(j+1)*20=b:=by rw[Hz,O];exact X
  have aD:=A1 (And.intro O (And.intro aA hc));rw[O]at i1 ⊢;rw[X];obtain⟨z1,z2⟩:=a0.o a b c i1 X hc;have E:=i2.2.1;by_cases I:b<=n
  ·have aI:=Py.2 I;have aZ:=A1 (aS.o wr z a b (by rw[<-X];exact Nat.lt_add_of_pos_right (by decide)) I i2);have K:Hid (∀d,GA (AH len) a b z d->EH (AH len) 20 (λi=>i<j+1) d):=λd W=>i3.a7 (by rw[O];exact W) (.inl (by rw[O];exact X.symm)) (by rw[O,E];exact i1);have aR:=A1 I;go_wp2_with (go_at_call 243;refine aZ.m ?_;rintro e w2⟨rfl,d,hW,W⟩;have aG:=A1 hW;have L:=A1 (K.o d W));go_roundw
   case rel=>exact⟨j+1,d,by rw[aD.o.2.1],by rw[aD.o.2.1,aD.o.2.2],by rw[aD.o.2.1];exact aR.o,aG.o,L.o⟩
   case measure=>
    exact ZA aR.o aD.o.2.2
  ·have aI:¬((b:Int)<=(n:Int)):=λh=>I (Py.1 h);have K:Hid (∀d,GA (AH len) a n z d->EH (AH len) 20 (λ_=>True) d):=λd W=>(i3.a7 (by rw[O];exact W) (.inr ⟨E.symm,by rw[O,E];rw[X];exact Fb (Nat.lt_of_not_le I)⟩) (by rw[O,E];exact i1)).dR (by rw[W.1,aA,E];exact Fb (Nat.lt_of_not_le I))
   have aZ:Hid (Ag 243 #[AB g n cap,A0 a,A0 n,.func (Fn.func 155) #[] #[A6 wb]] wr (Aj (.tuple #[]) λw'=>∃d,Way g cap n len l w w' d/\GA (AH len) a n z d)):=by
    by_cases aK:a<n
    ·exact aS.o wr z a n aK (Ao _) i2
    ·obtain rfl:a=n:=L7 i1 (IA aK);refine(aV.o wr).mono ?_;rintro e w'⟨rfl,rfl⟩;exact⟨rfl,z,i2,GA.au (by rw[MP,Fe];exact List.Pairwise.nil)⟩
   go_wp2_with (go_at_call 243;refine aZ.m ?_;rintro e w2⟨rfl,d,hW,W⟩;have aG:=A1 hW;have L:=A1 (K.o d W));go_loopw [6] (λbv wr=>∃(B:Nat) (z:List Pu),bv=A0 (B:Int)/\Hid (20<=B/\Way g cap n len l w wr z/\EH (AH len) B (λ_=>True) z)) (λbv _=>n-(intOf bv).toNat)
   case atStart=>exact⟨20,d,by go_num,Ao _,aG.o,L.o⟩
   case round=>
    obtain⟨B,aH,rfl,hI⟩:=hrel;obtain⟨i1,i2,i3⟩:=hI.o;by_cases aE:B<n
    ·have aU:=Ff.2 aE;obtain⟨C,hC⟩:∃C,2*B=C:=⟨_,rfl⟩;obtain⟨z1,z2,z3,z4⟩:=a5.o B C (Fb aE) hC;have aN:=A1 (And.intro i1 (And.intro i2 i3));have aJ:=A1 aE;have a6:=A1 hC;generalize wr=w3 at aN ⊢;go_wp2;go_loopw [7,8] (λav bv wr=>∃(j:Nat) (z:List Pu),av=A0 ((j*C:Nat):Int)/\bv=A0 ((j*C+C:Nat):Int)/\Hid (j*C<=n/\Way g cap n len l w wr z/\EH (AH len) C (λi=>i<j) z/\EH (AH len) B (λi=>2*j<=i) z)) (λ_ bv _=>n+C+1-(intOf bv).toNat)
     case atStart=>exact⟨0,aH,by simp,by simp,by simp,aN.o.2.1,λi hi=>absurd hi (JX i),λi _=>aN.o.2.2 i trivial⟩
     case round=>
      obtain⟨j,z,rfl,rfl,hI⟩:=hrel;obtain⟨i1,i2,i3,i4⟩:=hI.o;obtain⟨a,O⟩:∃a,j*C=a:=⟨_,rfl⟩;obtain⟨b,X⟩:∃b,a+C=b:=⟨_,rfl⟩;obtain⟨c,hc⟩:∃c,b+C=c:=⟨_,rfl⟩;obtain⟨m,aF⟩:∃m,a+B=m:=⟨_,rfl⟩;have hC:=a6.o;(have aA:(j+1)*C=b:=by rw[Hz,O,Ux];exact X);(have aP:2*j*B=a:=by rw[<-O,<-hC,L6 2 j,Pj]);(have aQ:(2*j+1)*B=m:=by rw[Hz,aP,Ux];exact aF);(have aO:2*(j+1)*B=b:=by rw[<-aA,<-hC,L6 2 (j+1),Pj]);rw[O]at i1 ⊢;rw[X];obtain⟨⟨y1,y2⟩,y3,y4⟩:=a7.o a b c m B C i1 (Fb aJ.o) hC X hc aF;have s1:=i4 (2*j) (Ao _);have s2:=i4 (2*j+1) (Fa _);rw[aP]at s1;rw[aQ]at s2;have E:=i2.2.1;obtain⟨k1,k2,k3,k4,k5⟩:=A2F a aN.o.1;rw[aF]at k1 k2 k3 k4;rw[hC]at k2 k4 k5;rw[X]at k2 k4;have aD:=A1 (And.intro aA (And.intro hc k5));by_cases I:b<=n
      ·have aI:=Py.2 I;have aT:=A1 (aL.o wr z a m b k1 k2 I i2 (KU s1 k3) (KU s2 k4));have K:Hid (∀d,GA (AH len) a b z d->EH (AH len) C (λi=>i<j+1) d/\EH (AH len) B (λi=>2*(j+1)<=i) d):=λd W=>
        ⟨i3.a7 (by rw[O];exact W) (.inl (by rw[O];exact X.symm)) (by rw[O,E];exact i1),EH.fV (λi hi=>i4 i (AQ (Nat.mul_le_mul_left 2 (Fa j)) hi)) W (by rw[aO];exact Ao _)⟩
       have aR:=A1 I;go_wp2_with (go_at_call 244;refine aT.m ?_;rintro e w4⟨rfl,d,hW,W⟩;have aG:=A1 hW;have L:=A1 (K.o d W));go_roundw
       case rel=>exact⟨j+1,d,by rw[aD.o.1],by rw[aD.o.1,aD.o.2.1],by rw[aD.o.1];exact aR.o,aG.o,L.o.1,L.o.2⟩
       case measure=>exact Zz aR.o aD.o.2.2 aD.o.2.1
      ·have aI:¬((b:Int)<=(n:Int)):=λh=>I (Py.1 h);obtain⟨e1,e2,e3⟩:=A1x (a:=a) (B:=B) (n:=n) (by rw[hC,X];exact I);rw[hC,X]at e1;rw[aF]at e2 e3;have K:Hid (∀d,GA (AH len) a n z d->EH (AH len) C (λ_=>True) d):=λd W=>(i3.a7 (by rw[O];exact W) (.inr ⟨E.symm,by rw[O,E,X];exact e1⟩) (by rw[O,E];exact i1)).dR (by rw[W.1,aA,E];exact e1)
       have aB:=A1 (And.intro k5 (And.intro hC aN.o.1));by_cases hm:m<n
       ·have aX:=Ff.2 hm;have aT:=A1 (aL.o wr z a m n k1 hm (Ao _) i2 (KU s1 k3) (KU s2 e2));go_wp2_with (go_at_call 244;refine aT.m ?_;rintro e w4⟨rfl,d,hW,W⟩;have aG:=A1 hW;have L:=A1 (K.o d W));go_roundw
        case rel=>exact⟨C,d,rfl,aB.o.1,aG.o,L.o⟩
        case measure=>exact Ss aJ.o aB.o.2.2 aB.o.2.1
       ·have aX:¬((m:Int)<(n:Int)):=λh=>hm (Ff.1 h);have L:=A1 (K.o z (GA.au (KU s1 (e3 hm))));have aG:=A1 i2;go_wp2;go_roundw
        case rel=>exact⟨C,z,rfl,aB.o.1,aG.o,L.o⟩
        case measure=>exact Ss aJ.o aB.o.2.2 aB.o.2.1
    ·have aU:¬((B:Int)<(n:Int)):=λh=>aE (Ff.1 h);have aW:=A1 (aY.o wr aH i2 (i3.CH (by rw[i2.2.1];exact IA aE)));go_wp2;go_end0;exact⟨rfl,aW.o⟩
end
def LC(N:Nat)(hN:N<=4294967296):GY N:=by
 intro w v wb len l hn h z I E d;have ST:Hid (Ag 202 #[v,A0 l.length,.func (Fn.func 155) #[] #[A6 wb]] w (Aj (.tuple #[]) λw'=>B5 w' v (E7 (AH len) l)/\A4 (λk=>v.oB k) w w')):=by
  by_cases O:l.length<=19
  ·exact X1 w v wb len l O h z I E d
  ·obtain⟨av,cap,rfl,X,L,h3,-,-⟩:=Bk h;obtain⟨g,rfl⟩:=h3 (by omega);refine(WZ w g cap wb len l (by omega) h z I E (d g rfl)).mono ?_;rintro e w'⟨rfl,Y,q2⟩;exact⟨rfl,Y,q2.ad λk _ W=>by have e:=W;subst e;rfl⟩
 obtain⟨av,cap,rfl,X,L,-⟩:=Bk h
 go_enter func154,ntmps154
 go_wp2_with (go_at_call 202;refine ST.m ?_;rintro e w2⟨rfl,hp,hc⟩;have aB:=A1 hp;have aA:=A1 hc);go_end0;exact⟨rfl,aB.o,aA.o⟩
end
section
open Go.RowKit
attribute [local go_sem ↓] Go.wp_at_zero Go.wp_at_succ
def Eo.aR{w w':World}{v:Value}(h:Eo w.heap.size w v)(d:A4 Aa w w'):Eo w'.heap.size w' v:=by
 have:=h.ai (d.ad λ_ _ h=>h.elim);obtain⟨z,L,E,O⟩:=this;exact⟨z,L,E,λY n c x I X W=>Bi (O Y n c x I X W) d.Al⟩
end
section
open Go.ChangeAt Go.ChangeShapes Go.RowKit Go.WideShapes
def Tryz.own:ownKnob Tryz.prog.godebug=none:=by kernel_rfl
def Tryz.dP:Tryz.prog.globalNamed "tides/files.letters" = some 0:=by kernel_rfl
def Tryz.dL:Tryz.prog.globalNamed "internal/strconv.uint64pow10" = some 3:=by kernel_rfl
def Tryz.dW:Tryz.prog.globalNamed "strconv.ErrRange" = some 2:=by kernel_rfl
def Tryz.er:Tryz.prog.globalNamed "strconv.ErrSyntax" = some 1:=by kernel_rfl
def Tryz.e9:(Tryz.prog.globals[0]?).map (·.type)=some 201:=by kernel_rfl
def Tryz.eS:(Tryz.prog.globals[3]?).map (·.type)=some 333:=by kernel_rfl
def Tryz.eN:(Tryz.prog.globals[2]?).map (·.type)=some 197:=by kernel_rfl
def Tryz.fe:(Tryz.prog.globals[1]?).map (·.type)=some 197:=by kernel_rfl
def Tryz.eT:Tryz.prog.cellsOf 201=5:=by kernel_rfl
def Tryz.dB:Tryz.prog.cellsOf 9=1:=by kernel_rfl
def Tryz.fC:Tryz.prog.cellsOf 333=20:=by kernel_rfl
def Tryz.fq:Tryz.prog.cellsOf 275=1:=by kernel_rfl
def Tryz.dD:Tryz.prog.cellsOf 3=1:=by kernel_rfl
def Tryz.dT:Tryz.prog.cellsOf 325=1:=by kernel_rfl
def Tryz.laidOut:laidOutB Tryz.prog=true:=by kernel_rfl
def Tryz.star: "*" ++ "errors.errorString" = "*errors.errorString":=by decide
def Tryz.ey(u:TypeId)(h:Tryz.prog.typeName? 3 u=some "*errors.errorString"):u=323:=
 typeName_ptr_named (nm:= "errors.errorString") (by rw[Tryz.star];kernel_rfl) (by kernel_rfl) (by decide) u (by rw[Tryz.star];exact h)
def ZR{d:Nat}{w:World}{cs:List Value}{s:List (List UInt8)}{p:List MemPlace}(h:DataW.trod (λ_=>()) Tryz.prog w 0 (λ_=>true) false d 201 cs=some (.agg (s.map λx=>.lit (.string x)),p))(k:Nat)(L:k<5)(x:List UInt8)(Y:s[k]?=some x):cs[k]?=some (.string ⟨x.toArray⟩):=by
 cases d with
 | zero=>simp[DataW.trod]at h
 | succ d=>
  simp only[DataW.trod,underlying201,Tryz.dB,Tryz.eT,Uz]at h;split at h
  ·obtain⟨xs,hm,O⟩:=A3r.1 h;have E:xs.map (·.1)=s.map λx=>DataW.lit (.string x):=by
    have:=Eu Prod.fst O;simpa using this
   obtain⟨b,I,X⟩:=Lib.mapM_at hm k k (by simp[L]);obtain⟨s',hc,rfl,_⟩:=DataW.trod_string underlying9 X;have W:cs[k]?=some (.string s'):=by
    have:=Eu (·[0]?) hc;simpa[List.getElem?_take,List.getElem?_drop] using this
   (have z:(xs.map (·.1))[k]?=some (DataW.lit (.string s'.data.toList)):=by simp[I]);rw[E]at z;simp[Y]at z;rw[W,z]
  ·cases h
def A0d{W:World}(h:laidMetH Tryz.prog Rows.writesUptoRow.laid W):Lets W.heap.size W:=by
 have h0:=h;have h3:laidMet Tryz.prog (("internal/strconv.uint64pow10",Lib.tabData .u64 Lib.pow10Tab):: [("strconv.ErrRange",Rows.laid_strconv_ErrRange),("strconv.ErrSyntax",Rows.laid_strconv_ErrSyntax),("tides/files.letters",Rows.laid_tides_files_letters)]) W:=laidMet.tail (laidMet.tail h0);have X:Lib.TabIs Tryz.prog W "internal/strconv.uint64pow10" .u64 Lib.pow10Tab:=Lib.tabIs_of_head Tryz.dL Tryz.eS underlying333 underlying275 Tryz.fq Tryz.fC h3;have h6:=laidMet.tail (laidMet.tail (laidMet.tail h3));obtain⟨ps,⟨g',t',cs,fuel,p,q,L,O,d,hd,_,_⟩,_⟩:=h6;obtain rfl:=HV (Tryz.dP.symm.trans L);obtain rfl:=HV (Tryz.e9.symm.trans O);have E:=ZR (s:=[[],[108],[115],[105],[100]]) hd;have z:∀k:Nat,1<=k->k<=4->W.cell? ⟨0,k,none⟩=some (.string ⟨(D7 k).toArray⟩):=λk h1 h2=>by
  rw[Ui Tryz.dP d k];have:k=1\/k=2\/k=3\/k=4:=by omega
  rcases this with rfl|rfl|rfl|rfl
  ·simpa[D7] using E 1 (by omega) _ rfl
  ·simpa[D7] using E 2 (by omega) _ rfl
  ·simpa[D7] using E 3 (by omega) _ rfl
  ·simpa[D7] using E 4 (by omega) _ rfl
 have aA:=Gz W _ (z 1 (by omega) (by omega));have Y:=X.cell Tryz.dL 0 (by decide);have I:=Gz W _ Y;refine⟨Ao _,λw' hb=>⟨λk h1 h2=>?_,?_⟩⟩
 ·rw[<-z k h1 h2];exact hb.cell aA
 ·unfold Lib.TabIs at X ⊢;rw[<-X];unfold World.var?;rw[Tryz.dL];simp only[Option.bind_some];rw[hb.block _ I]
def A0e{W:World}(h:laidMetH Tryz.prog Rows.writesUptoRow.laid W):I3 W:=by
 have L:=h;have E:=laidMet.tail (laidMet.tail (laidMet.tail L));have I:=laidMet.tail E;obtain⟨a0,_,z,_⟩:=laid_sentinel E Tryz.dW Tryz.eN underlying197 Tryz.ey underlying323 underlying325 rfl rfl underlying9 Tryz.dT Tryz.dB;obtain⟨b0,_,d,_⟩:=laid_sentinel I Tryz.er Tryz.fe underlying197 Tryz.ey underlying323 underlying325 rfl rfl underlying9 Tryz.dT Tryz.dB;exact⟨⟨_,by simpa using Ui Tryz.er d 0,.inr ⟨_,_,rfl⟩⟩,_,by simpa using Ui Tryz.dW z 0,.inr ⟨_,_,rfl⟩⟩
def Jm{z:Int}(h:(Lit.int .i64 z).wf=true):Ax z:=by
 simp[Lit.wf]at h;have e:IntKind.i64.min = -9223372036854775808:=rfl;rw[e]at h;exact h
abbrev Wf:ByteArray:={data:=#[105,110,118,97,108,105,100,32,115,121,110,116,97,120]}
abbrev XC:ByteArray:={data:=#[118,97,108,117,101,32,111,117,116,32,111,102,32,114,97,110,103,101]}
def Jz(v:Array Value):Obj->Obj
 | .cells _ t frozen=>.cells v t frozen
 | o=>o
def DB(os:Os)(W:World):Prop:=W =
 let w0:=World.holding Tryz.prog os ⟨#[.cells #[.string Wf] 325,.cells #[.string XC] 325],#[],[]⟩
 let h0:=w0.heap
 let h1:=h0.modify 0 (Jz #[.string ⟨#[]⟩,.string ⟨#[108]⟩,.string ⟨#[115]⟩,.string ⟨#[105]⟩,.string ⟨#[100]⟩])
 let h2:=h1.modify 1 (Jz #[.iface 323 (A6 ((World.holding Tryz.prog default ⟨#[],#[],[]⟩).heap.size))])
 let h3:=h2.modify 2 (Jz #[.iface 323 (A6 ((World.holding Tryz.prog default ⟨#[],#[],[]⟩).heap.size+1))])
 let h4:=h3.modify 3 (Jz #[.int .u64 1,.int .u64 10,.int .u64 100,.int .u64 1000,.int .u64 10000,.int .u64 100000,.int .u64 1000000,.int .u64 10000000,.int .u64 100000000,.int .u64 1000000000,.int .u64 10000000000,.int .u64 100000000000,.int .u64 1000000000000,.int .u64 10000000000000,.int .u64 100000000000000,.int .u64 1000000000000000,.int .u64 10000000000000000,.int .u64 100000000000000000,.int .u64 1000000000000000000,.int .u64 10000000000000000000])
 let h5:=h4.modify 5 (Jz #[.int .u8 0,.int .u8 1,.int .u8 28,.int .u8 2,.int .u8 29,.int .u8 14,.int .u8 24,.int .u8 3,.int .u8 30,.int .u8 22,.int .u8 20,.int .u8 15,.int .u8 25,.int .u8 17,.int .u8 4,.int .u8 8,.int .u8 31,.int .u8 27,.int .u8 13,.int .u8 23,.int .u8 21,.int .u8 19,.int .u8 16,.int .u8 7,.int .u8 26,.int .u8 12,.int .u8 18,.int .u8 6,.int .u8 11,.int .u8 5,.int .u8 10,.int .u8 9])
 let h6:=h5.modify 6 (Jz #[.int .u8 0,.int .u8 1,.int .u8 56,.int .u8 2,.int .u8 57,.int .u8 49,.int .u8 28,.int .u8 3,.int .u8 61,.int .u8 58,.int .u8 42,.int .u8 50,.int .u8 38,.int .u8 29,.int .u8 17,.int .u8 4,.int .u8 62,.int .u8 47,.int .u8 59,.int .u8 36,.int .u8 45,.int .u8 43,.int .u8 51,.int .u8 22,.int .u8 53,.int .u8 39,.int .u8 33,.int .u8 30,.int .u8 24,.int .u8 18,.int .u8 12,.int .u8 5,.int .u8 63,.int .u8 55,.int .u8 48,.int .u8 27,.int .u8 60,.int .u8 41,.int .u8 37,.int .u8 16,.int .u8 46,.int .u8 35,.int .u8 44,.int .u8 21,.int .u8 52,.int .u8 32,.int .u8 23,.int .u8 11,.int .u8 54,.int .u8 26,.int .u8 40,.int .u8 15,.int .u8 34,.int .u8 20,.int .u8 31,.int .u8 10,.int .u8 25,.int .u8 14,.int .u8 19,.int .u8 9,.int .u8 13,.int .u8 8,.int .u8 7,.int .u8 6])
 {w0 with heap:=h6}
def M9(os:Os)(W:World)(h:DB os W)(args:Array Value):laidMet Tryz.prog Rows.writesUptoRow.laid (W.forCall (λ_ _=>0) ⟨#[],args,[]⟩).memory:=by
 unfold DB at h;subst h;exact laidMet_of_run' 8 (by kernel_rfl) (by kernel_rfl)
def Tryz.eb:Tryz.prog.cellsOf 34=5:=by kernel_rfl
def Tryz.eZ:Tryz.prog.cellsOf 23=4:=by kernel_rfl
def Ma{W:World}(h:laidMetH Tryz.prog Rows.writesUptoRow.laid W):Env W.heap.size W:=by
 have X:=A0d h;have E:=A0e h;obtain⟨⟨L,d,I⟩,Y,z,O⟩:=E;exact⟨X,⟨⟨L,d,I⟩,Y,z,O⟩,Gz W _ d,Gz W _ z⟩
def A2x{H:Type}(l:List (DataW H)):l.length<=Rows.uptoBulkAll l:=by
 induction l with
 | nil=>simp
 | cons x r ih=>
  have:1<=Rows.uptoBulk x:=by
   cases x with
   | lit l=>cases l<;>simp[Rows.uptoBulk]
   | nil=>simp[Rows.uptoBulk]
   | ptr d=>simp[Rows.uptoBulk]
   | slice elems spare=>simp[Rows.uptoBulk]
   | agg parts=>simp[Rows.uptoBulk]
   | iface t d=>simp[Rows.uptoBulk]
   | map entries=>simp[Rows.uptoBulk]
   | held h=>simp[Rows.uptoBulk]
  simp only[Rows.uptoBulkAll,Cq];omega
section
variable {H:Type} {enc:TypeId×Value->H} {W:World} {sp:Nat->Bool} {aA:Nat}
def A2w(l:List (DataW H))(h:∀x∈l,6<=Rows.uptoBulk x):l.length*6<=Rows.uptoBulkAll l:=by
 induction l with
 | nil=>simp
 | cons x r ih=>
  have h1:=h x (BQ ..);have h2:=ih λy d=>h y (BW _ d);simp only[Rows.uptoBulkAll,Cq];omega
end
def Tryz.fE:Tryz.prog.cellsOf 26=1:=by kernel_rfl
section
variable {H:Type} {enc:TypeId×Value->H} {W:World} {sp:Nat->Bool} {aA:Nat}
def W0{c:Value}{x:DataW H×List MemPlace}(h:DataW.trod enc Tryz.prog W 0 sp true aA 26 [c]=some x):Eo W.heap.size W c:=by
 rcases Deep.open_slice underlying26 h with⟨I,-⟩|⟨a,len,cap,m,n,E,Pl,I,-,hlc,Y,hm,-,X⟩
 ·obtain rfl:c=.slice none 0 0:=(Hk I).1;exact Eo.bN _ _ ⟨none,0,rfl,by simp,λj O=>by simp at O⟩
 ·obtain rfl:c=.slice (some a) len cap:=(Hk I).1;rw[Tryz.dD]at X;by_cases h0:len=0
  ·subst h0;exact⟨[],⟨some a,cap,rfl,by simp,λj O=>by simp at O⟩,by simp,λad n c x hn e _=>absurd (by cases e;rfl) hn⟩
  ·have key:∀i,i<len->∃k,W.cell? (a.add (i*1))=some (.int .i64 k)/\Ax k:=λi L=>by
    obtain⟨aB,hc,ht⟩:=X i (by rw[hm];split<;>omega);obtain⟨k,e1,-,w1⟩:=IF underlying3 ht;obtain⟨hl,-,z⟩:=World.cells?_some hc;obtain rfl:aB=[.int .i64 k]:=e1;have:=z 0 (by decide);exact⟨k,by simpa[Addr.add] using this,Jm w1⟩
   obtain⟨g,o,spot⟩:=a;obtain⟨k0,d,-⟩:=key 0 (by omega);have aD:spot=none:=by
    cases spot with
    | none=>rfl
    | some s=>
     simp[Addr.add,World.cell?]at d;split at d<;>cases d
   subst aD;have hg:g<W.heap.size:=by
    have:=Gz W _ d;simpa[Addr.add] using this
   have ha:∀i,(⟨g,o,none⟩:Addr).add (i*1)=⟨g,o+i,none⟩:=λi=>by
    unfold Addr.add;by_cases h1:i=0<;>simp[h1]
   obtain⟨f,hf⟩:∃f:Nat->Int,∀i,i<len->W.cell? ⟨g,o+i,none⟩=some (.int .i64 (f i))/\Ax (f i):=by
    refine⟨λi=>if L:i<len then (key i L).choose else 0,λi L=>?_⟩;have h2:=(key i L).choose_spec;simp only[L,OO];exact⟨by rw[<-ha];exact h2.1,h2.2⟩
   (have hl:((List.range len).map f).length=len:=by simp);refine⟨(List.range len).map f,⟨some ⟨g,o,none⟩,cap,by rw[hl],by rw[hl];unfold maxLen at Y;omega,λj O=>⟨g,o,rfl,hg,?_⟩⟩,λt ht=>?_,λad n c x _ e1 e2=>by cases e1;cases e2;exact hg⟩
   ·rw[hl]at O;simpa using(hf j O).1
   ·obtain⟨i,L,rfl⟩:=CD.1 ht;exact(hf i (Lc.1 L)).2
def RV{cs:List Value}{x:DataW H×List MemPlace}(h:DataW.trod enc Tryz.prog W 0 sp true aA 34 cs=some x):
 ∃z a b c tv,cs=[.int .i64 z,.int .i64 a,.int .i64 b,.int .i64 c,tv]/\Ax a/\Ax b/\Ax c/\6<=Rows.uptoBulk x.1/\Eo W.heap.size W tv:=by
 obtain⟨xs,n,rfl,I,L,hx,E⟩:=DataW.trod_struct underlying34 h;rw[Tryz.eb]at L;have hx5:xs.length=5:=hx;have d:6<=Rows.uptoBulk x.1:=by
  have h5:=A2x (xs.map (·.1));rw[HD]at h5;rw[I];simp only[Rows.uptoBulk];omega
 match cs,L with
 | [c0,c1,c2,c3,c4],_=>
 have f0:DataW.trod enc Tryz.prog W 0 sp true n 3 (([c0,c1,c2,c3,c4].drop 0).take (Tryz.prog.cellsOf 3))=xs[0]?:=E 0 _ rfl;have f1:DataW.trod enc Tryz.prog W 0 sp true n 3 (([c0,c1,c2,c3,c4].drop 1).take (Tryz.prog.cellsOf 3))=xs[1]?:=E 1 _ rfl;have f2:DataW.trod enc Tryz.prog W 0 sp true n 3 (([c0,c1,c2,c3,c4].drop 2).take (Tryz.prog.cellsOf 3))=xs[2]?:=E 2 _ rfl;have f3:DataW.trod enc Tryz.prog W 0 sp true n 3 (([c0,c1,c2,c3,c4].drop 3).take (Tryz.prog.cellsOf 3))=xs[3]?:=E 3 _ rfl;have f4:DataW.trod enc Tryz.prog W 0 sp true n 26 (([c0,c1,c2,c3,c4].drop 4).take (Tryz.prog.cellsOf 26))=xs[4]?:=E 4 _ rfl;rw[Tryz.fE]at f4;rw[Tryz.dD]at f0 f1 f2 f3;rw[DQ (by omega)]at f0 f1 f2 f3 f4;obtain⟨z,O,-,-⟩:=IF underlying3 f0;obtain⟨a,e1,-,X⟩:=IF underlying3 f1;obtain⟨b,e2,-,w2⟩:=IF underlying3 f2;obtain⟨c,e3,-,Y⟩:=IF underlying3 f3;obtain rfl:c0=.int .i64 z:=(Hk (show [c0]=[.int .i64 z] from O)).1;obtain rfl:c1=.int .i64 a:=(Hk (show [c1]=[.int .i64 a] from e1)).1;obtain rfl:c2=.int .i64 b:=(Hk (show [c2]=[.int .i64 b] from e2)).1;obtain rfl:c3=.int .i64 c:=(Hk (show [c3]=[.int .i64 c] from e3)).1;exact⟨z,a,b,c,c4,rfl,Jm X,Jm w2,Jm Y,d,W0 f4⟩
def LD{cs:List Value}{x:DataW H×List MemPlace}(h:DataW.trod enc Tryz.prog W 0 sp true aA 23 cs=some x):
 ∃life z room A7,cs=[.int .i64 life,.int .i64 z,.int .i64 room,.int .i64 A7]/\Ax A7/\Ax room:=by
 obtain⟨xs,n,rfl,-,I,Y,E⟩:=DataW.trod_struct underlying23 h;rw[Tryz.eZ]at I;have hx4:xs.length=4:=Y
 match cs,I with
 | [c0,c1,c2,c3],_=>
 have f0:DataW.trod enc Tryz.prog W 0 sp true n 3 (([c0,c1,c2,c3].drop 0).take (Tryz.prog.cellsOf 3))=xs[0]?:=E 0 _ rfl;have f1:DataW.trod enc Tryz.prog W 0 sp true n 3 (([c0,c1,c2,c3].drop 1).take (Tryz.prog.cellsOf 3))=xs[1]?:=E 1 _ rfl;have f2:DataW.trod enc Tryz.prog W 0 sp true n 3 (([c0,c1,c2,c3].drop 2).take (Tryz.prog.cellsOf 3))=xs[2]?:=E 2 _ rfl;have f3:DataW.trod enc Tryz.prog W 0 sp true n 3 (([c0,c1,c2,c3].drop 3).take (Tryz.prog.cellsOf 3))=xs[3]?:=E 3 _ rfl;rw[Tryz.dD]at f0 f1 f2 f3;rw[DQ (by omega)]at f0 f1 f2 f3;obtain⟨a,L,-,-⟩:=IF underlying3 f0;obtain⟨b,e1,-,w1⟩:=IF underlying3 f1;obtain⟨c,X,-,w2⟩:=IF underlying3 f2;obtain⟨d,e3,-,O⟩:=IF underlying3 f3;obtain rfl:c0=.int .i64 a:=(Hk (show [c0]=[.int .i64 a] from L)).1;obtain rfl:c1=.int .i64 b:=(Hk (show [c1]=[.int .i64 b] from e1)).1;obtain rfl:c2=.int .i64 c:=(Hk (show [c2]=[.int .i64 c] from X)).1;obtain rfl:c3=.int .i64 d:=(Hk (show [c3]=[.int .i64 d] from e3)).1;exact⟨a,b,c,d,rfl,Jm O,Jm w2⟩
def LG{v:Value}{d:DataW H}{ps:List MemPlace}(hv:∃a len cap,v=.slice a len cap)(h:DataW.Trod enc Tryz.prog W 0 (λ_=>true) true 24 v d ps)(hd:Rows.uptoBulk d<=1048576):
 ∃g o n cap,JV W g o n/\n<=180000/\(n≠0->g<W.heap.size)/\(v=.slice (some ⟨g,o,none⟩) n cap\/(n=0/\∃x,v=.slice x 0 cap)):=by
 obtain⟨ad,X,cp,rfl⟩:=hv;obtain⟨aA,h⟩:=h;rcases Deep.open_slice underlying24 h with⟨L,-⟩|⟨a,len,cap,m,n,E,Pl,L,-,hlc,-,hm,hx,aB⟩
 ·simp[Value.cells]at L;obtain⟨rfl,rfl,rfl⟩:=L;exact⟨0,0,0,0,λi O=>absurd O (JX _),by decide,λh=>absurd rfl h,.inr ⟨rfl,none,rfl⟩⟩
 ·simp[Value.cells]at L;obtain⟨rfl,rfl,rfl⟩:=L;rw[Tryz.eb]at aB;have aE:X<=180000:=by
   have e:d=.slice ((List.range X).map E) ((List.range (m-X)).map λj=>E (X+j)):=Eu Prod.fst hx;rw[e]at hd;simp only[Rows.uptoBulk]at hd;have:=A2w ((List.range X).map E) λx hx=>by
    obtain⟨i,O,rfl⟩:=CD.1 hx;have hi':=Lc.1 O;obtain⟨aD,hc,ht⟩:=aB i (by rw[hm];split<;>omega);obtain⟨_,_,_,_,_,-,-,-,-,h6,-⟩:=RV ht;exact h6
   simp only[HD,A3K]at this;omega
  by_cases h0:X=0
  ·subst h0;exact⟨0,0,0,cp,λi O=>absurd O (JX _),by decide,λh=>absurd rfl h,.inr ⟨rfl,some a,rfl⟩⟩
  ·have key:∀i,i<X->∃kd x y z tv,Ax x/\Ax y/\Ax z/\W.cell? ((a.add (i*5)).add 0)=some (.int .i64 kd)/\W.cell? ((a.add (i*5)).add 1)=some (.int .i64 x)/\W.cell? ((a.add (i*5)).add 2)=some (.int .i64 y)/\W.cell? ((a.add (i*5)).add 3)=some (.int .i64 z)/\W.cell? ((a.add (i*5)).add 4)=some tv/\Eo W.heap.size W tv:=λi O=>by
    obtain⟨aD,hc,ht⟩:=aB i (by rw[hm];split<;>omega);obtain⟨-,-,I⟩:=World.cells?_some hc;obtain⟨kd,x,y,z,tv,rfl,ix,iy,iz,-,Y⟩:=RV ht;exact⟨kd,x,y,z,tv,ix,iy,iz,I 0 (by decide),I 1 (by decide),I 2 (by decide),I 3 (by decide),I 4 (by decide),Y⟩
   obtain⟨g,o,spot⟩:=a;obtain⟨kd,_,_,_,_,-,-,-,k0,-⟩:=key 0 (by omega);have aF:spot=none:=by
    cases spot with
    | none=>rfl
    | some s=>
     simp[Addr.add,World.cell?]at k0;split at k0<;>cases k0
   subst aF;have hg:g<W.heap.size:=by
    have:=Gz W _ k0;simpa[Addr.add] using this
   refine⟨g,o,X,cp,λi O=>?_,aE,λ_=>hg,.inl rfl⟩;obtain⟨kd,x,y,z,tv,ix,iy,iz,s0,s1,s2,s3,s4,Y⟩:=key i O;have ha:∀j,((⟨g,o,none⟩:Addr).add (i*5)).add j=⟨g,o+i*5+j,none⟩:=λj=>by
    unfold Addr.add;by_cases h1:i*5=0<;>by_cases h2:j=0<;>simp[h1,h2]
   rw[ha]at s0 s1 s2 s3 s4;exact⟨kd,x,y,z,tv,ix,iy,iz,s0,s1,s2,s3,s4,Y⟩
end
end
end Go.Proofs.YtodcnkbblippnaaGreatDoor
