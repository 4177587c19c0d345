/- Part 49 of a proof: walks of the program. -/
import Derived.Test.YtodcnkbblippnabGreatDoorPart45
import Derived.Test.YtodcnkbblippnabGreatDoorPart48
namespace Go.Proofs.YtodcnkbblippnabGreatDoor
set_option maxRecDepth 100000
set_option maxHeartbeats 32000000
set_option linter.defProp false
open Go.Proofs.Tryz
section
open Go.RowKit
attribute [local go_sem ↓] Cz
section
variable{α:Type}{lt:α->α->Bool}
def Gi(lt:α->α->Bool)(a b:Nat)(l l':List α):Prop:=l'.length=l.length/\B3 lt ((l'.drop a).take (b-a))/\∀p q,p+q<=a\/b<=p->(l'.drop p).take q=(l.drop p).take q
def Sw{A M M' Z:List α}(h:M'.length=M.length)(z:B3 lt M'):Gi lt A.length (A.length+M.length) (A++M++Z) (A++M'++Z):=by
 refine⟨by simp[h],?_,λp q hp=>?_⟩
 ·rw[A1i rfl (by omega) (λhx=>by omega)];exact z
 ·exact(A1h h p q (by omega))
def EB.a8{l l':List α}{C j b:Nat}(h:EB lt C (λi=>i<j) l)(H:Gi lt (j*C) b l l')(O:b=j*C+C\/(b=l.length/\l.length<=j*C+C))(hj:j*C<=l.length):EB lt C (λi=>i<j+1) l':=λi z=>by
 rcases Nat.lt_or_eq_of_le (A2K z) with z|rfl
 ·rw[H.2.2 _ _ (.inl ?_)]
  ·exact h i z
  ·have:=HM C (show i+1<=j from z);rw[Hq]at this;omega
 ·have I:=H.2.1;rcases O with rfl|⟨rfl,O⟩
  ·rwa [A2N]at I
  ·have e:(l'.drop (i*C)).take C=(l'.drop (i*C)).take (l.length-i*C):=by
    rw[Ez (by rw[CM,H.1];omega),Ez (by rw[CM,H.1];omega)]
   rw[e];exact I
def EB.cy{l l':List α}{B a b j:Nat}(h:EB lt B (λi=>j<=i) l)(I:Gi lt a b l l')(H:b<=j*B):EB lt B (λi=>j<=i) l':=λi z=>by
 rw[I.2.2 _ _ (.inr (AH H (HM B z)))];exact h i z
def EB.dy{l:List α}{C j:Nat}(h:EB lt C (λi=>i<j) l)(H:l.length<=j*C):EB lt C (λ_=>True) l:=λi _=>by
 rcases F6 i j with z|z
 ·exact h i z
 ·rw[MW (AH H (HM C z)),List.take_nil];exact List.Pairwise.nil
def Gi.az{l:List α}{a b:Nat}(h:B3 lt ((l.drop a).take (b-a))):Gi lt a b l l:=⟨rfl,h,λ_ _ _=>rfl⟩
def KZ{l:List α}{a q r:Nat}(h:B3 lt ((l.drop a).take q))(z:r<=q):B3 lt ((l.drop a).take r):=by
 have:=h.b1 r
 rwa [K4,MN z]at this
end
def WQ{n B C:Nat}(hn:n<=4294967296)(hB:B<=n)(hC:2*B=C):
 wrap64 (2*(B:Int))=(C:Int)/\IntKind.i64.wrap (2*(B:Int))=(C:Int)/\wrap64 ((B:Int)*2)=(C:Int)/\IntKind.i64.wrap ((B:Int)*2)=(C:Int):=by
 have h:=Gq (x:=2*(B:Int)) (k:=C) (by omega) (by omega);have z:=Gq (x:=(B:Int)*2) (k:=C) (by omega) (by omega);exact⟨h.1,h.2,z.1,z.2⟩
def Zd{n b c:Nat}(h:b<=n)(hc:b+20=c):n+21-(intOf (A0 (c:Int))).toNat<n+21-(intOf (A0 (b:Int))).toNat:=by simp[intOf];omega
def Zc{n b c C:Nat}(h:b<=n)(hC:20<=C)(hc:b+C=c):n+C+1-(intOf (A0 (c:Int))).toNat<n+C+1-(intOf (A0 (b:Int))).toNat:=by simp[intOf];omega
def SR{n B C:Nat}(h:B<n)(hB:20<=B)(hC:2*B=C):n-(intOf (A0 (C:Int))).toNat<n-(intOf (A0 (B:Int))).toNat:=by simp[intOf];omega
def A13(a:Nat){B:Nat}(h:20<=B):a<a+B/\a+B<a+2*B/\a+B-a<=B/\a+2*B-(a+B)<=B/\20<=2*B:=by omega
def A01{a B n:Nat}(h:¬a+2*B<=n):n<=a+2*B/\n-(a+B)<=B/\(¬a+B<n->n-a<=B):=by omega
section
variable{w w':World}{g cap n wb:Nat}{len:Int}{l:List Pu}
def Way(g cap n:Nat)(len:Int)(l:List Pu)(w z:World)(h:List Pu):Prop:=z.ownsRow 0 90 3 (.slice (some ⟨g,0,none⟩) n cap) n (Ba h)/\h.length=n/\Bg (AE len) l h/\A5 (One g) w z
def VD(hT:∀p∈l,AY p.2.1)(hl:1<=len/\len<=4611686018427387904)(hw:Aa w wb 0 (A0 len))(W:wb≠g)(X:n<=4294967296)(wx:World)(z:List Pu)(a b:Nat)(O:a<b)(hb:b<=n)(h:Way g cap n len l w wx z):
 Aj 193 #[AN g n cap,A0 a,A0 b,.func (Fn.func 103) #[] #[A7 wb]] wx (Au (.tuple #[]) λw'=>∃I,Way g cap n len l w w' I/\Gi (AE len) a b z I):=by
 obtain⟨h1,h2,h3,h4⟩:=h;subst h2;refine(To wx g cap wb len z a b O hb h1 (λp hp=>hT p (h3.bA.DP (FY len) hp)) hl (h4.bB hw λe=>W e) W X).k ?_;rintro w'⟨m,q1,q2,q3,q4,q5⟩;have hM:((z.drop a).take (b-a)).length=b-a:=by rw[BU,CM];omega
 have aA:(z.take a).length=a:=by rw[BU];omega
 have Y:z=z.take a++(z.drop a).take (b-a)++z.drop b:=by
  have:=QA z (ES O) (Aq b);simpa using this
 have hN:=Sw (lt:=AE len) (A:=z.take a) (Z:=z.drop b) (q2.trans hM.symm) q4;rw[<-Y,aA,hM,show a+(b-a)=b by omega]at hN;have H:=hN.1;refine⟨rfl,z.take a++m++z.drop b,⟨?_,H,?_,h4.tr q5⟩,hN⟩
 ·unfold AZ at q1;rw[H]at q1;exact q1
 ·refine h3.AJ ?_;have e:(z.take b).drop a=(z.drop a).take (b-a):=List.drop_take ..;rw[e]at q3;have:=((Bg.C (lt:=AE len) (z.take a)).al q3).al (Bg.C (z.drop b))
  rwa [<-Y]at this
def VC(hT:∀p∈l,AY p.2.1)(hl:1<=len/\len<=4611686018427387904)(hw:Aa w wb 0 (A0 len))(W:wb≠g)(Y:n<=4294967296)(wx:World)(z:List Pu)(a m b:Nat)(aD:a<m)(aF:m<b)(hb:b<=n)(h:Way g cap n len l w wx z)(s1:B3 (AE len) ((z.drop a).take (m-a)))(s2:B3 (AE len) ((z.drop m).take (b-m))):
 Aj 194 #[AN g n cap,A0 a,A0 m,A0 b,.func (Fn.func 103) #[] #[A7 wb]] wx (Au (.tuple #[]) λw'=>∃H,Way g cap n len l w w' H/\Gi (AE len) a b z H):=by
 obtain⟨h1,h2,h3,h4⟩:=h;have aA:=QA z (ES aD) (ES aF);have lA:(z.take a).length=a:=by rw[BU];omega
 have I:((z.drop a).take (m-a)).length=m-a:=by rw[BU,CM];omega
 have O:((z.drop m).take (b-m)).length=b-m:=by rw[BU,CM];omega
 obtain⟨A,hA⟩:∃A,z.take a=A:=⟨_,rfl⟩;obtain⟨U,hU⟩:∃U,(z.drop a).take (m-a)=U:=⟨_,rfl⟩;obtain⟨V,hV⟩:∃V,(z.drop m).take (b-m)=V:=⟨_,rfl⟩;obtain⟨Z,hZ⟩:∃Z,z.drop b=Z:=⟨_,rfl⟩;rw[hA,hU,hV,hZ]at aA;rw[hA]at lA;rw[hU]at I s1;rw[hV]at O s2;subst aA;have aE:U≠[]:=λe=>by rw[e]at I;simp at I;omega
 have aB:V≠[]:=λe=>by rw[e]at O;simp at O;omega
 have:=Qo _ wx g cap n wb len A U V Z (Aq _) aE aB h2.symm h1 (λp X=>hT p (h3.bA.DP (FY len) (by simp at X ⊢;rcases X with X|X<;>simp[X]))) s1 s2 hl (h4.bB hw λe=>W e) W Y;rw[lA,I,O,show a+(m-a)=m by omega,show m+(b-m)=b by omega]at this;refine this.k ?_;rintro w'⟨M,q1,q2,q3,q4,q5⟩;have hN:=Sw (lt:=AE len) (A:=A) (M:=U++V) (M':=M) (Z:=Z) (by rw[AX,I,O];exact q2) q3;have ee:A++(U++V)++Z=A++U++V++Z:=by simp
 rw[ee,lA,AX,I,O,show a+(m-a+(b-m))=b by omega]at hN;refine⟨rfl,A++M++Z,⟨q1,hN.1.trans h2,h3.AJ ?_,h4.tr q5⟩,hN⟩;have:=((Bg.C (lt:=AE len) A).al q4).al (Bg.C Z)
 rwa [ee]at this
def WO(w:World)(g cap wb:Nat)(len:Int)(l:List Pu)(aA:l.length<=4294967296)(h:AZ w (AN g l.length cap) l)(hT:∀p∈l,AY p.2.1)(hl:1<=len/\len<=4611686018427387904)(hw:Aa w wb 0 (A0 len))(aN:wb≠g):
 Aj 146 #[AN g l.length cap,A0 l.length,.func (Fn.func 103) #[] #[A7 wb]] w (Au (.tuple #[]) λw'=>AZ w' (AN g l.length cap) (E8 (AE len) l)/\A5 (One g) w w'):=by
 obtain⟨n,hn⟩:∃n,l.length=n:=⟨_,rfl⟩;have h0:Hid (Way g cap n len l w w l):=by unfold AZ at h;rw[hn]at h;exact⟨h,hn,Bg.C _,A5.C _ _⟩
 rw[hn]at aA ⊢;have aT:Hid (∀wx H a b,a<b->b<=n->Way g cap n len l w wx H->_):=λwx H a b q1 q2 q3=>VD hT hl hw aN aA wx H a b q1 q2 q3;have aM:Hid (∀wx H a m b,a<m->m<b->b<=n->Way g cap n len l w wx H->_->_->_):=λwx H a m b q1 q2 q3 q4 q5 q6=>VC hT hl hw aN aA wx H a m b q1 q2 q3 q4 q5 q6;have aW:Hid (∀wx,Aj 193 #[AN g n cap,A0 n,A0 n,.func (Fn.func 103) #[] #[A7 wb]] wx (Au (.tuple #[]) λw'=>wx=w')):=λwx=>Tn wx _ _ n n (by omega) (by omega);have a6:Hid (∀B C,B<=n->2*B=C->_):=λB C q1 q2=>WQ (B:=B) (C:=C) aA q1 q2;have a8:Hid (∀a b c m B C:Nat,a<=n->B<=n->2*B=C->a+C=b->b+C=c->a+B=m->(wrap64 ((a:Int)+(B:Int))=(m:Int)/\IntKind.i64.wrap ((a:Int)+(B:Int))=(m:Int))/\(wrap64 ((b:Int)+(C:Int))=(c:Int)/\IntKind.i64.wrap ((b:Int)+(C:Int))=(c:Int))):=λa b c m B C q1 q2 q3 q4 q5 q6=>⟨Gq (by omega) (by omega),Gq (by omega) (by omega)⟩
 have a5:Hid (∀a b c:Nat,a<=n->a+20=b->b+20=c->wrap64 ((b:Int)+20)=(c:Int)/\IntKind.i64.wrap ((b:Int)+20)=(c:Int)):=λa b c X hb hc=>Gq (by omega) (by omega);have aZ:Hid (∀w' H,Way g cap n len l w w' H->B3 (AE len) H->AZ w' (AN g n cap) (E8 (AE len) l)/\A5 (One g) w w'):=λw' H q1 q2=>by
  obtain⟨a1,a2,a3,a4⟩:=q1;have e1:=(FY len).ek q2 a3;refine⟨?_,a4⟩;unfold AZ;rw[<-e1,a2];exact a1
 go_enter func146,ntmps146
 go_wp2;go_loopw [7,8] (λav bv wr=>∃(j:Nat) (H:List Pu),av=A0 ((j*20:Nat):Int)/\bv=A0 ((j*20+20:Nat):Int)/\Hid (j*20<=n/\Way g cap n len l w wr H/\EB (AE len) 20 (λi=>i<j) H)) (λ_ bv _=>n+21-(intOf bv).toNat)
 ·exact⟨0,l,by go_num,by go_num,C8 _,h0.o,λi hi=>absurd hi (Pb i)⟩
 ·obtain⟨j,H,rfl,rfl,hI⟩:=hrel;have⟨i1,i2,i3⟩:=hI.o;obtain⟨a,X⟩:∃a,j*20=a:=⟨_,rfl⟩;obtain⟨b,hb⟩:∃b,a+20=b:=⟨_,rfl⟩;obtain⟨c,hc⟩:∃c,b+20=c:=⟨_,rfl⟩;have aB:(j+1)*20=b:=by rw[Hq,X];exact hb
  have aE:=A4 (And.intro X (And.intro aB hc));rw[X]at i1 ⊢;rw[hb];have⟨z1,z2⟩:=a5.o a b c i1 hb hc;have I:=i2.2.1;by_cases O:b<=n
  ·have aJ:=Py.2 O;have a0:=A4 (aT.o wr H a b (by rw[<-hb];exact Nat.lt_add_of_pos_right (by decide)) O i2);have K:Hid (∀z,Gi (AE len) a b H z->EB (AE len) 20 (λi=>i<j+1) z):=λz Y=>i3.a8 (by rw[X];exact Y) (.inl (by rw[X];exact hb.symm)) (by rw[X,I];exact i1);have aS:=A4 O;go_wp2_with (go_at_call 193;refine a0.k ?_;rintro w2⟨z,hW,Y⟩;have aH:=A4 hW;have W:=A4 (K.o z Y));go_roundw
   ·exact⟨j+1,z,by rw[aE.o.2.1],by rw[aE.o.2.1,aE.o.2.2],by rw[aE.o.2.1];exact aS.o,aH.o,W.o⟩
   ·exact Zd aS.o aE.o.2.2
  ·have aJ:¬((b:Int)<=(n:Int)):=λh=>O (Py.1 h);have K:Hid (∀z,Gi (AE len) a n H z->EB (AE len) 20 (λ_=>True) z):=λz Y=>(i3.a8 (by rw[X];exact Y) (.inr ⟨I.symm,by rw[X,I];rw[hb];exact ES (Nat.lt_of_not_le O)⟩) (by rw[X,I];exact i1)).dy (by rw[Y.1,aB,I];exact ES (Nat.lt_of_not_le O))
   have a0:Hid (Aj 193 #[AN g n cap,A0 a,A0 n,.func (Fn.func 103) #[] #[A7 wb]] wr (Au (.tuple #[]) λw'=>∃z,Way g cap n len l w w' z/\Gi (AE len) a n H z)):=by
    by_cases aL:a<n
    ·exact aT.o wr H a n aL (Aq _) i2
    ·obtain rfl:a=n:=K1 i1 (Iu aL);refine(aW.o wr).k ?_;rintro w' rfl;exact⟨rfl,H,i2,Gi.az (by rw[UU,EL];exact List.Pairwise.nil)⟩
   go_wp2_with (go_at_call 193;refine a0.k ?_;rintro w2⟨z,hW,Y⟩;have aH:=A4 hW;have W:=A4 (K.o z Y));go_loopw [6] (λbv wr=>∃(B:Nat) (H:List Pu),bv=A0 (B:Int)/\Hid (20<=B/\Way g cap n len l w wr H/\EB (AE len) B (λ_=>True) H)) (λbv _=>n-(intOf bv).toNat)
   ·exact⟨20,z,by go_num,Aq _,aH.o,W.o⟩
   ·obtain⟨B,aI,rfl,hI⟩:=hrel;have⟨i1,i2,i3⟩:=hI.o;by_cases aF:B<n
    ·have aV:=EW.2 aF;obtain⟨C,hC⟩:∃C,2*B=C:=⟨_,rfl⟩;have⟨z1,z2,z3,z4⟩:=a6.o B C (ES aF) hC;have aO:=A4 (And.intro i1 (And.intro i2 i3));have aK:=A4 aF;have a7:=A4 hC;generalize wr=w3 at aO ⊢;go_wp2;go_loopw [7,8] (λav bv wr=>∃(j:Nat) (H:List Pu),av=A0 ((j*C:Nat):Int)/\bv=A0 ((j*C+C:Nat):Int)/\Hid (j*C<=n/\Way g cap n len l w wr H/\EB (AE len) C (λi=>i<j) H/\EB (AE len) B (λi=>2*j<=i) H)) (λ_ bv _=>n+C+1-(intOf bv).toNat)
     ·exact⟨0,aI,by simp,by simp,by simp,aO.o.2.1,λi hi=>absurd hi (Pb i),λi _=>aO.o.2.2 i trivial⟩
     ·obtain⟨j,H,rfl,rfl,hI⟩:=hrel;have⟨i1,i2,i3,i4⟩:=hI.o;obtain⟨a,X⟩:∃a,j*C=a:=⟨_,rfl⟩;obtain⟨b,hb⟩:∃b,a+C=b:=⟨_,rfl⟩;obtain⟨c,hc⟩:∃c,b+C=c:=⟨_,rfl⟩;obtain⟨m,aG⟩:∃m,a+B=m:=⟨_,rfl⟩;have hC:=a7.o;(have aB:(j+1)*C=b:=by rw[Hq,X,UW];exact hb);(have aQ:2*j*B=a:=by rw[<-X,<-hC,Lb 2 j,Pe]);(have aR:(2*j+1)*B=m:=by rw[Hq,aQ,UW];exact aG);(have aP:2*(j+1)*B=b:=by rw[<-aB,<-hC,Lb 2 (j+1),Pe]);rw[X]at i1 ⊢;rw[hb];have⟨⟨y1,y2⟩,y3,y4⟩:=a8.o a b c m B C i1 (ES aK.o) hC hb hc aG;have s1:=i4 (2*j) (Aq _);have s2:=i4 (2*j+1) (It _);rw[aQ]at s1;rw[aR]at s2;have I:=i2.2.1;have⟨k1,k2,k3,k4,k5⟩:=A13 a aO.o.1;rw[aG]at k1 k2 k3 k4;rw[hC]at k2 k4 k5;rw[hb]at k2 k4;have aE:=A4 (And.intro aB (And.intro hc k5));by_cases O:b<=n
      ·have aJ:=Py.2 O;have aU:=A4 (aM.o wr H a m b k1 k2 O i2 (KZ s1 k3) (KZ s2 k4));have K:Hid (∀z,Gi (AE len) a b H z->EB (AE len) C (λi=>i<j+1) z/\EB (AE len) B (λi=>2*(j+1)<=i) z):=λz Y=>
        ⟨i3.a8 (by rw[X];exact Y) (.inl (by rw[X];exact hb.symm)) (by rw[X,I];exact i1),EB.cy (λi hi=>i4 i (AH (Nat.mul_le_mul_left 2 (It j)) hi)) Y (by rw[aP];exact Aq _)⟩
       have aS:=A4 O;go_wp2_with (go_at_call 194;refine aU.k ?_;rintro w4⟨z,hW,Y⟩;have aH:=A4 hW;have W:=A4 (K.o z Y));go_roundw
       ·exact⟨j+1,z,by rw[aE.o.1],by rw[aE.o.1,aE.o.2.1],by rw[aE.o.1];exact aS.o,aH.o,W.o.1,W.o.2⟩
       ·exact Zc aS.o aE.o.2.2 aE.o.2.1
      ·have aJ:¬((b:Int)<=(n:Int)):=λh=>O (Py.1 h);have⟨e1,e2,e3⟩:=A01 (a:=a) (B:=B) (n:=n) (by rw[hC,hb];exact O);rw[hC,hb]at e1;rw[aG]at e2 e3;have K:Hid (∀z,Gi (AE len) a n H z->EB (AE len) C (λ_=>True) z):=λz Y=>(i3.a8 (by rw[X];exact Y) (.inr ⟨I.symm,by rw[X,I,hb];exact e1⟩) (by rw[X,I];exact i1)).dy (by rw[Y.1,aB,I];exact e1)
       have aD:=A4 (And.intro k5 (And.intro hC aO.o.1));by_cases hm:m<n
       ·have aY:=EW.2 hm;have aU:=A4 (aM.o wr H a m n k1 hm (Aq _) i2 (KZ s1 k3) (KZ s2 e2));go_wp2_with (go_at_call 194;refine aU.k ?_;rintro w4⟨z,hW,Y⟩;have aH:=A4 hW;have W:=A4 (K.o z Y));go_roundw
        ·exact⟨C,z,rfl,aD.o.1,aH.o,W.o⟩
        ·exact SR aK.o aD.o.2.2 aD.o.2.1
       ·have aY:¬((m:Int)<(n:Int)):=λh=>hm (EW.1 h);have W:=A4 (K.o H (Gi.az (KZ s1 (e3 hm))));have aH:=A4 i2;go_wp2;go_roundw
        ·exact⟨C,H,rfl,aD.o.1,aH.o,W.o⟩
        ·exact SR aK.o aD.o.2.2 aD.o.2.1
    ·have aV:¬((B:Int)<(n:Int)):=λh=>aF (EW.1 h);have aX:=A4 (aZ.o wr aI i2 (i3.CK (by rw[i2.2.1];exact Iu aF)));go_wp2;go_end0;exact⟨rfl,aX.o⟩
end
def QC(N:Nat)(hN:N<=4294967296):FN N:=by
 intro w v wb len l hn h H O I z;have ST:Hid (Aj 146 #[v,A0 l.length,.func (Fn.func 103) #[] #[A7 wb]] w (Au (.tuple #[]) λw'=>AZ w' v (E8 (AE len) l)/\A5 (λk=>v.oB k) w w')):=by
  by_cases X:l.length<=19
  ·exact WR w v wb len l X h H O I z
  ·obtain⟨av,cap,rfl,h1,W,h3,-,-⟩:=Bb h;obtain⟨g,rfl⟩:=h3 (by omega);refine(WO w g cap wb len l (by omega) h H O I (z g rfl)).k ?_;rintro w'⟨q1,q2⟩;exact⟨rfl,q1,q2.ae λk _ Y=>by have e:=Y;subst e;rfl⟩
 obtain⟨av,cap,rfl,h1,W,-⟩:=Bb h
 go_enter func102,ntmps102
 go_wp2_with (go_at_call 146;refine ST.k ?_;rintro w2⟨hp,hc⟩;have aB:=A4 hp;have aA:=A4 hc);go_end0;exact⟨rfl,aB.o,aA.o⟩
end
section
open Go.RowKit
def Iz(P:PD)(t:Nat):Prop:=P.D.n.B1=1152921504606846976/\0<=P.D.n.Bw/\P.D.n.Bw<=10000000*((t:Int)+1)
def Still(P:PD):Prop:=P.D.n.CP=0/\P.D.n.Dn=0
def Rest(t:Nat)(P:PD)(puts:List Pu)(Ag:Nat)(o:Int):Prop:=PB P t/\DI (Db t) P puts Ag o/\(∀p∈puts,B8 p)/\puts.length<=t/\Ag<=puts.length
def PM(t:Nat)(A:Ar)(P:PD)(puts:List Pu)(Ag:Nat)(o:Int)(ro:Bool):Prop:=Rest t P puts Ag o/\(P.D.n.Bf=false->St t A P puts Ag o ro)
section
variable{t N:Nat}{A:Ar}{P:PD}{puts:List Pu}{Ag:Nat}{o:Int}{ro:Bool}
def St.cy(h:St t A P puts Ag o ro):Rest t P puts Ag o:=⟨h.pb,h.di,h.pu,h.Bi,h.le⟩
def St.eI(h:St t A P puts Ag o ro):PM t A P puts Ag o ro:=⟨h.cy,λ_=>h⟩
def Hw.cy{z:Bool}(h:Hw t P puts Ag o z):Rest t P puts Ag o:=⟨h.1,h.2.1,h.2.2.1,h.2.2.2.1,h.2.2.2.2.1⟩
def Iz.aW(h:Iz P t)(H:Int)(z:List Int):Iz (P.aW H z) t/\Still (P.aW H z):=⟨h,rfl,rfl⟩
end

end
section
open Go.RowKit
attribute [local go_sem ↓] Go.wp_at_zero Go.wp_at_succ


end
section
open Go.RowKit
structure GH (P:PD) (a c m:Nat):Prop where
 BO:Fit P a c m
 a:a<=500000
 c:c<=10000000
 m:m<=3000000
 Kq:∀nm,P.bs nm≠none->nm.length<=1048576
section
variable{w w':World}{b sb ab B i T a c m:Nat}{P:PD}{A:Ar}{sg:List (Int×List Pu)}{pl:List Pu}{Ft FT:Nat->Prop}{Ak Ac:Int}
def Ng(h:Fit P a c m)(nm:Bs):P.sz nm<=m:=by
 have z:=JX h nm;rw[GR]at z;unfold PD.sz;cases hb:P.bs nm with
 | none=>simp
 | some x=>rw[hb]at z;exact z
def Qr{g:Bs->Nat}{m:Nat}(h:∀nm,g nm<=m):∀l:List Bs,(l.map g).sum<=l.length*m
 | []=>by simp
 | x::r=>by
  have:=h x;have:=Qr h r;simp only[F8,K6,BM];rw[Hq];omega
def GH.segs(h:GH P a c m){ix:Ix}(z:P.CV=some ix):ix.segs.length<=375000:=by
 have h1:=(Om z).2;have h2:=Ng h.BO AF;have:=h.m;omega
def GH.Al(h:GH P a c m)(first:Int):(Bv first P.Av).length<=500000:=by
 have z:=IS first P.Av
 rw[GL]at z;have:=h.BO.A6;have:=h.a;omega
def GH.puts(h:GH P a c m)(first:Int):(P.puts (Bv first P.Av)).1.length<=72000000000:=by
 have h1:=Ru h.BO (Bv first P.Av);have h2:(Bv first P.Av).length*m<=500000*3000000:=HN (h.Al first) h.m;omega
def GH.Bi(h:GH P a c m)(z:Ec P A sg pl):(sg.flatMap (·.2)++pl).length<=1000000000000:=by
 obtain⟨s1,-⟩:=No _ _ z.segs;have s2:=Qr (Ng h.BO) (A.ix.segs.map Aw);rw[H9]at s2;have s3:A.ix.segs.length*m<=375000*3000000:=HN (h.segs z.CV) h.m;have s4:=h.puts A.ix.AW;rw[<-z.Al,z.puts]at s4;rw[AX];dsimp only at s4;omega
def Qw(w:World)(hd:Bh w b P Ft)(H:∀k,Ft k->k<w.heap.size)(hE:Env B w)(z:GH P a c m)(hw:1<=Ak/\Ak<=4611686018427387904)(hc:AY Ac):
 Calls Tryz.prog 10 #[.pointer (some ⟨b,0,none⟩),.agg #[.int .i64 1000,.int .i64 Ak],.int .i64 Ac] w λe w'=>
  (Ar.aR P=.error 7/\e=.returned (.tuple #[.pointer none,.int .i64 7])/\A5 (λ_=>False) w w')\/
  (∃A sg pl ab sb,Ec P A sg pl/\e=.returned (.tuple #[.pointer (some ⟨sb,0,none⟩),.int .i64 0])/\Ax w Ft w' (λw' X=>SF w' sb ab b 0 1000 Ak Ac false (En (Bu Ac 1000) (sg.flatMap (·.2)++pl)) A P X)):=by
 have ha:=z.a;have hm:=z.m;have hcc:=z.c;refine(Sc w 1000 Ak Ac (by decide) hw hc H (P:=P) (Ft:=Ft) (b:=b) (λA' aA h=>?_) λw1 Y=>?_).mono ?_
 ·obtain⟨sg,pl,I,rfl⟩:=Sa h;have h2:=z.Bi I;exact⟨by omega,λp hp=>(I.ok p hp).1⟩
 ·have O:=hE.aP Y;refine Us w1 (B5.az hd H Y) (λk W=>Bm (H k W) Y.Am) z.BO ⟨by omega,by omega,by omega⟩ (AH (HN ha hm) (by decide)) O.1 O.2.1 (λnm hn=>?_) (λix hx=>?_) (λfirst=>?_)
  ·have:=z.Kq nm (EF.1 hn);omega
  ·have I:=z.segs hx;exact⟨by omega,AH (HN I hm) (by decide)⟩
  ·have:=z.puts first;omega
 ·rintro e w' (⟨n,q1,rfl,q2⟩|⟨A',aA,ab,sb,q1,rfl,-,q3⟩)
  ·have:=YK q1;subst this;exact .inl ⟨q1,rfl,q2⟩
  ·obtain⟨sg,pl,I,rfl⟩:=Sa q1;exact .inr ⟨A',sg,pl,ab,sb,I,rfl,q3⟩
def WG{L:Nat->List Pt}{z:List Pu}(w:World)(h:SF w sb ab b 0 1000 Ak Ac false L A P FT)(Y:L=En (Bu Ac 1000) z)(O:∀p∈z,B8 p)(hc:AY Ac)(k:Nat)(I:k<8)(t v:Int):
 Calls Tryz.prog 13 #[.pointer (some ⟨sb,0,none⟩),.int .i64 k,.int .i64 t,.int .i64 v] w λe w'=>e=.returned (.bool (decide (refQ z k t t 1000 Ac=[(t,v)])))/\A5 (λ_=>False) w w':=by
 obtain⟨lv,F0,q,-⟩:=h;refine A19 w _ k t v _ ((NA w k t t q.Ai q.FH I (by decide) hc).mono ?_);rintro e w'⟨x,rfl,W,H,-⟩;rw[Y,(Rg 1000 Ac z O).cG (λp X=>(O p X).2.1) I]at W;exact⟨x,rfl,W,H⟩
def Wy{L:Nat->List Pt}(w:World)(h:SF w sb ab b 0 1000 Ak Ac false L A P FT)(I:AY Ac)(k:Nat)(H:k<8)(t v:Int):
 Aj 16 #[A7 sb,A0 k,A0 t,A0 v] w λe w'=>∃x,e=.returned (.tuple #[x,A0 0])/\A5 Ab w w':=by
 obtain⟨lv,F0,q,-⟩:=h;refine(NA w k t v q.Ai q.FH H (by decide) I).mono ?_;rintro e w'⟨x,rfl,-,z,-⟩;exact⟨x,rfl,z⟩
end
end
section
open Go.ChangeAt Go.ChangeShapes Go.RowKit Go.WideShapes
def ZF{W:World}(h:laidMetH Tryz.prog Rows.frozenUptoRow.laid W):Env W.heap.size W:=by
 have hL:=ZD h;have I:=ZE h;obtain⟨⟨X,z,O⟩,e2,H,Y⟩:=I;exact⟨hL,⟨⟨X,z,O⟩,e2,H,Y⟩,H7 W _ z,H7 W _ H⟩
end
section
open Go.RowKit
section
variable{w w':World}{b sb ab B i T a c m:Nat}{P:PD}{A:Ar}{sg:List (Int×List Pu)}{pl:List Pu}{Ft FT:Nat->Prop}{Ak Ac oldest:Int}
def YH(h:Ec P A sg pl)(O:∀nm,P.bs nm=none):A=⟨⟨1,[]⟩,⟨[],0,0,none⟩,0,[]⟩:=by
 have hn:P.Av=[]:=List.eq_nil_iff_forall_not_mem.2 λnm hm=>EF.1 hm (O nm);obtain⟨ix,⟨Al,last,puts,own⟩,DY,loose⟩:=A;have W:=h.CV;rw[Tw (O _)]at W;obtain rfl:ix=⟨1,[]⟩:=(MJ W).symm;have z:=h.Al;have h3:=h.Eh;have H:=h.DY;have I:=h.OA;have h6:=h.Oc;have X:=h.AP;have Y:=h.puts;rw[hn]at z H I;dsimp only at z h3 H I h6 X Y;obtain rfl:Al=[]:=z;obtain rfl:loose=[]:=G4.1 (Nat.le_zero.1 I);have h9:pl=[]:=(E5 Prod.fst Y).symm;subst h9;subst X;rw[h3,H,h6];rfl
def WB(h:Ec P A sg pl)(hb:∀nm,P.bs nm=none)(hF:Fit P 0 0 T)(hc:Cm P 1000 1000)(hw:BX (AE Ak)){p:Pu}(hp:B8 p):Ar.aR ((A.I P p).2.2.1.aX (A.I P p).2.2.2 Ak oldest).2.2≠.error 7:=by
 have hA:=YH h hb;subst hA;obtain⟨-,-,W,O,Y⟩:=(Lay.ed hb).I (N:=900) (R:=1000) (hc.ae (by decide) (Aq _)) (λ_=>rfl) p hp (by decide);have z:=hF.dj (A:=⟨⟨1,[]⟩,⟨[],0,0,none⟩,0,[]⟩) p;generalize hX:(Ar.I ⟨⟨1,[]⟩,⟨[],0,0,none⟩,0,[]⟩ P p)=X at W O Y z ⊢;obtain⟨bo,cd,I,aD⟩:=X;dsimp only at W O Y z ⊢;have hl:(Cl [] [] (some ((none:Option (List Pu)).getD []++[p]))).length<=1:=by simp[Cl,Az]
 have aA:aD.Av.length<=2:=by rw[GL];have:=z.A6;omega
 have hj:I.j.Al.length<=2:=by rw[O.AP.2.1];simp
 have hjl:I.j.A8<=4611686018427387904-10/\0<=I.j.A8:=by
  have H:=UF ⟨⟨1,[]⟩,⟨[],0,0,none⟩,0,[]⟩ P p;rw[hX]at H;dsimp only at H;omega
 have aB:I.A8=0:=by
  have H:=(UF ⟨⟨1,[]⟩,⟨[],0,0,none⟩,0,[]⟩ P p).1;rw[hX]at H;exact H
 obtain⟨-,c2,sg',last,-,-,c5,-,-,-⟩:=O.aX hw (K:=2) (n:=1) (N:=800) (R:=500) (oldest:=oldest) hl (by decide) aA (by simp) hj (by rw[Y];simp) (W.ae (by decide) (by decide)) (by unfold isNum;simp;omega) (by rw[aB];decide);obtain⟨A',e,-⟩:=c5.aR c2 (by simp[Az]);rw[e];simp
def Wz(w:World)(z:Ec P A sg pl)(H:G2 P i T)(hi:i<=399000)(hT:T<=1048576)(h:SF w sb ab b 0 1000 Ak Ac false (En (Bu Ac 1000) (sg.flatMap (·.2)++pl)) A P FT)(X:∀k,FT k->k<w.heap.size)(p:Pu)(hp:B8 p)(hL:Lets B w)(Y:∀k,FT k->B<=k)(hc:AY Ac):
 Calls Tryz.prog 12 #[.pointer (some ⟨sb,0,none⟩),.int .i64 p.1,.int .i64 p.2.1,.int .i64 p.2.2] w λe w'=>e=.returned (.int .i64 0)/\
  Ax w FT w' (λw' I=>SF w' sb ab b 0 1000 Ak Ac false (En (Bu Ac 1000) (sg.flatMap (·.2)++pl++[p])) (A.I P p).2.2.1 (A.I P p).2.2.2 I):=by
 have hN:=z.bk;have hsz:=z.Am H.cm;have hus:=H.cg hT;have O:(sg.flatMap (·.2)++pl).length<=61680:=by omega
 have hpl2:pl.length<=61680:=by rw[AX]at O;omega
 have hll:A.j.Al.length<=399000:=by
  rw[z.Al];have W:=IS A.ix.AW P.Av;rw[GL]at W;have:=H.BO.A6;omega
 have hfw:A.AM.length<=399000:=by
  have W:=z.OA;rw[GL]at W;have:=H.BO.A6;omega
 obtain⟨a1,a2,-,-,-⟩:=z.I (N:=1000) (R:=1000) (H.cm.ae (by omega) (by omega)) p (by decide);refine(RA w p h X hp (λ_=>⟨Jz (by omega),by constructor<;>omega,by rw[z.Oc];constructor<;>omega⟩) (by omega) hL Y H.BO ⟨by omega,by omega,by omega⟩ (λk _=>by have:=Ma (Bu Ac 1000) k _ (sg.flatMap (·.2)++pl) rfl;omega) (by decide) hc).k ?_;rintro w' hI;rw[a2,a1]at hI;rw[a2,M9];exact⟨rfl,hI⟩
def WE(aI:FN 61681)(w:World)(I:Ec P A sg pl)(H:G2 P i T)(hi:i<=399000)(hT:T<=1048576){p:Pu}(hp:B8 p){L:Nat->List Pt}(h:SF w sb ab b 0 1000 Ak Ac false L (A.I P p).2.2.1 (A.I P p).2.2.2 FT)(aJ:∀k,FT k->k<w.heap.size)(hw:1<=Ak/\Ak<=4611686018427387904)(hL:Lets B w)(aK:∀k,FT k->B<=k)(hc:AY Ac):
 Calls Tryz.prog 14 #[.pointer (some ⟨sb,0,none⟩)] w λe w'=>e=.returned (.int .i64 0)/\
  ∃aM aA,Ax w FT w' (λw' aE=>SF w' sb ab b 0 1000 Ak Ac false L aM aA aE)/\((∃c,GH aA (i+61684) c 2837370)/\aA.D.A6.length+aA.D.AK.length+Fh aA.D.Ap<1099511627776)/\(i=0->Ar.aR aA≠.error 7):=by
 have hN:=I.bk;have hsz:=I.Am H.cm;have hus:=H.cg hT;have aF:(sg.flatMap (·.2)++pl).length<=61680:=by omega
 have hpl2:pl.length<=61680:=by rw[AX]at aF;omega
 have hall:(sg.flatMap (·.2)++(pl++[p])).length<=61681:=by rw[<-C6,AX];simp only[BM,Gk];omega
 have hll:A.j.Al.length<=399000:=by
  rw[I.Al];have h1:=IS A.ix.AW P.Av;rw[GL]at h1;have:=H.BO.A6;omega
 have hfw:A.AM.length<=399000:=by
  have h1:=I.OA;rw[GL]at h1;have:=H.BO.A6;omega
 have aG:A.ix.segs.length<=131072:=by
  have h1:=(Om I.CV).2;have h2:=Ng H.BO AF;omega
 have W:=H.BO.dj (A:=A) p;have hh:i=0->Ar.aR ((A.I P p).2.2.1.aX (A.I P p).2.2.2 Ak (Bu Ac 1000)).2.2≠.error 7:=λh0=>by
  subst h0;refine WB I (λnm=>?_) H.BO (H.cm.ae (by omega) (by omega)) (FY _) hp;have h1:=H.BO.A6;have h2:P.D.A6=[]:=G4.1 (by omega);unfold PD.bs PD.fl;rw[h2];rfl
 obtain⟨-,-,⟨s,a3⟩,a4,a5⟩:=I.I (N:=800000000000) (R:=1152921504605000000) (H.cm.ae (by omega) (by omega)) p (by decide);rw[a3]at h hh;generalize hP1:(A.I P p).2.2.2=P1 at h W hh a4 a5;obtain⟨r1,r2⟩:=I.bl H.cm hp (by omega) a5;have aL:P1.Av.length<=400000:=by rw[GL];have:=W.A6;omega
 obtain⟨c1,c2,c3⟩:=I.aX (s:=s) (Ay:=Ak) (oldest:=Bu Ac 1000) H.cm hp a5 (FY _) hall (by decide) aL (by omega) (by omega) (K:=400000) (a4.ae (by decide) (by decide));obtain⟨c3,c4,c5⟩:=c3 _ _ _ W;generalize O:({A with AM:=[],j:=⟨A.j.Al++[A.j.A8+1],A.j.A8+1,pl.length,some (A.j.A8+1,s)⟩}:Ar)=A1 at h hh c1 c2 c3 c4 c5;have e1:A1.ix=A.ix:=by rw[<-O]
 have e2:A1.j.Al=A.j.Al++[A.j.A8+1]:=by rw[<-O]
 have e3:A1.A8=A.A8:=by rw[<-O]
 have e4:A1.j.A8=A.j.A8+1:=by rw[<-O]
 have aB:A1.j.Al.length<=399001:=by rw[e2,AX];simp only[BM,Gk];omega
 refine(A1G w (A1.aX P1 Ak (Bu Ac 1000)).1 h aJ hL aK (by decide) hc (A':=(A1.aX P1 Ak (Bu Ac 1000)).2.1) (P':=(A1.aX P1 Ak (Bu Ac 1000)).2.2) λw1 F0 hA h0 aH aD=>?_).k ?_
 ·refine A2d aI (by decide) w1 hA h0 Ak (Bu Ac 1000) hw (λsegs X=>?_) ⟨by rw[e1];omega,?_⟩ ⟨by rw[e3];omega,by rw[e3];omega⟩ (by rw[e4];constructor<;>omega) (λx hx=>by rw[e1]at hx;have:=hN.2.2.2.1 x hx;constructor<;>omega) W ⟨by omega,by omega,by omega⟩ ?_ (λn z=>by rw[e1]at z;have:=hN.2.2.2.1 n z;exact Jz (by omega)) (λn z=>?_) (by omega) aH aD
  ·rw[e1,r1]at X;cases X;rw[e2,r2];refine⟨hall,λq Y=>?_⟩;rw[<-C6]at Y;rcases AU.1 Y with Y|Y
   ·exact I.ok q Y
   ·simp at Y;subst Y;exact hp
  ·rw[e1];exact AH (HN aG (show T+33<=1048609 by omega)) (by decide)
  ·exact AH (HN aB (show T+33<=1048609 by omega)) (by decide)
  ·rw[e2]at z;rcases AU.1 z with z|z
   ·have:=hN.2.2.2.2 n z;exact Jz (by omega)
   ·simp at z;subst z;exact Jz (by omega)
 ·rintro w' hI;rw[c1]at hI ⊢;refine⟨rfl,_,_,hI,⟨⟨_,c3.ae (by omega) (Aq _) (by omega),by omega,by omega,by decide,λnm z=>AH (c2 nm z) (by decide)⟩,?_⟩,hh⟩;have:=c3.A6;rw[c5,c4];have hz:Fh []=0:=rfl;omega
def WD(w:World){L:Nat->List Pt}(h:SF w sb ab b 0 1000 Ak Ac false L A P FT)(H:GH P a c m)(W:P.D.A6.length+P.D.AK.length+Fh P.D.Ap<1099511627776):
 Calls Tryz.prog 15 #[.pointer (some ⟨b,0,none⟩)] w λe w'=>∃I z,e=.returned (.pointer (some ⟨I,0,none⟩))/\Bh w' I P z/\(∀k,z k->w.heap.size<=k/\k<w'.heap.size)/\A5 (λ_=>False) w w':=by
 obtain⟨Ft,d1,-⟩:=SF.b7 h;have:=H.c;have:=H.m;have:=H.BO.An;exact A1C d1 W (by omega) λf O=>by have:=H.BO.Bi f O;omega
end
end
end Go.Proofs.YtodcnkbblippnabGreatDoor
