/- Part 42 of a proof: walks of the program. -/
import Derived.Test.YtodcnkbblippnaaGreatDoorPart40
import Derived.Test.YtodcnkbblippnaaGreatDoorPart41
namespace Go.Proofs.YtodcnkbblippnaaGreatDoor
set_option maxRecDepth 100000
set_option maxHeartbeats 32000000
set_option linter.defProp false
open Go.Proofs.Tryz
section
open Go.RowKit
attribute [local go_sem ↓] CJ
section
variable{α:Type}{lt:α->α->Bool}
def GD(lt:α->α->Bool)(a b:Nat)(l l':gh α):Prop:=l'.length=l.length/\B3 lt ((l'.drop a).take (b-a))/\∀p q,p+q<=a\/b<=p->(l'.drop p).take q=(l.drop p).take q
def U3{A M M' Z:gh α}(h:M'.length=M.length)(d:B3 lt M'):GD lt A.length (A.length+M.length) (A++M++Z) (A++M'++Z):=by
 refine⟨by simp[h],?_,λp q hp=>?_⟩
 ·rw[A2X rfl (by omega) (λhx=>by omega)];exact d
 ·exact(A2W h p q (by omega))
def EI.a7{l l':gh α}{C j b:Nat}(h:EI lt C (λi=>i<j) l)(z:GD lt (j*C) b l l')(H:b=j*C+C\/(b=l.length/\l.length<=j*C+C))(hj:j*C<=l.length):EI lt C (λi=>i<j+1) l':=λi d=>by
 rcases Nat.lt_or_eq_of_le (A4R d) with d|rfl
 ·rw[z.2.2 _ _ (.inl ?_)]
  ·exact h i d
  ·have:=Gd C (show i+1<=j from d);rw[HT]at this;omega
 ·have E:=z.2.1;rcases H with rfl|⟨rfl,H⟩
  ·rwa [A4U]at E
  ·have e:(l'.drop (i*C)).take C=(l'.drop (i*C)).take (l.length-i*C):=by
    rw[EG (by rw[CO,z.1];omega),EG (by rw[CO,z.1];omega)]
   rw[e];exact E
def EI.cx{l l':gh α}{B a b j:Nat}(h:EI lt B (λi=>j<=i) l)(E:GD lt a b l l')(z:b<=j*B):EI lt B (λi=>j<=i) l':=λi d=>by
 rw[E.2.2 _ _ (.inr (AJ z (Gd B d)))];exact h i d
def EI.cB{l:gh α}{C j:Nat}(h:EI lt C (λi=>i<j) l)(z:l.length<=j*C):EI lt C (λ_=>True) l:=λi _=>by
 rcases Fc i j with d|d
 ·exact h i d
 ·rw[NW (AJ z (Gd C d)),List.take_nil];exact List.Pairwise.nil
def GD.ay{l:gh α}{a b:Nat}(h:B3 lt ((l.drop a).take (b-a))):GD lt a b l l:=⟨rfl,h,λ_ _ _=>rfl⟩
def M0{l:gh α}{a q r:Nat}(h:B3 lt ((l.drop a).take q))(d:r<=q):B3 lt ((l.drop a).take r):=by
 have:=h.b6 r
 rwa [KI,NI d]at this
end
def Yj{n B C:Nat}(hn:n<=4294967296)(hB:B<=n)(hC:2*B=C):
 wrap64 (2*(B:Int))=(C:Int)/\IntKind.i64.wrap (2*(B:Int))=(C:Int)/\wrap64 ((B:Int)*2)=(C:Int)/\IntKind.i64.wrap ((B:Int)*2)=(C:Int):=by
 have d:=GL (x:=2*(B:Int)) (k:=C) (by omega) (by omega);have h:=GL (x:=(B:Int)*2) (k:=C) (by omega) (by omega);exact⟨d.1,d.2,h.1,h.2⟩
def A07{n b c:Nat}(h:b<=n)(hc:b+20=c):n+21-(intOf (A0 (c:Int))).toNat<n+21-(intOf (A0 (b:Int))).toNat:=by simp[intOf];omega
def A06{n b c C:Nat}(h:b<=n)(hC:20<=C)(hc:b+C=c):n+C+1-(intOf (A0 (c:Int))).toNat<n+C+1-(intOf (A0 (b:Int))).toNat:=by simp[intOf];omega
def Uk{n B C:Nat}(h:B<n)(hB:20<=B)(hC:2*B=C):n-(intOf (A0 (C:Int))).toNat<n-(intOf (A0 (B:Int))).toNat:=by simp[intOf];omega
def A34(a:Nat){B:Nat}(h:20<=B):a<a+B/\a+B<a+2*B/\a+B-a<=B/\a+2*B-(a+B)<=B/\20<=2*B:=by omega
def A2G{a B n:Nat}(h:¬a+2*B<=n):n<=a+2*B/\n-(a+B)<=B/\(¬a+B<n->n-a<=B):=by omega
section
variable{w w':ga}{g cap n wb:Nat}{len:Int}{l:gh Pu}
def Way(g cap n:Nat)(len:Int)(l:gh Pu)(w h:ga)(d:gh Pu):Prop:=h.ownsRow 0 113 3 (.slice (some ⟨g,0,none⟩) n cap) n (Bb d)/\d.length=n/\Bh (Az len) l d/\A3 (One g) w h
def Xw(hT:∀p∈l,AT p.2.1)(hl:1<=len/\len<=4611686018427387904)(hw:A7 w wb 0 (A0 len))(I:wb≠g)(L:n<=4294967296)(Y:ga)(d:gh Pu)(a b:Nat)(H:a<b)(hb:b<=n)(h:Way g cap n len l w Y d):
 Ag 243 #[AH g n cap,A0 a,A0 b,.func (Fn.func 155) #[] #[A5 wb]] Y (Am (.tuple #[]) λw'=>∃E,Way g cap n len l w w' E/\GD (Az len) a b d E):=by
 obtain⟨h1,h2,h3,h4⟩:=h;subst h2;refine(UT Y g cap wb len d a b H hb h1 (λp hp=>hT p (h3.bE.DG (Fp len) hp)) hl (h4.bq hw λe=>I e) I L).k ?_;rintro w'⟨m,W,q2,q3,q4,q5⟩;have hM:((d.drop a).take (b-a)).length=b-a:=by rw[BT,CO];omega
 have aA:(d.take a).length=a:=by rw[BT];omega
 have O:d=d.take a++(d.drop a).take (b-a)++d.drop b:=by
  have:=RT d (ET H) (Ao b);simpa using this
 have hN:=U3 (lt:=Az len) (A:=d.take a) (Z:=d.drop b) (q2.trans hM.symm) q4;rw[<-O,aA,hM,show a+(b-a)=b by omega]at hN;have z:=hN.1;refine⟨rfl,d.take a++m++d.drop b,⟨?_,z,?_,h4.tr q5⟩,hN⟩
 ·unfold AX at W;rw[z]at W;exact W
 ·refine h3.Av ?_;have e:(d.take b).drop a=(d.drop a).take (b-a):=List.drop_take ..;rw[e]at q3;have:=((Bh.I (lt:=Az len) (d.take a)).ak q3).ak (Bh.I (d.drop b))
  rwa [<-O]at this
def Xv(hT:∀p∈l,AT p.2.1)(hl:1<=len/\len<=4611686018427387904)(hw:A7 w wb 0 (A0 len))(I:wb≠g)(O:n<=4294967296)(wx:ga)(d:gh Pu)(a m b:Nat)(aA:a<m)(aD:m<b)(hb:b<=n)(h:Way g cap n len l w wx d)(s1:B3 (Az len) ((d.drop a).take (m-a)))(s2:B3 (Az len) ((d.drop m).take (b-m))):
 Ag 244 #[AH g n cap,A0 a,A0 m,A0 b,.func (Fn.func 155) #[] #[A5 wb]] wx (Am (.tuple #[]) λw'=>∃z,Way g cap n len l w w' z/\GD (Az len) a b d z):=by
 obtain⟨h1,h2,h3,h4⟩:=h;have W:=RT d (ET aA) (ET aD);have lA:(d.take a).length=a:=by rw[BT];omega
 have E:((d.drop a).take (m-a)).length=m-a:=by rw[BT,CO];omega
 have H:((d.drop m).take (b-m)).length=b-m:=by rw[BT,CO];omega
 obtain⟨A,hA⟩:∃A,d.take a=A:=⟨_,rfl⟩;obtain⟨U,hU⟩:∃U,(d.drop a).take (m-a)=U:=⟨_,rfl⟩;obtain⟨V,hV⟩:∃V,(d.drop m).take (b-m)=V:=⟨_,rfl⟩;obtain⟨Z,hZ⟩:∃Z,d.drop b=Z:=⟨_,rfl⟩;rw[hA,hU,hV,hZ]at W;rw[hA]at lA;rw[hU]at E s1;rw[hV]at H s2;subst W;have aB:U≠[]:=λe=>by rw[e]at E;simp at E;omega
 have Y:V≠[]:=λe=>by rw[e]at H;simp at H;omega
 have:=RG _ wx g cap n wb len A U V Z (Ao _) aB Y h2.symm h1 (λp L=>hT p (h3.bE.DG (Fp len) (by simp at L ⊢;rcases L with L|L<;>simp[L]))) s1 s2 hl (h4.bq hw λe=>I e) I O;rw[lA,E,H,show a+(m-a)=m by omega,show m+(b-m)=b by omega]at this;refine this.k ?_;rintro w'⟨M,q1,q2,q3,q4,q5⟩;have hN:=U3 (lt:=Az len) (A:=A) (M:=U++V) (M':=M) (Z:=Z) (by rw[AY,E,H];exact q2) q3;have ee:A++(U++V)++Z=A++U++V++Z:=by simp
 rw[ee,lA,AY,E,H,show a+(m-a+(b-m))=b by omega]at hN;refine⟨rfl,A++M++Z,⟨q1,hN.1.trans h2,h3.Av ?_,h4.tr q5⟩,hN⟩;have:=((Bh.I (lt:=Az len) A).ak q4).ak (Bh.I Z)
 rwa [ee]at this
def Yi(w:ga)(g cap wb:Nat)(len:Int)(l:gh Pu)(Y:l.length<=4294967296)(h:AX w (AH g l.length cap) l)(hT:∀p∈l,AT p.2.1)(hl:1<=len/\len<=4611686018427387904)(hw:A7 w wb 0 (A0 len))(aM:wb≠g):
 Ag 202 #[AH g l.length cap,A0 l.length,.func (Fn.func 155) #[] #[A5 wb]] w (Am (.tuple #[]) λw'=>AX w' (AH g l.length cap) (Ec (Az len) l)/\A3 (One g) w w'):=by
 obtain⟨n,hn⟩:∃n,l.length=n:=⟨_,rfl⟩;have h0:Hid (Way g cap n len l w w l):=by unfold AX at h;rw[hn]at h;exact⟨h,hn,Bh.I _,A3.I _ _⟩
 rw[hn]at Y ⊢;have aS:Hid (∀wx z a b,a<b->b<=n->Way g cap n len l w wx z->_):=λwx z a b q1 q2 q3=>Xw hT hl hw aM Y wx z a b q1 q2 q3;have aL:Hid (∀wx z a m b,a<m->m<b->b<=n->Way g cap n len l w wx z->_->_->_):=λwx z a m b q1 q2 q3 q4 q5 q6=>Xv hT hl hw aM Y wx z a m b q1 q2 q3 q4 q5 q6;have aV:Hid (∀wx,Ag 243 #[AH g n cap,A0 n,A0 n,.func (Fn.func 155) #[] #[A5 wb]] wx (Am (.tuple #[]) λw'=>wx=w')):=λwx=>US wx _ _ n n (by omega) (by omega);have a5:Hid (∀B C,B<=n->2*B=C->_):=λB C q1 q2=>Yj (B:=B) (C:=C) Y q1 q2;have a7:Hid (∀a b c m B C:Nat,a<=n->B<=n->2*B=C->a+C=b->b+C=c->a+B=m->(wrap64 ((a:Int)+(B:Int))=(m:Int)/\IntKind.i64.wrap ((a:Int)+(B:Int))=(m:Int))/\(wrap64 ((b:Int)+(C:Int))=(c:Int)/\IntKind.i64.wrap ((b:Int)+(C:Int))=(c:Int))):=λa b c m B C q1 q2 q3 q4 q5 q6=>⟨GL (by omega) (by omega),GL (by omega) (by omega)⟩
 have a0:Hid (∀a b c:Nat,a<=n->a+20=b->b+20=c->wrap64 ((b:Int)+20)=(c:Int)/\IntKind.i64.wrap ((b:Int)+20)=(c:Int)):=λa b c L W hc=>GL (by omega) (by omega);have aY:Hid (∀w' z,Way g cap n len l w w' z->B3 (Az len) z->AX w' (AH g n cap) (Ec (Az len) l)/\A3 (One g) w w'):=λw' z q1 q2=>by
  obtain⟨a1,a2,a3,a4⟩:=q1;have e1:=(Fp len).et q2 a3;refine⟨?_,a4⟩;unfold AX;rw[<-e1,a2];exact a1
 go_enter func202,ntmps202
 go_wp2;go_loopw [7,8] (λav bv wr=>∃(j:Nat) (z:gh Pu),av=A0 ((j*20:Nat):Int)/\bv=A0 ((j*20+20:Nat):Int)/\Hid (j*20<=n/\Way g cap n len l w wr z/\EI (Az len) 20 (λi=>i<j) z)) (λ_ bv _=>n+21-(intOf bv).toNat)
 ·exact⟨0,l,by go_num,by go_num,Cb _,h0.o,λi hi=>absurd hi (WD i)⟩
 ·obtain⟨j,z,rfl,rfl,hI⟩:=hrel;have⟨i1,i2,i3⟩:=hI.o;obtain⟨a,L⟩:∃a,j*20=a:=⟨_,rfl⟩;obtain⟨b,W⟩:∃b,a+20=b:=⟨_,rfl⟩;obtain⟨c,hc⟩:∃c,b+20=c:=⟨_,rfl⟩;have aA:(j+1)*20=b:=by rw[HT,L];exact W
  have aD:=A1 (And.intro L (And.intro aA hc));rw[L]at i1 ⊢;rw[W];have⟨z1,z2⟩:=a0.o a b c i1 W hc;have E:=i2.2.1;by_cases H:b<=n
  ·have aI:=O2.2 H;have aZ:=A1 (aS.o wr z a b (by rw[<-W];exact Nat.lt_add_of_pos_right (by decide)) H i2);have K:Hid (∀d,GD (Az len) a b z d->EI (Az len) 20 (λi=>i<j+1) d):=λd O=>i3.a7 (by rw[L];exact O) (.inl (by rw[L];exact W.symm)) (by rw[L,E];exact i1);have aR:=A1 H;go_wp2_with (go_at_call 243;refine aZ.k ?_;rintro w2⟨d,hW,O⟩;have aG:=A1 hW;have I:=A1 (K.o d O));go_roundw
   ·exact⟨j+1,d,by rw[aD.o.2.1],by rw[aD.o.2.1,aD.o.2.2],by rw[aD.o.2.1];exact aR.o,aG.o,I.o⟩
   ·exact A07 aR.o aD.o.2.2
  ·have aI:¬((b:Int)<=(n:Int)):=λh=>H (O2.1 h);have K:Hid (∀d,GD (Az len) a n z d->EI (Az len) 20 (λ_=>True) d):=λd O=>(i3.a7 (by rw[L];exact O) (.inr ⟨E.symm,by rw[L,E];rw[W];exact ET (Nat.lt_of_not_le H)⟩) (by rw[L,E];exact i1)).cB (by rw[O.1,aA,E];exact ET (Nat.lt_of_not_le H))
   have aZ:Hid (Ag 243 #[AH g n cap,A0 a,A0 n,.func (Fn.func 155) #[] #[A5 wb]] wr (Am (.tuple #[]) λw'=>∃d,Way g cap n len l w w' d/\GD (Az len) a n z d)):=by
    by_cases aK:a<n
    ·exact aS.o wr z a n aK (Ao _) i2
    ·obtain rfl:a=n:=KG i1 (HS aK);refine(aV.o wr).k ?_;rintro w' rfl;exact⟨rfl,z,i2,GD.ay (by rw[WC,EZ];exact List.Pairwise.nil)⟩
   go_wp2_with (go_at_call 243;refine aZ.k ?_;rintro w2⟨d,hW,O⟩;have aG:=A1 hW;have I:=A1 (K.o d O));go_loopw [6] (λbv wr=>∃(B:Nat) (z:gh Pu),bv=A0 (B:Int)/\Hid (20<=B/\Way g cap n len l w wr z/\EI (Az len) B (λ_=>True) z)) (λbv _=>n-(intOf bv).toNat)
   ·exact⟨20,d,by go_num,Ao _,aG.o,I.o⟩
   ·obtain⟨B,aH,rfl,hI⟩:=hrel;have⟨i1,i2,i3⟩:=hI.o;by_cases aE:B<n
    ·have aU:=F5.2 aE;obtain⟨C,hC⟩:∃C,2*B=C:=⟨_,rfl⟩;have⟨z1,z2,z3,z4⟩:=a5.o B C (ET aE) hC;have aN:=A1 (And.intro i1 (And.intro i2 i3));have aJ:=A1 aE;have a6:=A1 hC;generalize wr=w3 at aN ⊢;go_wp2;go_loopw [7,8] (λav bv wr=>∃(j:Nat) (z:gh Pu),av=A0 ((j*C:Nat):Int)/\bv=A0 ((j*C+C:Nat):Int)/\Hid (j*C<=n/\Way g cap n len l w wr z/\EI (Az len) C (λi=>i<j) z/\EI (Az len) B (λi=>2*j<=i) z)) (λ_ bv _=>n+C+1-(intOf bv).toNat)
     ·exact⟨0,aH,by simp,by simp,by simp,aN.o.2.1,λi hi=>absurd hi (WD i),λi _=>aN.o.2.2 i trivial⟩
     ·obtain⟨j,z,rfl,rfl,hI⟩:=hrel;have⟨i1,i2,i3,i4⟩:=hI.o;obtain⟨a,L⟩:∃a,j*C=a:=⟨_,rfl⟩;obtain⟨b,W⟩:∃b,a+C=b:=⟨_,rfl⟩;obtain⟨c,hc⟩:∃c,b+C=c:=⟨_,rfl⟩;obtain⟨m,aF⟩:∃m,a+B=m:=⟨_,rfl⟩;have hC:=a6.o;(have aA:(j+1)*C=b:=by rw[HT,L,QD];exact W);(have aP:2*j*B=a:=by rw[<-L,<-hC,Hb 2 j,J5]);(have aQ:(2*j+1)*B=m:=by rw[HT,aP,QD];exact aF);(have aO:2*(j+1)*B=b:=by rw[<-aA,<-hC,Hb 2 (j+1),J5]);rw[L]at i1 ⊢;rw[W];have⟨⟨y1,y2⟩,y3,y4⟩:=a7.o a b c m B C i1 (ET aJ.o) hC W hc aF;have s1:=i4 (2*j) (Ao _);have s2:=i4 (2*j+1) (Hq _);rw[aP]at s1;rw[aQ]at s2;have E:=i2.2.1;have⟨k1,k2,k3,k4,k5⟩:=A34 a aN.o.1;rw[aF]at k1 k2 k3 k4;rw[hC]at k2 k4 k5;rw[W]at k2 k4;have aD:=A1 (And.intro aA (And.intro hc k5));by_cases H:b<=n
      ·have aI:=O2.2 H;have aT:=A1 (aL.o wr z a m b k1 k2 H i2 (M0 s1 k3) (M0 s2 k4));have K:Hid (∀d,GD (Az len) a b z d->EI (Az len) C (λi=>i<j+1) d/\EI (Az len) B (λi=>2*(j+1)<=i) d):=λd O=>
        ⟨i3.a7 (by rw[L];exact O) (.inl (by rw[L];exact W.symm)) (by rw[L,E];exact i1),EI.cx (λi hi=>i4 i (AJ (Nat.mul_le_mul_left 2 (Hq j)) hi)) O (by rw[aO];exact Ao _)⟩
       have aR:=A1 H;go_wp2_with (go_at_call 244;refine aT.k ?_;rintro w4⟨d,hW,O⟩;have aG:=A1 hW;have I:=A1 (K.o d O));go_roundw
       ·exact⟨j+1,d,by rw[aD.o.1],by rw[aD.o.1,aD.o.2.1],by rw[aD.o.1];exact aR.o,aG.o,I.o.1,I.o.2⟩
       ·exact A06 aR.o aD.o.2.2 aD.o.2.1
      ·have aI:¬((b:Int)<=(n:Int)):=λh=>H (O2.1 h);have⟨e1,e2,e3⟩:=A2G (a:=a) (B:=B) (n:=n) (by rw[hC,W];exact H);rw[hC,W]at e1;rw[aF]at e2 e3;have K:Hid (∀d,GD (Az len) a n z d->EI (Az len) C (λ_=>True) d):=λd O=>(i3.a7 (by rw[L];exact O) (.inr ⟨E.symm,by rw[L,E,W];exact e1⟩) (by rw[L,E];exact i1)).cB (by rw[O.1,aA,E];exact e1)
       have aB:=A1 (And.intro k5 (And.intro hC aN.o.1));by_cases hm:m<n
       ·have aX:=F5.2 hm;have aT:=A1 (aL.o wr z a m n k1 hm (Ao _) i2 (M0 s1 k3) (M0 s2 e2));go_wp2_with (go_at_call 244;refine aT.k ?_;rintro w4⟨d,hW,O⟩;have aG:=A1 hW;have I:=A1 (K.o d O));go_roundw
        ·exact⟨C,d,rfl,aB.o.1,aG.o,I.o⟩
        ·exact Uk aJ.o aB.o.2.2 aB.o.2.1
       ·have aX:¬((m:Int)<(n:Int)):=λh=>hm (F5.1 h);have I:=A1 (K.o z (GD.ay (M0 s1 (e3 hm))));have aG:=A1 i2;go_wp2;go_roundw
        ·exact⟨C,z,rfl,aB.o.1,aG.o,I.o⟩
        ·exact Uk aJ.o aB.o.2.2 aB.o.2.1
    ·have aU:¬((B:Int)<(n:Int)):=λh=>aE (F5.1 h);have aW:=A1 (aY.o wr aH i2 (i3.Ck (by rw[i2.2.1];exact HS aE)));go_wp2;go_end0;exact⟨rfl,aW.o⟩
end
def YI(N:Nat)(hN:N<=4294967296):Fy N:=by
 intro w v wb len l hn h z H E d;have ST:Hid (Ag 202 #[v,A0 l.length,.func (Fn.func 155) #[] #[A5 wb]] w (Am (.tuple #[]) λw'=>AX w' v (Ec (Az len) l)/\A3 (λk=>v.oB k) w w')):=by
  by_cases L:l.length<=19
  ·exact Yk w v wb len l L h z H E d
  ·obtain⟨av,cap,rfl,W,I,h3,-,-⟩:=B9 h;obtain⟨g,rfl⟩:=h3 (by omega);refine(Yi w g cap wb len l (by omega) h z H E (d g rfl)).k ?_;rintro w'⟨Y,q2⟩;exact⟨rfl,Y,q2.af λk _ O=>by have e:=O;subst e;rfl⟩
 obtain⟨av,cap,rfl,W,I,-⟩:=B9 h
 go_enter func154,ntmps154
 go_wp2_with (go_at_call 202;refine ST.k ?_;rintro w2⟨hp,hc⟩;have aB:=A1 hp;have aA:=A1 hc);go_end0;exact⟨rfl,aB.o,aA.o⟩
end
section
open Go.RowKit
def DM(P:PD)(t:Nat):Prop:=P.D.n.AA=1152921504606846976/\0<=P.D.n.AQ/\P.D.n.AQ<=10000000*((t:Int)+1)
def HM(P:PD)(e:Int)(P':PD):Prop:=P'.D.n.Ce=P.D.n.Ce/\P'.D.n.Cv=P.D.n.Cv/\P.D.n.AQ<=P'.D.n.AQ/\
 ((e=0/\P'.D.n.AW=false/\¬(P.D.n.AQ<P.D.n.Cv/\P.D.n.Cv<=P'.D.n.AQ)/\P'.D.n.Bl=P.D.n.Bl)\/
  (e=5/\P'.D.n.Bl=P.D.n.Bl+1/\((P'.D.n.AW=true/\P.D.n.AQ<P.D.n.Ce)\/(P'.D.n.AW=false/\P.D.n.AQ<P.D.n.Cv))))
def DM.af{P:PD}{t t':Nat}(h:DM P t)(ht:t<=t'):DM P t':=⟨h.1,h.2.1,by have:=h.2.2;omega⟩
def Oh{P P':PD}{e:Int}{k t:Nat}(h:C7 k P.D.n e P'.D.n)(hs:HP P e P')(h6:e≠6)(H:P.D.n.AW=false)(hc:DM P t)(hk:k<=10000000)(ht:t<=330000)(Y:P'.D.n.AA=P.D.n.AA):HM P e P'/\DM P' (t+1):=by
 obtain⟨c1,c2,c3⟩:=hc;obtain⟨a1,a2,W⟩:=h;obtain⟨I,b2,O,b4⟩:=W c2 (by omega);refine⟨⟨a1,a2,I,?_⟩,Y.trans c1,by omega,by omega⟩;rcases hs with⟨rfl,d,-,-⟩|⟨rfl,d,-⟩|⟨rfl,-⟩
 ·obtain⟨d1,d2⟩:=b4 (by decide);exact .inl ⟨rfl,d1.trans H,d2,d⟩
 ·refine .inr ⟨rfl,d,?_⟩;rcases O rfl with q|⟨z,E,-⟩|⟨z,E,-⟩
  ·rw[H]at q;cases q
  ·exact .inl ⟨z,E⟩
  ·exact .inr ⟨z,E⟩
 ·exact absurd rfl h6
def Still(P:PD):Prop:=P.D.n.Ce=0/\P.D.n.Cv=0
def HM.eE{P P':PD}{e:Int}{t:Nat}(h:HM P e P')(d:Still P)(W:DM P t):e=0/\Still P'/\P'.D.n.AW=false:=by
 obtain⟨H,I,a3,z⟩:=h;have h0:=W.2.1;rcases z with⟨E,O,-⟩|⟨-,-,⟨-,b⟩|⟨-,b⟩⟩
 ·exact⟨E,⟨H.trans d.1,I.trans d.2⟩,O⟩
 ·rw[d.1]at b;omega
 ·rw[d.2]at b;omega
def Rest(t:Nat)(P:PD)(pd:gh Pu)(Ad:Nat)(o:Int):Prop:=PB P t/\DI (Ca t) P pd Ad o/\(∀p∈pd,B8 p)/\pd.length<=t/\Ad<=pd.length
def Ip(t:Nat)(A:Ar)(P:PD)(pd:gh Pu)(Ad:Nat)(o:Int)(ro:Bool):Prop:=Rest t P pd Ad o/\(P.D.n.AW=false->St t A P pd Ad o ro)
section
variable{t N:Nat}{A:Ar}{P:PD}{pd:gh Pu}{Ad:Nat}{o:Int}{ro:Bool}
def St.cx(h:St t A P pd Ad o ro):Rest t P pd Ad o:=⟨h.pb,h.di,h.pu,h.B4,h.le⟩
def St.dQ(h:St t A P pd Ad o ro):Ip t A P pd Ad o ro:=⟨h.cx,λ_=>h⟩
def Rest.af{t':Nat}(h:Rest t P pd Ad o)(d:t<=t'):Rest t' P pd Ad o:=⟨h.1.af d,h.2.1.aZ (IX d),h.2.2.1,AJ h.2.2.2.1 d,h.2.2.2.2⟩
def Ip.af{t':Nat}(h:Ip t A P pd Ad o ro)(d:t<=t'):Ip t' A P pd Ad o ro:=⟨h.1.af d,λz=>(h.2 z).af d⟩
def Hu.cx{d:Bool}(h:Hu t P pd Ad o d):Rest t P pd Ad o:=⟨h.1,h.2.1,h.2.2.1,h.2.2.2.1,h.2.2.2.2.1⟩
def DM.aW(h:DM P t)(z:Int)(d:gh Int):DM (P.aW z d) t/\Still (P.aW z d):=⟨h,rfl,rfl⟩
def PB.eF(h:PB P t)(ht:t<=330000):B6 P.F P.D.A4<=13069254020000:=AJ h.BQ.cV (AJ (Ih (show 3*t+20<=990020 by omega) (show 40*t+1000<=13201000 by omega)) (by decide))
def St.fm(h:St t A P pd Ad o false)(z:DM P t)(I:t+1<=330000)(p:Pu)(O:B8 p):
 HM P (A.ae P p).2.1 (A.ae P p).2.2.2/\DM (A.ae P p).2.2.2 (t+1)/\((A.ae P p).2.1=0->P.D.n.AQ+1<=(A.ae P p).2.2.2.D.n.AQ):=by
 obtain⟨-,Y,-,-,-,-,H⟩:=h.ae I p O;obtain⟨sg,cl,ol,-,hll⟩:=h.si rfl;have hu:=h.pb.eF (by omega);have d:=z;obtain⟨c1,c2,c3⟩:=d;obtain⟨E,W⟩:=Oh (A3D A P p) Y (λe=>by have:=H e;omega) h.AW z (by omega) (by omega) (Zl A P p);exact⟨E,W,λe=>A4m e c2 (by omega)⟩
def St.fD(h:St t A P pd Ad o false)(E:DM P t)(z:t+1<=330000):HM P (A.ad P).1 (A.ad P).2.2/\DM (A.ad P).2.2 (t+1):=by
 obtain⟨-,d,-,-,-,H⟩:=h.ad z;obtain⟨sg,cl,ol,-,hll⟩:=h.si rfl;exact Oh (A3C A P) d H h.AW E (by omega) (by omega) (Zk A P)
def Sw{Y cl:gh (Int×gh Pu)}{ol:Option (gh Pu)}(h:PB P t)(hn:Gc P)(I:QA A P Y cl ol t)(O:DM P t)(ht:t+1<=330000)(hll:A.AN.length<=3*t+20)(W:P.D.n.AW=false)(z:gh Int)(d:gh (gh Pu))(hk:z.length<=t)(hf:d.length<=t)(hl:∀l∈d,l.length<=t)(hs:HP P (A.aF P z d).1 (A.aF P z d).2.2):HM P (A.aF P z d).1 (A.aF P z d).2.2/\DM (A.aF P z d).2.2 (t+1):=by
 have hcn:=I.Nk;have H:=I.Ai;rw[HJ]at H;refine Oh (A3v A P z d) hs ?_ W O (by omega) (by omega) (Ze A P z d);refine Zs (a:=3*(t+1)+20) (m:=40*(t+1)+1000) (h.BQ.af (a':=3*(t+1)+20) (m':=40*(t+1)+1000) (by omega) (Ao _) (by omega)).wd h.Ap hn z d (by omega) (λl hm=>by have:=hl l hm;omega) (by omega) ?_;rw[O.1];have E:(3*(t+1)+20)*(40*(t+1)+1000)+(40*(t+1)+1000)<=13069267221000:=AJ (Nat.add_le_add (Ih (show 3*(t+1)+20<=990020 by omega) (show 40*(t+1)+1000<=13201000 by omega)) (show 40*(t+1)+1000<=13201000 by omega)) (by decide);exact KX (O2.2 E) (by decide)
def St.fy{wa:Int}(h:St t A P pd Ad o false)(Y:BS (Az wa))(hc:DM P t)(W:t+1<=330000):HM P (A.aR P wa).1 (A.aR P wa).2.2/\DM (A.aR P wa).2.2 (t+1):=by
 obtain⟨-,a2,-,-,-⟩:=h.aR Y W;obtain⟨sg,H,O,I,z⟩:=h.si rfl;have E:=I.bD h.pb h.B4 (by omega);obtain⟨n1,n2⟩:=E.Ck;obtain⟨n3,n4⟩:=E.sd;have hp:=I.AV.pd I.CZ;have d:=HH Y (Au H++O.getD []);have hfl:=Hm d.ne;have hfl2:=d.B4;have e:A.aR P wa=A.aF P A.ix.sd (By wa (Au H++O.getD [])):=by
  unfold Ar.aR;rw[hp,Aa (by simp)]
 rw[e]at a2 ⊢
 exact Sw h.pb h.di.bc E hc W z h.AW A.ix.sd (By wa (Au H++O.getD [])) n3 (by omega) (λl hl=>by
  have:=(NL hl).length_le
  omega) a2
def St.eY{wa:Int}(h:St t A P pd Ad o false)(hw:BS (Az wa))(hc:DM P t)(ht:t+1<=330000):HM P (A.aP P wa o).1 (A.aP P wa o).2.2/\DM (A.aP P wa o).2.2 (t+1):=by
 obtain⟨-,a2,-,-,-⟩:=h.aP hw ht;obtain⟨d,E,z,O,W⟩:=h.si rfl;have hN:=O.bD h.pb h.B4 (by omega);obtain⟨n1,n2⟩:=hN.Ck;obtain⟨n3,n4⟩:=hN.sd;have hp:=O.AV.pd O.CZ;have I:=HH hw (B7 d E z);have hfl:=Hm I.ne;have hfl2:=I.B4;have H:=Kh d o (By wa (B7 d E z));have Y:=H.length_eq;have hal:(E2 o (By wa (B7 d E z))).length<=(By wa (B7 d E z)).length:=J8 _ _;rw[AY,FW]at Y;have hks:(BJ d o (By wa (B7 d E z))).1.length=(Gn d o (By wa (B7 d E z))).length:=by rw[Ki,FW]
 have e:A.aP P wa o=A.aF P ((BJ d o (By wa (B7 d E z))).1.mergeSort λx y=>decide (x<=y)) (BJ d o (By wa (B7 d E z))).2:=by
  unfold Ar.aP;rw[O.AV.b4];dsimp only
  have e2:d.flatMap (·.2)++(P.pd A.j.Ak).1=B7 d E z:=by rw[hp];rfl
  rw[e2,hp,Aa (by simp)]
 rw[e]at a2 ⊢
 exact Sw h.pb h.di.bc hN hc ht W h.AW ((BJ d o (By wa (B7 d E z))).1.mergeSort λx y=>decide (x<=y)) (BJ d o (By wa (B7 d E z))).2 (by rw[NQ];omega) (by omega) (λl hl=>by
  have:=(NL (Jz hl)).length_le
  omega) a2
def OI{A2:Ar}{P2:PD}{cd:Int}(h:St t A P pd Ad o false)(E:PB P2 (t+1))(z:DI (Ca (t+1)) P2 pd Ad o)(H:Reads (Ca (t+1)) P2 pd o)(d:cd=0->St (t+1) A2 P2 pd pd.length o false):
 Ip (t+1) A2 P2 pd (if cd=0 then pd.length else Ad) o (decide (cd≠0)):=by
 have hl:=h.B4;by_cases e:cd=0
 ·rw[Ae e,De (nn e)];exact(d e).dQ
 ·rw[Aa e,CM e];exact⟨⟨E,z,h.pu,by omega,h.le⟩,λI=>St.dq E z H h.pu (by omega) h.le I⟩
end
section
variable{t:Nat}{ld A9:Int}{L:Nat->gh Pt}{A:Ar}{P:PD}{pd:gh Pu}{Ad:Nat}
def A0c(z:St t A P pd Ad (Bo A9 ld) false)(ht:t+1<=330000)(p:Pu)(hp:B8 p)(hR:Rel L pd ld A9)(hs:∀k,k<8->E4 (L k)){bo:Bool}{cd:Int}{A2:Ar}{P2:PD}{W:Nat->gh Pt}(I:A.ae P p=(bo,cd,A2,P2))(d:W=if bo=true then Fq L (Bo A9 ld) p.1.toNat p.2.1 p.2.2 else L):
 ∃q,(q=pd++[p]\/(q=pd/\cd≠0))/\Ip (t+1) A2 P2 q Ad (Bo A9 ld) (decide (cd≠0))/\Rel W q ld A9/\(∀k,k<8->(L k).length<=t->(W k).length<=t+1):=by
 obtain⟨Y,a2,a3,a4,a5,a6,a7⟩:=z.ae ht p hp;rw[I]at Y a2 a3 a4 a5 a6 a7;have hq:∀x∈pd++[p],B8 x:=λx h=>by
  rcases AU.1 h with h|h
  ·exact z.pu x h
  ·simp at h;subst h;exact hp
 have E:(pd++[p]).length<=t+1:=by have:=z.B4;simp;omega
 have aA:Ad<=(pd++[p]).length:=by have:=z.le;simp;omega
 have H:∀k,k<8->(L k).length<=t->(W k).length<=t+1:=λk _ hk=>by
  rw[d];have:=PC L (Bo A9 ld) p.1.toNat p.2.1 p.2.2 k;split<;>omega
 cases bo with
 | true=>
  rw[Ae rfl]at d;have aB:Rel W (pd++[p]) ld A9:=by
   rw[d];obtain⟨k,tt,v⟩:=p;obtain⟨⟨k0,k8⟩,O,_⟩:=hp;dsimp only at k0 k8 O ⊢;obtain⟨k',rfl⟩:∃k':Nat,k=k':=⟨k.toNat,by omega⟩;exact hR.ax hs (by omega) O
  refine⟨pd++[p],.inl rfl,⟨⟨Y,a3,hq,E,aA⟩,λh=>?_⟩,aB,H⟩;by_cases e:cd=0
  ·rw[De (nn e)];exact(a6 e).2
  ·rw[CM e];exact St.dq Y a3 (a4 rfl) hq E aA h
 | false=>
  rw[Aa (by simp)]at d;subst d;obtain⟨b1,b2⟩:=a5 rfl;have e:cd≠0:=λe=>absurd (a6 e).1 (by simp);have hl:=z.B4;refine⟨pd,.inr ⟨rfl,e⟩,⟨⟨Y,b1,z.pu,by omega,z.le⟩,λh=>?_⟩,hR,H⟩;rw[CM e];exact St.dq Y b1 b2 z.pu (by omega) z.le h
end

end
section
open Go.RowKit
attribute [local go_sem ↓] Go.wp_at_zero Go.wp_at_succ

end
section
open Go.RowKit
structure I1 (P:PD) (a c m:Nat):Prop where
 BQ:Fit P a c m
 a:a<=500000
 c:c<=10000000
 m:m<=3000000
 Lh:∀nm,P.bs nm≠none->nm.length<=1048576
section
variable{w w':ga}{b sb ab B i T a c m:Nat}{P:PD}{A:Ar}{sg:gh (Int×gh Pu)}{pl:gh Pu}{Ft FT:Nat->Prop}{wc A9:Int}
def Oi(h:Fit P a c m)(nm:Bs):P.sz nm<=m:=by
 have d:=Kz h nm;rw[FQ]at d;unfold PD.sz;cases hb:P.bs nm with
 | none=>simp
 | some x=>rw[hb]at d;exact d
def RJ{g:Bs->Nat}{m:Nat}(h:∀nm,g nm<=m):∀l:gh Bs,(l.map g).sum<=l.length*m
 | []=>by simp
 | x::r=>by
  have:=h x;have:=RJ h r;simp only[GY,WK,Cg];rw[HT];omega
def I1.sd(h:I1 P a c m){ix:Ix}(d:P.CK=some ix):ix.sd.length<=375000:=by
 have h1:=(A2b d).2;have h2:=Oi h.BQ Ay;have:=h.m;omega
def I1.Ak(h:I1 P a c m)(first:Int):(Br first P.Ai).length<=500000:=by
 have d:=LG first P.Ai
 rw[Js]at d;have:=h.BQ.A4;have:=h.a;omega
def I1.pd(h:I1 P a c m)(first:Int):(P.pd (Br first P.Ai)).1.length<=72000000000:=by
 have h1:=T8 h.BQ (Br first P.Ai);have h2:(Br first P.Ai).length*m<=500000*3000000:=Ih (h.Ak first) h.m;omega
def I1.B4(h:I1 P a c m)(d:NF P A sg pl):(sg.flatMap (·.2)++pl).length<=1000000000000:=by
 obtain⟨s1,-⟩:=S6 _ _ d.sd;have s2:=RJ (Oi h.BQ) (A.ix.sd.map Aw);rw[FW]at s2;have s3:A.ix.sd.length*m<=375000*3000000:=Ih (h.sd d.CK) h.m;have s4:=h.pd A.ix.AZ;rw[<-d.Ak,d.pd]at s4;rw[AY];dsimp only at s4;omega
end
end
section
open Go.RowKit
attribute [local go_sem ↓] Go.wp_at_zero Go.wp_at_succ

end
section
open Go.ChangeAt Go.ChangeShapes Go.RowKit Go.WideShapes
def A1x{W:ga}(h:laidMetH Tryz.prog Rows.writesUptoRow.laid W):Env W.heap.size W:=by
 have O:=A1v h;have E:=A1w h;obtain⟨⟨I,d,H⟩,Y,z,L⟩:=E;exact⟨O,⟨⟨I,d,H⟩,Y,z,L⟩,HL W _ d,HL W _ z⟩
end
end Go.Proofs.YtodcnkbblippnaaGreatDoor
