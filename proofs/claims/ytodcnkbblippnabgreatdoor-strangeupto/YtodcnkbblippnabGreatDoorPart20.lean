/- Part 20 of a proof: walks of the program. -/
import Derived.Test.YtodcnkbblippnabGreatDoorPart19
namespace Go.Proofs.YtodcnkbblippnabGreatDoor
set_option maxRecDepth 100000
set_option maxHeartbeats 32000000
set_option linter.defProp false
open Go.Proofs.Tryz
section
open Go.RowKit
section
variable{α:Type}(lt:α->α->Bool)
structure BX:Prop where
 Ie:∀x,lt x x=false
 AJ:∀x y z,lt x y=true->lt y z=true->lt x z=true
 KA:∀x y z,lt x z=true->lt x y=true\/lt y z=true
def eqv(x y:α):Bool:=!lt x y && !lt y x
def Bg(l l':List α):Prop:=∀x,l.filter (eqv lt x)=l'.filter (eqv lt x)
def B3(l:List α):Prop:=l.Pairwise λx y=>lt y x=false
variable{lt}
def Bg.C(l:List α):Bg lt l l:=λ_=>rfl
def Bg.bA{l l':List α}(h:Bg lt l l'):Bg lt l' l:=λx=>(h x).symm
def Bg.AJ{l l' z:List α}(h:Bg lt l l')(H:Bg lt l' z):Bg lt l z:=λx=>(h x).trans (H x)
def Bg.al{a a' b z:List α}(h:Bg lt a a')(H:Bg lt b z):Bg lt (a++b) (a'++z):=λx=>by
 rw[MU,MU,h x,H x]
def BX.ev(h:BX lt)(x:α):eqv lt x x=true:=by simp[eqv,h.Ie]
def BX.cc(h:BX lt){x y:α}(z:lt x y=true):lt y x=false:=by
 cases hyx:lt y x with
 | false=>rfl
 | true=>have:=h.AJ _ _ _ z hyx;rw[h.Ie]at this;cases this
def BX.cX(h:BX lt){x y z:α}(O:lt y x=false)(I:lt z y=false):lt z x=false:=by
 cases hzx:lt z x with
 | false=>rfl
 | true=>rcases h.KA z y x hzx with H|H
         ·rw[I]at H;cases H
         ·rw[O]at H;cases H
def BX.fv(h:BX lt){x y z:α}(I:lt y z=true)(O:eqv lt x y=true):eqv lt x z=false:=by
 cases hz:eqv lt x z with
 | false=>rfl
 | true=>
  simp[eqv]at O hz;rcases h.KA y x z I with H|H
  ·rw[O.2]at H;cases H
  ·rw[hz.1]at H;cases H
def BX.fy(h:BX lt){x y:α}(H:lt y x=true):Bg lt [x,y] [y,x]:=λz=>by
 simp only[Fa,List.filter_nil];cases h1:eqv lt z y with
 | false=>cases eqv lt z x<;>rfl
 | true=>rw[h.fv H h1];rfl
def BX.dH(h:BX lt){x:α}{ys:List α}(H:∀y∈ys,lt y x=true):Bg lt (x::ys) (ys++[x]):=by
 induction ys with
 | nil=>exact Bg.C _
 | cons y r ih=>
  have O:Bg lt (x::y::r) (y::x::r):=by
   have:=(h.fy (H y (Bp ..))).al (Bg.C (lt:=lt) r);simpa using this
  have I:Bg lt (y::x::r) (y::(r++[x])):=by
   have:=(Bg.C (lt:=lt) [y]).al (ih λz W=>H z (Bn _ W));simpa using this
  exact O.AJ I
def BX.er(h:BX lt){xs ys:List α}(H:∀x∈xs,∀y∈ys,lt y x=true):Bg lt (xs++ys) (ys++xs):=by
 induction xs with
 | nil=>simpa using Bg.C (lt:=lt) ys
 | cons x r ih=>
  have O:=ih λz X=>H z (Bn _ X);have I:Bg lt (x::(r++ys)) (x::(ys++r)):=by simpa using(Bg.C (lt:=lt) [x]).al O
  have W:=(h.dH (H x (Bp ..))).al (Bg.C r);have:=I.AJ W;simpa using this
def BX.cQ(h:BX lt){y:α}{xs:List α}(I:∀x∈xs,lt y x=true):Bg lt (xs++[y]) (y::xs):=by
 simpa using h.er (xs:=xs) (ys:=[y]) λx O z H=>by simp at H;subst H;exact I x O
def Bg.DP{l l':List α}(z:BX lt)(h:Bg lt l l'){x:α}(H:x∈l):x∈l':=by
 have:x∈l.filter (eqv lt x):=GF.2 ⟨H,z.ev x⟩;rw[h x]at this;exact(GF.1 this).1
def BX.ef(z:BX lt):∀ {l l':List α},B3 lt l->B3 lt l'->Bg lt l l'->l=l'
 | [],[],_,_,_=>rfl
 | [],b::r',_,_,h=>by have:=(h.bA).DP z (Bp (a:=b) (l:=r'));cases this
 | a::r,[],_,_,h=>by have:=h.DP z (Bp (a:=a) (l:=r));cases this
 | a::r,b::r',h1,h2,h=>by
  have Y:=Di.1 h1;have hb:=Di.1 h2;have W:lt a b=false:=by
   rcases BF.1 (h.DP z (Bp (a:=a) (l:=r))) with rfl|I
   ·exact z.Ie _
   ·exact hb.1 a I
  have O:lt b a=false:=by
   rcases BF.1 (h.bA.DP z (Bp (a:=b) (l:=r'))) with rfl|I
   ·exact z.Ie _
   ·exact Y.1 b I
  have he:eqv lt a b=true:=by simp[eqv,W,O]
  have X:=h a;rw[Iy (z.ev a),Iy he]at X;obtain rfl:a=b:=(Pq X).1;refine E5 (a :: ·) (z.ef Y.2 hb.2 λx=>?_);have H:=h x;cases hc:eqv lt x a with
  | true=>rw[Iy hc,Iy hc]at H;exact(Pq H).2
  | false=>rw[Kd (by rw[hc];decide),Kd (by rw[hc];decide)]at H;exact H
def A0p{x y:α}{l:List α}:y∈EZ lt x l↔y=x\/y∈l:=by
 induction l with
 | nil=>simp[EZ]
 | cons z r ih=>
  unfold EZ;split
  ·simp
  ·simp only[BF,ih];constructor
   ·rintro (h|h|h)
    ·exact .inr (.inl h)
    ·exact .inl h
    ·exact .inr (.inr h)
   ·rintro (h|h|h)
    ·exact .inr (.inl h)
    ·exact .inl h
    ·exact .inr (.inr h)
def BX.eR(O:BX lt){x:α}{l:List α}(h:B3 lt l):B3 lt (EZ lt x l):=by
 induction l with
 | nil=>simp[EZ,B3]
 | cons z r ih=>
  have W:=Di.1 h;unfold EZ;split
  ·rename_i I;refine Di.2 ⟨λy H=>?_,h⟩;rcases BF.1 H with rfl|H
   ·exact O.cc I
   ·exact O.cX (O.cc I) (W.1 y H)
  ·rename_i I;refine Di.2 ⟨λy H=>?_,ih W.2⟩;rcases A0p.1 H with rfl|H
   ·simpa using I
   ·exact W.1 y H
def BX.eD(O:BX lt){x:α}{l:List α}(h:B3 lt l):Bg lt (l++[x]) (EZ lt x l):=by
 induction l with
 | nil=>exact Bg.C _
 | cons z r ih=>
  have X:=Di.1 h;unfold EZ;split
  ·rename_i W;refine O.cQ λy I=>?_;rcases BF.1 I with rfl|I
   ·exact W
   ·rcases O.KA x y z W with H|H
    ·exact H
    ·rw[X.1 y I]at H;cases H
  ·simpa using(Bg.C (lt:=lt) [z]).al (ih X.2)
def BX.cY(z:BX lt):∀(l s:List α),B3 lt s->B3 lt (l.foldl (λs x=>EZ lt x s) s)/\Bg lt (s++l) (l.foldl (λs x=>EZ lt x s) s)
 | [],s,h=>⟨h,by simpa using Bg.C (lt:=lt) s⟩
 | x::r,s,h=>by
  have⟨h1,h2⟩:=z.cY r _ (z.eR (x:=x) h);refine⟨h1,Bg.AJ ?_ h2⟩;have:=(z.eD (x:=x) h).al (Bg.C (lt:=lt) r);simpa using this
def BX.ep(h:BX lt)(l:List α):B3 lt (E8 lt l):=(h.cY l [] List.Pairwise.nil).1
def BX.cv(h:BX lt)(l:List α):Bg lt l (E8 lt l):=by
 have:=(h.cY l [] List.Pairwise.nil).2;rw[F7]at this;exact this
def BX.ek(z:BX lt){l l':List α}(h:B3 lt l')(H:Bg lt l l'):l'=E8 lt l:=
 z.ef h (z.ep l) (H.bA.AJ (z.cv l))
def B3.al{a b:List α}(h:B3 lt (a++b)):B3 lt a/\B3 lt b/\∀x∈a,∀y∈b,lt y x=false:=by
 have:=Eu.1 h;exact⟨this.1,this.2.1,this.2.2⟩
def B3.cB{a b:List α}(z:B3 lt a)(H:B3 lt b)(h:∀x∈a,∀y∈b,lt y x=false):B3 lt (a++b):=Eu.2 ⟨z,H,h⟩
def BX.eU(X:BX lt){h I H z s1 s2:List α}(hA:B3 lt (h++I))(hB:B3 lt (H++z))(h1:∀x∈h,∀y∈z,lt y x=false)(Y:∀x∈I,∀y∈H,lt y x=true)(k1:B3 lt s1)(k2:B3 lt s2)(e1:Bg lt (h++H) s1)(e2:Bg lt (I++z) s2):B3 lt (s1++s2)/\Bg lt (h++I++(H++z)) (s1++s2):=by
 have⟨a1,a2,a3⟩:=hA.al;have⟨b1,b2,b3⟩:=hB.al;refine⟨B3.cB k1 k2 λx W y O=>?_,?_⟩
 ·rcases AU.1 (e1.bA.DP X W) with W|W<;>rcases AU.1 (e2.bA.DP X O) with O|O
  ·exact a3 x W y O
  ·exact h1 x W y O
  ·exact X.cc (Y y O x W)
  ·exact b3 x W y O
 ·have m:=((Bg.C (lt:=lt) h).al (X.er Y)).al (Bg.C z);have e:h++I++(H++z)=h++(I++H)++z:=by simp
  have e':h++(H++I)++z=h++H++(I++z):=by simp
  rw[e];refine m.AJ ?_;rw[e'];exact e1.al e2
def BX.cD(z:BX lt){a b:List α}(ha:B3 lt a)(hb:B3 lt b)(h:∀x y,a.getLast?=some x->b.head?=some y->lt y x=false):∀x∈a,∀y∈b,lt y x=false:=by
 intro x hx y Y;rcases Lk a with rfl|⟨a',H,rfl⟩
 ·cases hx
 cases b with
 | nil=>cases Y
 | cons y0 b'=>
  have h0:=h H y0 (by simp) rfl;have W:lt H x=false:=by
   (have I:x∈a'\/x=H:=by simpa using hx);rcases I with O|rfl
   ·exact(B3.al (by simpa using ha)).2.2 x O H (by simp)
   ·exact z.Ie _
  have X:lt y y0=false:=by
   rcases BF.1 Y with rfl|O
   ·exact z.Ie _
   ·exact(Di.1 hb).1 y O
  exact z.cX (z.cX W h0) X
def BX.dc(I:BX lt){a b:List α}(ha:B3 lt a)(hb:B3 lt b)(h:∀x y,a.getLast?=some y->b.head?=some x->lt y x=true):∀x∈b,∀y∈a,lt y x=true:=by
 intro x hx y hy;rcases Lk a with rfl|⟨a',H,rfl⟩
 ·cases hy
 cases b with
 | nil=>cases hx
 | cons x0 b'=>
  have h0:=h x0 H (by simp) rfl;have Y:lt H y=false:=by
   (have O:y∈a'\/y=H:=by simpa using hy);rcases O with W|rfl
   ·exact(B3.al (by simpa using ha)).2.2 y W H (by simp)
   ·exact I.Ie _
  have X:lt x x0=false:=by
   rcases BF.1 hx with rfl|W
   ·exact I.Ie _
   ·exact(Di.1 hb).1 x W
  have h1:lt y x0=true:=by
   rcases I.KA H y x0 h0 with z|z
   ·rw[Y]at z;cases z
   ·exact z
  rcases I.KA y x x0 h1 with z|z
  ·exact z
  ·rw[X]at z;cases z
end
section
variable{α:Type}{lt:α->α->Bool}
def B3.b1{l:List α}(h:B3 lt l)(k:Nat):B3 lt (l.take k):=(B3.al (by rw[DK];exact h)).1
def B3.cH{l:List α}(h:B3 lt l)(k:Nat):B3 lt (l.drop k):=(B3.al (a:=l.take k) (by rw[DK];exact h)).2.1
def B3.CP{l:List α}(h:B3 lt l)(k:Nat):∀x∈l.take k,∀y∈l.drop k,lt y x=false:=(B3.al (a:=l.take k) (by rw[DK];exact h)).2.2
def B3.Gv(x:α):B3 lt [x]:=MP _ x
def BX.eN(H:BX lt){x:α}{V:List α}(z:B3 lt V)(k:Nat)(Y:∀y,(V.take k).getLast?=some y->lt y x=true)(X:∀y,(V.drop k).head?=some y->lt y x=false):
 B3 lt (V.take k++x::V.drop k)/\Bg lt (x::V) (V.take k++x::V.drop k):=by
 have W:=H.dc (z.b1 k) (B3.Gv x) λa y h O=>by cases O;exact Y y h
 have b2:=H.cD (B3.Gv x) (z.cH k) λa y O h=>by cases O;exact X y h
 refine⟨B3.cB (z.b1 k) (Di.2 ⟨λy h=>b2 x (by simp) y h,z.cH k⟩) λu hu v I=>?_,?_⟩
 ·rcases BF.1 I with rfl|I
  ·exact H.cc (W v (by simp) u hu)
  ·exact z.CP k u hu v I
 ·have m:=(H.dH (x:=x) (ys:=V.take k) λy h=>W x (by simp) y h).al (Bg.C (lt:=lt) (V.drop k));have e1:x::V.take k++V.drop k=x::V:=by rw[Fb,DK]
  have e2:V.take k++[x]++V.drop k=V.take k++x::V.drop k:=by simp
  rw[e1,e2]at m;exact m
def BX.fE(H:BX lt){y:α}{U:List α}(z:B3 lt U)(k:Nat)(h1:∀x,(U.take k).getLast?=some x->lt y x=false)(Y:∀x,(U.drop k).head?=some x->lt y x=true):
 B3 lt (U.take k++y::U.drop k)/\Bg lt (U++[y]) (U.take k++y::U.drop k):=by
 have X:=H.cD (z.b1 k) (B3.Gv y) λx a h O=>by cases O;exact h1 x h
 have W:=H.dc (B3.Gv y) (z.cH k) λx a O h=>by cases O;exact Y x h
 refine⟨B3.cB (z.b1 k) (Di.2 ⟨λx h=>H.cc (W x h y (by simp)),z.cH k⟩) λu hu v I=>?_,?_⟩
 ·rcases BF.1 I with rfl|I
  ·exact X u hu v (by simp)
  ·exact z.CP k u hu v I
 ·have m:=(Bg.C (lt:=lt) (U.take k)).al (H.cQ (y:=y) (xs:=U.drop k) λx h=>W x h y (by simp));have e1:U.take k++(U.drop k++[y])=U++[y]:=by rw[<-C6,DK]
  rw[e1]at m;exact m
def M4{l:List α}{k:Nat}(h:k+1<=l.length):(l.take (k+1)).getLast?=some (l[k]'h):=by
 rw[Dz h];exact List.getLast?_concat
def head_drop{l:List α}{k:Nat}(h:k<l.length):(l.drop k).head?=some (l[k]'h):=by
 rw[Fy h];rfl
end
section
variable{α:Type}{lt:α->α->Bool}
def G5(lt:α->α->Bool)(D:List α)(n s0 h s r:Nat):Prop:=
 s0<=s/\s<=r/\r<=h/\(s0<s->∀x y,D[s-1]?=some x->D[n-s]?=some y->lt y x=false)/\(r<h->∀x y,D[r]?=some x->D[n-1-r]?=some y->lt y x=true)
def A1g{A U V Z D:List α}{n s0 r0 s:Nat}(hD:D=A++U++V++Z)(hU:2<=U.length)(hV:2<=V.length)(hn:n=(A.length+(A.length+U.length+V.length))/2+(A.length+U.length))(Y:if (A.length+(A.length+U.length+V.length))/2<A.length+U.length then s0=n-(A.length+U.length+V.length)/\r0=(A.length+(A.length+U.length+V.length))/2 else s0=A.length/\r0=A.length+U.length)(h:G5 lt D n s0 r0 s s):∃U1 U2 V1 V2,U=U1++U2/\V=V1++V2/\A.length+U1.length=s/\n-s=A.length+U.length+V1.length/\U1.length+V1.length=(A.length+(A.length+U.length+V.length))/2-A.length/\
  (∀x y,U1.getLast?=some x->V2.head?=some y->lt y x=false)/\(∀x y,V1.getLast?=some y->U2.head?=some x->lt y x=true):=by
 obtain⟨h1,-,h3,h4,h5⟩:=h;generalize hmid:(A.length+(A.length+U.length+V.length))/2=mid at hn Y ⊢;have hsa:A.length<=s/\s<=A.length+U.length/\A.length+U.length<=n-s/\n-s<=A.length+U.length+V.length:=by
  split at Y<;>omega
 obtain⟨k,hk⟩:∃k,s=A.length+k:=⟨s-A.length,by omega⟩;obtain⟨j,hj⟩:∃j,n-s=A.length+U.length+j:=⟨n-s-(A.length+U.length),by omega⟩;have aB:k<=U.length:=by omega
 have aA:j<=V.length:=by omega
 have l1:(U.take k).length=k:=by rw[BU];omega
 have l2:(V.take j).length=j:=by rw[BU];omega
 have W:∀i (O:i<U.length),D[A.length+i]?=some (U[i]'O):=λi O=>by
  rw[hD,Iw (by simp;omega),Iw (by simp;omega),Ht (by omega)];simp[O]
 have X:∀i (O:i<V.length),D[A.length+U.length+i]?=some (V[i]'O):=λi O=>by
  rw[hD,Iw (by simp;omega),Ht (by simp)];simp[O]
 refine⟨U.take k,U.drop k,V.take j,V.drop j,(DK ..).symm,(DK ..).symm,by omega,by omega,by omega,λx y I H=>?_,λx y H I=>?_⟩
 ·rcases A2L k with h|h
  ·subst h;simp at I
  ·obtain⟨k,rfl⟩:∃q,k=q+1:=⟨k-1,by omega⟩;rw[M4 aB]at I;rcases F6 j V.length with z|z
   ·rw[head_drop z]at H;refine h4 (by split at Y<;>omega) x y ?_ ?_
    ·rw[show s-1=A.length+k by omega,W k (by omega)];exact I
    ·rw[hj,X j z];exact H
   ·rw[MW z]at H;cases H
 ·rcases A2L j with h|h
  ·subst h;simp at H
  ·obtain⟨j,rfl⟩:∃q,j=q+1:=⟨j-1,by omega⟩;rw[M4 aA]at H;rcases F6 k U.length with z|z
   ·rw[head_drop z]at I;refine h5 (by split at Y<;>omega) x y ?_ ?_
    ·rw[hk,W k z];exact I
    ·rw[show n-1-s=A.length+U.length+j by omega,X j (by omega)];exact H
   ·rw[MW z]at I;cases I
def G5.up{D:List α}{n s0 H s r c:Nat}{x y:α}(h:G5 lt D n s0 H s r)(hc:s<=c/\c<r)(hx:D[c]?=some x)(X:D[n-1-c]?=some y)(W:lt y x=false):G5 lt D n s0 H (c+1) r:=by
 obtain⟨h1,h2,Y,h4,O⟩:=h;refine⟨by omega,by omega,Y,λ_ a b I z=>?_,O⟩;rw[A2O,hx]at I;rw[show n-(c+1)=n-1-c by omega,X]at z;cases I;cases z;exact W
def G5.eF{D:List α}{n s0 H s r c:Nat}{x y:α}(h:G5 lt D n s0 H s r)(hc:s<=c/\c<r)(hx:D[c]?=some x)(Y:D[n-1-c]?=some y)(X:lt y x=true):G5 lt D n s0 H s c:=by
 obtain⟨W,h2,h3,O,h5⟩:=h;refine⟨W,by omega,by omega,O,λ_ a b I z=>?_⟩;rw[hx]at I;rw[Y]at z;cases I;cases z;exact X
def G5.fc(D:List α)(n:Nat){s0 z:Nat}(h:s0<=z):G5 lt D n s0 z s0 z:=⟨Aq _,h,Aq _,λh=>absurd h (Gj _),λh=>absurd h (Gj _)⟩
def EB(lt:α->α->Bool)(B:Nat)(P:Nat->Prop)(l:List α):Prop:=∀i,P i->B3 lt ((l.drop (i*B)).take B)
def A1h{A M M' Z:List α}(h:M.length=M'.length)(p q:Nat)(z:p+q<=A.length\/A.length+M.length<=p):((A++M++Z).drop p).take q=((A++M'++Z).drop p).take q:=by
 rcases z with z|z
 ·have e:∀X:List α,((A++X++Z).drop p).take q=(A.drop p).take q:=λX=>by
   rw[C6,Ll (by omega),GW (by rw[CM];omega)]
  rw[e,e]
 ·have e:∀X:List α,A.length+X.length<=p->((A++X++Z).drop p).take q=(Z.drop (p-(A.length+X.length))).take q:=λX H=>by
   rw[Lm,MW (by simpa using H),F7,AX]
  rw[e M z,e M' (by omega),h]
def A1i{A M Z:List α}{p q:Nat}(hp:A.length=p)(z:M.length<=q)(H:M.length<q->Z=[]):((A++M++Z).drop p).take q=M:=by
 rw[C6,Lm,MW (by omega),F7,show p-A.length=0 by omega,Dj];rcases F6 M.length q with h|h
 ·rw[H h,Fz,Ez z]
 ·rw[show q=M.length by omega,K5]
def EB.CK{l:List α}{B:Nat}(h:EB lt B (λ_=>True) l)(z:l.length<=B):B3 lt l:=by
 have:=h 0 trivial
 rwa [Nat.zero_mul,Dj,Ez z]at this
def QA(l:List α){a b c:Nat}(h1:a<=b)(h2:b<=c):l=l.take a++(l.drop a).take (b-a)++(l.drop b).take (c-b)++l.drop c:=by
 have h:(l.drop a).take (b-a)++l.drop b=l.drop a:=by
  have:=DK (b-a) (l.drop a)
  rwa [List.drop_drop,show a+(b-a)=b by omega]at this
 have z:(l.drop b).take (c-b)++l.drop c=l.drop b:=by
  have:=DK (c-b) (l.drop b)
  rwa [List.drop_drop,show b+(c-b)=c by omega]at this
 rw[C6,C6,z,h,DK]
end
end
end Go.Proofs.YtodcnkbblippnabGreatDoor
