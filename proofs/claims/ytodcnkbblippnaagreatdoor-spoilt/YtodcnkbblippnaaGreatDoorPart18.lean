/- Part 18 of a proof: walks of the program. -/
import Derived.Test.YtodcnkbblippnaaGreatDoorPart17
namespace Go.Proofs.YtodcnkbblippnaaGreatDoor
set_option maxRecDepth 100000
set_option maxHeartbeats 32000000
set_option linter.defProp false
open Go.Proofs.Tryz
section
open Go.RowKit
section
variable{α:Type}(lt:α->α->Bool)
structure BS:Prop where
 IM:∀x,lt x x=false
 Av:∀x y z,lt x y=true->lt y z=true->lt x z=true
 Ls:∀x y z,lt x z=true->lt x y=true\/lt y z=true
def eqv(x y:α):Bool:=!lt x y && !lt y x
def Bh(l l':gh α):Prop:=∀x,l.filter (eqv lt x)=l'.filter (eqv lt x)
def B3(l:gh α):Prop:=l.Pairwise λx y=>lt y x=false
variable{lt}
def Bh.I(l:gh α):Bh lt l l:=λ_=>rfl
def Bh.bE{l l':gh α}(h:Bh lt l l'):Bh lt l' l:=λx=>(h x).symm
def Bh.Av{l l' d:gh α}(h:Bh lt l l')(z:Bh lt l' d):Bh lt l d:=λx=>(h x).trans (z x)
def Bh.ak{a a' b d:gh α}(h:Bh lt a a')(z:Bh lt b d):Bh lt (a++b) (a'++d):=λx=>by
 rw[NT,NT,h x,z x]
def BS.eC(h:BS lt)(x:α):eqv lt x x=true:=by simp[eqv,h.IM]
def BS.cd(h:BS lt){x y:α}(d:lt x y=true):lt y x=false:=by
 cases hyx:lt y x with
 | false=>rfl
 | true=>have:=h.Av _ _ _ d hyx;rw[h.IM]at this;cases this
def BS.dn(h:BS lt){x y z:α}(H:lt y x=false)(E:lt z y=false):lt z x=false:=by
 cases hzx:lt z x with
 | false=>rfl
 | true=>rcases h.Ls z y x hzx with d|d
         ·rw[E]at d;cases d
         ·rw[H]at d;cases d
def BS.fG(h:BS lt){x y z:α}(E:lt y z=true)(H:eqv lt x y=true):eqv lt x z=false:=by
 cases hz:eqv lt x z with
 | false=>rfl
 | true=>
  simp[eqv]at H hz;rcases h.Ls y x z E with d|d
  ·rw[H.2]at d;cases d
  ·rw[hz.1]at d;cases d
def BS.fK(h:BS lt){x y:α}(d:lt y x=true):Bh lt [x,y] [y,x]:=λz=>by
 simp only[Fh,List.filter_nil];cases h1:eqv lt z y with
 | false=>cases eqv lt z x<;>rfl
 | true=>rw[h.fG d h1];rfl
def BS.dR(h:BS lt){x:α}{ys:gh α}(hy:∀y∈ys,lt y x=true):Bh lt (x::ys) (ys++[x]):=by
 induction ys with
 | nil=>exact Bh.I _
 | cons y r ih=>
  have E:Bh lt (x::y::r) (y::x::r):=by
   have:=(h.fK (hy y (Bt ..))).ak (Bh.I (lt:=lt) r);simpa using this
  have d:Bh lt (y::x::r) (y::(r++[x])):=by
   have:=(Bh.I (lt:=lt) [y]).ak (ih λz H=>hy z (Bp _ H));simpa using this
  exact E.Av d
def BS.ez(h:BS lt){xs ys:gh α}(d:∀x∈xs,∀y∈ys,lt y x=true):Bh lt (xs++ys) (ys++xs):=by
 induction xs with
 | nil=>simpa using Bh.I (lt:=lt) ys
 | cons x r ih=>
  have H:=ih λz L=>d z (Bp _ L);have E:Bh lt (x::(r++ys)) (x::(ys++r)):=by simpa using(Bh.I (lt:=lt) [x]).ak H
  have I:=(h.dR (d x (Bt ..))).ak (Bh.I r);have:=E.Av I;simpa using this
def BS.cY(h:BS lt){y:α}{xs:gh α}(hy:∀x∈xs,lt y x=true):Bh lt (xs++[y]) (y::xs):=by
 simpa using h.ez (xs:=xs) (ys:=[y]) λx E z d=>by simp at d;subst d;exact hy x E
def Bh.DG{l l':gh α}(d:BS lt)(h:Bh lt l l'){x:α}(z:x∈l):x∈l':=by
 have:x∈l.filter (eqv lt x):=GX.2 ⟨z,d.eC x⟩;rw[h x]at this;exact(GX.1 this).1
def BS.ek(d:BS lt):∀ {l l':gh α},B3 lt l->B3 lt l'->Bh lt l l'->l=l'
 | [],[],_,_,_=>rfl
 | [],b::r',_,_,h=>by have:=(h.bE).DG d (Bt (a:=b) (l:=r'));cases this
 | a::r,[],_,_,h=>by have:=h.DG d (Bt (a:=a) (l:=r));cases this
 | a::r,b::r',h1,h2,h=>by
  have O:=D7.1 h1;have W:=D7.1 h2;have I:lt a b=false:=by
   rcases BB.1 (h.DG d (Bt (a:=a) (l:=r))) with rfl|E
   ·exact d.IM _
   ·exact W.1 a E
  have H:lt b a=false:=by
   rcases BB.1 (h.bE.DG d (Bt (a:=b) (l:=r'))) with rfl|E
   ·exact d.IM _
   ·exact O.1 b E
  have Y:eqv lt a b=true:=by simp[eqv,I,H]
  have L:=h a;rw[Ja (d.eC a),Ja Y]at L;obtain rfl:a=b:=(List.cons.inj L).1;refine ES (a :: ·) (d.ek O.2 W.2 λx=>?_);have z:=h x;cases hc:eqv lt x a with
  | true=>rw[Ja hc,Ja hc]at z;exact(List.cons.inj z).2
  | false=>rw[KT (by rw[hc];decide),KT (by rw[hc];decide)]at z;exact z
def A15{x y:α}{l:gh α}:y∈Fa lt x l↔y=x\/y∈l:=by
 induction l with
 | nil=>simp[Fa]
 | cons z r ih=>
  unfold Fa;split
  ·simp
  ·simp only[BB,ih];constructor
   ·rintro (h|h|h)
    ·exact .inr (.inl h)
    ·exact .inl h
    ·exact .inr (.inr h)
   ·rintro (h|h|h)
    ·exact .inr (.inl h)
    ·exact .inl h
    ·exact .inr (.inr h)
def BS.eW(E:BS lt){x:α}{l:gh α}(h:B3 lt l):B3 lt (Fa lt x l):=by
 induction l with
 | nil=>simp[Fa,B3]
 | cons z r ih=>
  have H:=D7.1 h;unfold Fa;split
  ·rename_i d;refine D7.2 ⟨λy hy=>?_,h⟩;rcases BB.1 hy with rfl|hy
   ·exact E.cd d
   ·exact E.dn (E.cd d) (H.1 y hy)
  ·rename_i d;refine D7.2 ⟨λy hy=>?_,ih H.2⟩;rcases A15.1 hy with rfl|hy
   ·simpa using d
   ·exact H.1 y hy
def BS.eJ(E:BS lt){x:α}{l:gh α}(h:B3 lt l):Bh lt (l++[x]) (Fa lt x l):=by
 induction l with
 | nil=>exact Bh.I _
 | cons z r ih=>
  have I:=D7.1 h;unfold Fa;split
  ·rename_i H;refine E.cY λy hy=>?_;rcases BB.1 hy with rfl|hy
   ·exact H
   ·rcases E.Ls x y z H with d|d
    ·exact d
    ·rw[I.1 y hy]at d;cases d
  ·simpa using(Bh.I (lt:=lt) [z]).ak (ih I.2)
def BS.dp(d:BS lt):∀(l s:gh α),B3 lt s->B3 lt (l.foldl (λs x=>Fa lt x s) s)/\Bh lt (s++l) (l.foldl (λs x=>Fa lt x s) s)
 | [],s,h=>⟨h,by simpa using Bh.I (lt:=lt) s⟩
 | x::r,s,h=>by
  have⟨h1,h2⟩:=d.dp r _ (d.eW (x:=x) h);refine⟨h1,Bh.Av ?_ h2⟩;have:=(d.eJ (x:=x) h).ak (Bh.I (lt:=lt) r);simpa using this
def BS.ew(d:BS lt)(l:gh α):B3 lt (Ec lt l):=(d.dp l [] List.Pairwise.nil).1
def BS.cu(d:BS lt)(l:gh α):Bh lt l (Ec lt l):=by
 have:=(d.dp l [] List.Pairwise.nil).2;rw[Ff]at this;exact this
def BS.et(d:BS lt){l l':gh α}(h:B3 lt l')(z:Bh lt l l'):l'=Ec lt l:=
 d.ek h (d.ew l) (z.bE.Av (d.cu l))
def B3.ak{a b:gh α}(h:B3 lt (a++b)):B3 lt a/\B3 lt b/\∀x∈a,∀y∈b,lt y x=false:=by
 have:=Ez.1 h;exact⟨this.1,this.2.1,this.2.2⟩
def B3.cA{a b:gh α}(d:B3 lt a)(z:B3 lt b)(h:∀x∈a,∀y∈b,lt y x=false):B3 lt (a++b):=Ez.2 ⟨d,z,h⟩
def BS.eZ(H:BS lt){d A2 z h s1 s2:gh α}(hA:B3 lt (d++A2))(hB:B3 lt (z++h))(Y:∀x∈d,∀y∈h,lt y x=false)(I:∀x∈A2,∀y∈z,lt y x=true)(W:B3 lt s1)(k2:B3 lt s2)(O:Bh lt (d++z) s1)(L:Bh lt (A2++h) s2):B3 lt (s1++s2)/\Bh lt (d++A2++(z++h)) (s1++s2):=by
 have⟨a1,a2,a3⟩:=hA.ak;have⟨b1,b2,b3⟩:=hB.ak;refine⟨B3.cA W k2 λx E y hy=>?_,?_⟩
 ·rcases AU.1 (O.bE.DG H E) with E|E<;>rcases AU.1 (L.bE.DG H hy) with hy|hy
  ·exact a3 x E y hy
  ·exact Y x E y hy
  ·exact H.cd (I y hy x E)
  ·exact b3 x E y hy
 ·have m:=((Bh.I (lt:=lt) d).ak (H.ez I)).ak (Bh.I h);have e:d++A2++(z++h)=d++(A2++z)++h:=by simp
  have e':d++(z++A2)++h=d++z++(A2++h):=by simp
  rw[e];refine m.Av ?_;rw[e'];exact O.ak L
def BS.cD(d:BS lt){a b:gh α}(W:B3 lt a)(hb:B3 lt b)(h:∀x y,a.getLast?=some x->b.head?=some y->lt y x=false):∀x∈a,∀y∈b,lt y x=false:=by
 intro x O y hy;rcases Mn a with rfl|⟨a',z,rfl⟩
 ·cases O
 cases b with
 | nil=>cases hy
 | cons y0 b'=>
  have Y:=h z y0 (by simp) rfl;have I:lt z x=false:=by
   (have E:x∈a'\/x=z:=by simpa using O);rcases E with H|rfl
   ·exact(B3.ak (by simpa using W)).2.2 x H z (by simp)
   ·exact d.IM _
  have L:lt y y0=false:=by
   rcases BB.1 hy with rfl|H
   ·exact d.IM _
   ·exact(D7.1 hb).1 y H
  exact d.dn (d.dn I Y) L
def BS.du(E:BS lt){a b:gh α}(ha:B3 lt a)(hb:B3 lt b)(h:∀x y,a.getLast?=some y->b.head?=some x->lt y x=true):∀x∈b,∀y∈a,lt y x=true:=by
 intro x W y hy;rcases Mn a with rfl|⟨a',z,rfl⟩
 ·cases hy
 cases b with
 | nil=>cases W
 | cons x0 b'=>
  have Y:=h x0 z (by simp) rfl;have O:lt z y=false:=by
   (have H:y∈a'\/y=z:=by simpa using hy);rcases H with I|rfl
   ·exact(B3.ak (by simpa using ha)).2.2 y I z (by simp)
   ·exact E.IM _
  have L:lt x x0=false:=by
   rcases BB.1 W with rfl|I
   ·exact E.IM _
   ·exact(D7.1 hb).1 x I
  have h1:lt y x0=true:=by
   rcases E.Ls z y x0 Y with d|d
   ·rw[O]at d;cases d
   ·exact d
  rcases E.Ls y x x0 h1 with d|d
  ·exact d
  ·rw[L]at d;cases d
end
section
variable{α:Type}{lt:α->α->Bool}
def B3.b6{l:gh α}(h:B3 lt l)(k:Nat):B3 lt (l.take k):=(B3.ak (by rw[DU];exact h)).1
def B3.cL{l:gh α}(h:B3 lt l)(k:Nat):B3 lt (l.drop k):=(B3.ak (a:=l.take k) (by rw[DU];exact h)).2.1
def B3.Ce{l:gh α}(h:B3 lt l)(k:Nat):∀x∈l.take k,∀y∈l.drop k,lt y x=false:=(B3.ak (a:=l.take k) (by rw[DU];exact h)).2.2
def B3.Gl(x:α):B3 lt [x]:=NM _ x
def BS.eS(h:BS lt){x:α}{V:gh α}(d:B3 lt V)(k:Nat)(L:∀y,(V.take k).getLast?=some y->lt y x=true)(I:∀y,(V.drop k).head?=some y->lt y x=false):
 B3 lt (V.take k++x::V.drop k)/\Bh lt (x::V) (V.take k++x::V.drop k):=by
 have H:=h.du (d.b6 k) (B3.Gl x) λa y hy E=>by cases E;exact L y hy
 have W:=h.cD (B3.Gl x) (d.cL k) λa y E hy=>by cases E;exact I y hy
 refine⟨B3.cA (d.b6 k) (D7.2 ⟨λy hy=>W x (by simp) y hy,d.cL k⟩) λu hu v z=>?_,?_⟩
 ·rcases BB.1 z with rfl|z
  ·exact h.cd (H v (by simp) u hu)
  ·exact d.Ce k u hu v z
 ·have m:=(h.dR (x:=x) (ys:=V.take k) λy hy=>H x (by simp) y hy).ak (Bh.I (lt:=lt) (V.drop k));have Y:x::V.take k++V.drop k=x::V:=by rw[FD,DU]
  have O:V.take k++[x]++V.drop k=V.take k++x::V.drop k:=by simp
  rw[Y,O]at m;exact m
def BS.fR(z:BS lt){y:α}{U:gh α}(h:B3 lt U)(k:Nat)(W:∀x,(U.take k).getLast?=some x->lt y x=false)(O:∀x,(U.drop k).head?=some x->lt y x=true):
 B3 lt (U.take k++y::U.drop k)/\Bh lt (U++[y]) (U.take k++y::U.drop k):=by
 have L:=z.cD (h.b6 k) (B3.Gl y) λx a d H=>by cases H;exact W x d
 have I:=z.du (B3.Gl y) (h.cL k) λx a H d=>by cases H;exact O x d
 refine⟨B3.cA (h.b6 k) (D7.2 ⟨λx d=>z.cd (I x d y (by simp)),h.cL k⟩) λu hu v E=>?_,?_⟩
 ·rcases BB.1 E with rfl|E
  ·exact L u hu v (by simp)
  ·exact h.Ce k u hu v E
 ·have m:=(Bh.I (lt:=lt) (U.take k)).ak (z.cY (y:=y) (xs:=U.drop k) λx d=>I x d y (by simp));have Y:U.take k++(U.drop k++[y])=U++[y]:=by rw[<-Ch,DU]
  rw[Y]at m;exact m
def N0{l:gh α}{k:Nat}(d:k+1<=l.length):(l.take (k+1)).getLast?=some (l[k]'d):=by
 rw[Dy d];exact List.getLast?_concat
def head_drop{l:gh α}{k:Nat}(d:k<l.length):(l.drop k).head?=some (l[k]'d):=by
 rw[FB d];rfl
end
section
variable{α:Type}{lt:α->α->Bool}
def Gf(lt:α->α->Bool)(D:gh α)(n s0 d s r:Nat):Prop:=
 s0<=s/\s<=r/\r<=d/\(s0<s->∀x y,D[s-1]?=some x->D[n-s]?=some y->lt y x=false)/\(r<d->∀x y,D[r]?=some x->D[n-1-r]?=some y->lt y x=true)
def A2V{A U V Z D:gh α}{n s0 W s:Nat}(hD:D=A++U++V++Z)(hU:2<=U.length)(hV:2<=V.length)(hn:n=(A.length+(A.length+U.length+V.length))/2+(A.length+U.length))(L:if (A.length+(A.length+U.length+V.length))/2<A.length+U.length then s0=n-(A.length+U.length+V.length)/\W=(A.length+(A.length+U.length+V.length))/2 else s0=A.length/\W=A.length+U.length)(h:Gf lt D n s0 W s s):∃U1 U2 V1 V2,U=U1++U2/\V=V1++V2/\A.length+U1.length=s/\n-s=A.length+U.length+V1.length/\U1.length+V1.length=(A.length+(A.length+U.length+V.length))/2-A.length/\
  (∀x y,U1.getLast?=some x->V2.head?=some y->lt y x=false)/\(∀x y,V1.getLast?=some y->U2.head?=some x->lt y x=true):=by
 obtain⟨h1,-,h3,h4,h5⟩:=h;generalize hmid:(A.length+(A.length+U.length+V.length))/2=mid at hn L ⊢;have hsa:A.length<=s/\s<=A.length+U.length/\A.length+U.length<=n-s/\n-s<=A.length+U.length+V.length:=by
  split at L<;>omega
 obtain⟨k,hk⟩:∃k,s=A.length+k:=⟨s-A.length,by omega⟩;obtain⟨j,hj⟩:∃j,n-s=A.length+U.length+j:=⟨n-s-(A.length+U.length),by omega⟩;have Y:k<=U.length:=by omega
 have O:j<=V.length:=by omega
 have l1:(U.take k).length=k:=by rw[BT];omega
 have l2:(V.take j).length=j:=by rw[BT];omega
 have H:∀i (E:i<U.length),D[A.length+i]?=some (U[i]'E):=λi E=>by
  rw[hD,J9 (by simp;omega),J9 (by simp;omega),HV (by omega)];simp[E]
 have I:∀i (E:i<V.length),D[A.length+U.length+i]?=some (V[i]'E):=λi E=>by
  rw[hD,J9 (by simp;omega),HV (by simp)];simp[E]
 refine⟨U.take k,U.drop k,V.take j,V.drop j,(DU ..).symm,(DU ..).symm,by omega,by omega,by omega,λx y z hy=>?_,λx y hy z=>?_⟩
 ·rcases A4S k with h|h
  ·subst h;simp at z
  ·obtain⟨k,rfl⟩:∃q,k=q+1:=⟨k-1,by omega⟩;rw[N0 Y]at z;rcases Fc j V.length with d|d
   ·rw[head_drop d]at hy;refine h4 (by split at L<;>omega) x y ?_ ?_
    ·rw[show s-1=A.length+k by omega,H k (by omega)];exact z
    ·rw[hj,I j d];exact hy
   ·rw[NW d]at hy;cases hy
 ·rcases A4S j with h|h
  ·subst h;simp at hy
  ·obtain⟨j,rfl⟩:∃q,j=q+1:=⟨j-1,by omega⟩;rw[N0 O]at hy;rcases Fc k U.length with d|d
   ·rw[head_drop d]at z;refine h5 (by split at L<;>omega) x y ?_ ?_
    ·rw[hk,H k d];exact z
    ·rw[show n-1-s=A.length+U.length+j by omega,I j (by omega)];exact hy
   ·rw[NW d]at z;cases z
def Gf.up{D:gh α}{n s0 z s r c:Nat}{x y:α}(h:Gf lt D n s0 z s r)(hc:s<=c/\c<r)(O:D[c]?=some x)(hy:D[n-1-c]?=some y)(I:lt y x=false):Gf lt D n s0 z (c+1) r:=by
 obtain⟨h1,h2,L,h4,H⟩:=h;refine⟨by omega,by omega,L,λ_ a b E d=>?_,H⟩;rw[A4V,O]at E;rw[show n-(c+1)=n-1-c by omega,hy]at d;cases E;cases d;exact I
def Gf.eL{D:gh α}{n s0 z s r c:Nat}{x y:α}(h:Gf lt D n s0 z s r)(hc:s<=c/\c<r)(O:D[c]?=some x)(hy:D[n-1-c]?=some y)(L:lt y x=true):Gf lt D n s0 z s c:=by
 obtain⟨I,h2,h3,H,h5⟩:=h;refine⟨I,by omega,by omega,H,λ_ a b E d=>?_⟩;rw[O]at E;rw[hy]at d;cases E;cases d;exact L
def Gf.fp(D:gh α)(n:Nat){s0 d:Nat}(h:s0<=d):Gf lt D n s0 d s0 d:=⟨Ao _,h,Ao _,λh=>absurd h (Ge _),λh=>absurd h (Ge _)⟩
def EI(lt:α->α->Bool)(B:Nat)(P:Nat->Prop)(l:gh α):Prop:=∀i,P i->B3 lt ((l.drop (i*B)).take B)
def A2W{A M M' Z:gh α}(h:M.length=M'.length)(p q:Nat)(d:p+q<=A.length\/A.length+M.length<=p):((A++M++Z).drop p).take q=((A++M'++Z).drop p).take q:=by
 rcases d with d|d
 ·have e:∀X:gh α,((A++X++Z).drop p).take q=(A.drop p).take q:=λX=>by
   rw[Ch,Mo (by omega),Hc (by rw[CO];omega)]
  rw[e,e]
 ·have e:∀X:gh α,A.length+X.length<=p->((A++X++Z).drop p).take q=(Z.drop (p-(A.length+X.length))).take q:=λX z=>by
   rw[Mp,NW (by simpa using z),Ff,AY]
  rw[e M d,e M' (by omega),h]
def A2X{A M Z:gh α}{p q:Nat}(hp:A.length=p)(d:M.length<=q)(z:M.length<q->Z=[]):((A++M++Z).drop p).take q=M:=by
 rw[Ch,Mp,NW (by omega),Ff,show p-A.length=0 by omega,Dz];rcases Fc M.length q with h|h
 ·rw[z h,GJ,EG d]
 ·rw[show q=M.length by omega,KJ]
def EI.Ck{l:gh α}{B:Nat}(h:EI lt B (λ_=>True) l)(d:l.length<=B):B3 lt l:=by
 have:=h 0 trivial
 rwa [Nat.zero_mul,Dz,EG d]at this
def RT(l:gh α){a b c:Nat}(h1:a<=b)(h2:b<=c):l=l.take a++(l.drop a).take (b-a)++(l.drop b).take (c-b)++l.drop c:=by
 have d:(l.drop a).take (b-a)++l.drop b=l.drop a:=by
  have:=DU (b-a) (l.drop a)
  rwa [List.drop_drop,show a+(b-a)=b by omega]at this
 have h:(l.drop b).take (c-b)++l.drop c=l.drop b:=by
  have:=DU (c-b) (l.drop b)
  rwa [List.drop_drop,show b+(c-b)=c by omega]at this
 rw[Ch,Ch,h,d,DU]
end
structure CP (a c m:Nat):Prop where
 a:a<=1073741824
 c:c<=1000000000000
 m:m<=4294967296
def Fit.ei{P:PD}{a c m:Nat}(h:Fit P a c m)(d:CP a c m):B6 P.F P.D.A4<=4611686018427387904:=
 AJ h.cV (AJ (Ih d.a d.m) (by decide))
def Kt{P:PD}{a c m:Nat}(h:Fit P a c m)(nm:gg):(Cz P.D P.F nm).1<=m:=by
 unfold Cz;cases hx:lookup P.D.A4 nm with
 | none=>simp
 | some f=>have:=h.B4 f (FP hx);simp;omega
section
variable{w:ga}{b fb:Nat}{P:PD}{Ft:Nat->Prop}{T:TypeId}{nd:gg}{s a c m:Nat}
def A27(H:Bd w fb T (A5 b) nd s)(h:Bf w b P Ft)(E:Fit P a c m)(z:CP a c m):
 Ag 240 #[A5 fb] w (Am (A0 (P.ai nd).1) λw'=>Aq w Ft w' (λw' d=>Bf w' b (P.ai nd).2 d)):=
 Vw H h P.D.AR P.D.cg (by have:=E.A4;have:=E.Al;have:=z.a;have:=z.c;omega)
def RB(z:Bd w fb T (A5 b) nd s)(h:Bf w b P Ft):
 Ag 164 #[A5 fb] w (Am (A0 (P.ad nd).1) λw'=>Aq w Ft w' (λw' d=>Bf w' b (P.ad nd).2 d)):=XL z h
def JR(w:ga)(Ft:Nat->Prop)(fb:Nat)(w':ga)(b:Nat)(P:PD):Prop:=L1 w Ft fb w' b P.D P.F
def A4K(z:Bd w fb T (A5 b) nd s)(I:s<4294967296)(h:Bf w b P Ft)(E:∀k,Ft k->k<w.heap.size)(O:¬Ft fb)(l:Bs)(hll:l.length<=4294967296)(d:Fit P a c m)(H:CP a c m):
 Ag 237 #[A5 fb,.string ⟨l.toArray⟩] w (Am (.tuple #[.bool (P.ae nd s l).1,A0 (P.ae nd s l).2.1]) λw'=>Bd w' fb T (A5 b) nd (AP s l)/\JR w Ft fb w' b (P.ae nd s l).2.2):=by
 have hm:=H.m;have hp:(AS s l).length=l.length+4:=by simp[AS,Hh]
 have L:=d.ak nd (AS s l);have hz:=Kt L nd;have hz2:=Kt d nd
 exact addF z I h E O l d.AA (d.ei H) d.BC (λf z=>by have:=d.B4 f (FP z);omega) (by omega) ⟨by
  show (Cz (P.ak nd (AS s l)).2.D (P.ak nd (AS s l)).2.F nd).1<=_;omega,by omega⟩
def R7(nm l:Bs)(hs:s<4294967296)(h:Bf w b P Ft)(aA:∀k,Ft k->k<w.heap.size)(aL:l.length<=4294967296)(hF:Fit P a c m)(hl:CP (a+1) (c+1) m):
 Ag 196 #[.agg #[A5 b,.string ⟨nm.toArray⟩,.int .u32 s],.string ⟨l.toArray⟩] w (Am (A0 (P.aH nm s l).1) λw'=>Aq w Ft w' (λw' aD=>Bf w' b (P.aH nm s l).2 aD)):=by
 have aM:CP a c m:=⟨by have:=hl.a;omega,by have:=hl.c;omega,hl.m⟩;have aH:Bd (w.aC #[A5 b,.string (A6 nm),.int .u32 s] 160) w.heap.size 160 (A5 b) (A6 nm) s:=BL w _;have k0:A3 Ab w (w.aC #[A5 b,.string (A6 nm),.int .u32 s] 160):=(A3.I _ w).al _;have h0:Bf (w.aC #[A5 b,.string (A6 nm),.int .u32 s] 160) b P Ft:=B1.ay h aA k0;have CR:=A1 (A27 aH h0 hF aM);have AD:Hid (∀H,Bd H w.heap.size 160 (A5 b) (A6 nm) s->∀d,Bf H b (P.ai (A6 nm)).2 d->(∀k,d k->k<H.heap.size)->¬d w.heap.size->_):=λH q1 d q2 q3 q4=>A4K q1 hs q2 q3 q4 l aL (hF.ai (A6 nm)) hl;have aE:Hid (∀H,Bd H w.heap.size 160 (A5 b) (A6 nm) (AP s l)->∀d,Bf H b ((P.ai (A6 nm)).2.ae (A6 nm) s l).2.2 d->_):=λH q1 d q2=>RB q1 q2;have aS:=A1 aH;have a1:=A1 k0;have aG:=A1 aA
 have W:Hid (P.aH nm s l=if (P.ai (A6 nm)).1≠0 then P.ai (A6 nm) else
  if ((P.ai (A6 nm)).2.ae (A6 nm) s l).2.1≠0 then ((P.ai (A6 nm)).2.ae (A6 nm) s l).2 else
  ((P.ai (A6 nm)).2.ae (A6 nm) s l).2.2.ad (A6 nm)):=rfl
 generalize hR:P.aH nm s l=R at W ⊢;generalize hC:P.ai (A6 nm)=C at W CR AD aE;generalize hD:C.2.ae (A6 nm) s l=D at W AD aE;generalize hE:D.2.2.ad (A6 nm)=E at W aE
 go_enter func196,ntmps196
 go_wp2_with (fail);refine CR.k ?_;rintro H⟨aI,d,q2,q3,q4⟩;have aJ:=A1 (aS.o.an aI λh=>Ge _ (aG.o _ h));have aV:Hid (A3 (λk=>Ft k) w H):=(a1.o.aY).tr aI;have aQ:Hid (w.heap.size<H.heap.size):=aJ.o.lt;have a5:=A1 q2;have a0:=A1 q3;have aK:Hid (∀k,d k->Ft k\/w.heap.size<k):=λk L=>(q4 k L).imp id λh=>by simp at h;omega
 have aZ:Hid (¬d w.heap.size):=λL=>(aK.o _ L).elim (λh=>Ge _ (aG.o _ h)) λh=>Ge _ h
 have aF:=A1 (AD.o H aJ.o d q2 q3 aZ.o);by_cases hc:C.1=0
 case neg=>
  have hR:R=C:=by rw[W.o,Ae hc]
  have hb:(C.1 !=0)=true:=by simpa using hc
  go_wp2;go_ret;subst hR;exact⟨rfl,aV.o,d,a5.o,a0.o,λk L=>(aK.o k L).imp id ET⟩
 case pos=>
 have hb:(C.1 !=0)=false:=by simpa using hc
 have aW:Hid (R=if D.2.1≠0 then D.2 else E):=by rw[W.o,Aa (by simpa using hc)];rfl
 have aN:∀I,(Bd I w.heap.size 160 (A5 b) (A6 nm) (AP s l)/\JR H d w.heap.size I b D.2.2)->Hid (A3 (λk=>Ft k) w I/\∃z,Bf I b D.2.2 z/\(∀k,z k->k<I.heap.size)/\(∀k,z k->Ft k\/w.heap.size<k)/\Ag 164 #[A5 w.heap.size] I (Am (A0 E.1) λw'=>Aq I z w' (λw' aD=>Bf w' b E.2 aD))):=by
  rintro I⟨Y,O,z,p2,p3,p4⟩;refine⟨aV.o.Av O λx hx aA=>hx.elim (λh=>(aK.o x h).resolve_right (by omega)) λh=>by omega,z,p2,p3,λk L=>(p4 k L).elim (λh=>aK.o k h) λh=>.inr (by have:=aQ.o;omega),aE.o I Y z p2⟩
 have aB:=A1 aN;by_cases hd:D.2.1=0
 case neg=>
  have hR:R=D.2:=by rw[aW.o,Ae hd]
  have aR:(D.2.1 !=0)=true:=by simpa using hd
  go_wp2_with (go_at_call 237;refine aF.k ?_;rintro I⟨Y,O⟩;have a3:=aB.o I ⟨Y,O⟩);go_ret;subst hR;obtain⟨k2,z,p2,p3,p5,-⟩:=a3.o;exact⟨rfl,k2,z,p2,p3,λk L=>(p5 k L).imp id ET⟩
 case pos=>
 have aR:(D.2.1 !=0)=false:=by simpa using hd
 have hR:R=E:=by rw[aW.o,Aa (by simpa using hd)]
 subst hR;go_wp2_with (fail);refine aF.k ?_;rintro I⟨Y,O⟩;have⟨k2,z,p2,p3,p5,sy⟩:=(aB.o I ⟨Y,O⟩).o;have aU:=A1 k2;have aX:=A1 p5;have aE:=A1 sy;go_wp2_with (go_at_call 164;refine aE.k ?_;rintro w3⟨aT,aO,r2,r3,r4⟩;have aP:=A1 aT;have a2:=A1 r2;have aY:=A1 r3;have a4:=A1 r4);go_ret;exact⟨rfl,aU.o.Av aP.o λx hx aA=>(aX.o x hx).resolve_right (by omega),aO,a2.o,aY.o,λk L=>(a4.o k L).elim (λh=>(aX.o k h).imp id ET) λh=>.inr (by have:=aU.o.Aj;omega)⟩
end
def Kz{P:PD}{a c m:Nat}(h:Fit P a c m)(nm:Bs):(P.Ck nm).1.length<=m:=by
 unfold PD.Ck DQ;cases hx:lookup P.D.A4 (A6 nm) with
 | none=>simp
 | some f=>exact h.B4 f (FP hx)
section
variable{w:ga}{b:Nat}{P:PD}{Ft:Nat->Prop}{a c m:Nat}
def T3(nm:Bs)(h:Bf w b P Ft)(H:∀k,Ft k->k<w.heap.size)(hF:Fit P a c m)(hl:CP a c m):
 Ag 126 #[.agg #[A5 b,.string ⟨nm.toArray⟩,.int .u32 (AB nm)]] w (Am (.tuple #[.string ⟨(P.aS nm).1.toArray⟩,A0 (P.aS nm).2]) λw'=>A3 Ab w w'):=by
 have aF:=Kz hF nm;have hm:=hl.m;have aD:=Iw nm;obtain⟨s,hs⟩:∃s,AB nm=s:=⟨_,rfl⟩
 have aE:Hid (P.aS nm=if (P.Ck nm).2≠0 then ([],(P.Ck nm).2) else match G2 s (P.Ck nm).1 with
  | some d=>(d,0)
  | none=>([],7)):=by rw[<-hs];rfl
 generalize W:P.aS nm=R at aE ⊢;rw[hs]at aD ⊢;have aA:Bd (w.aC #[A5 b,.string (A6 nm),.int .u32 s] 160) w.heap.size 160 (A5 b) (A6 nm) s:=BL w _;have k0:A3 Ab w (w.aC #[A5 b,.string (A6 nm),.int .u32 s] 160):=(A3.I _ w).al _;have aN:=A1 (Wm aA (B1.ay h H k0));obtain⟨x,Y⟩:∃x,P.Ck nm=x:=⟨_,rfl⟩;have I:Hid (Ag 166 #[A5 w.heap.size] (w.aC #[A5 b,.string (A6 nm),.int .u32 s] 160) (Am (.tuple #[.string ⟨x.1.toArray⟩,A0 x.2]) λw'=>A3 Ab (w.aC #[A5 b,.string (A6 nm),.int .u32 s] 160) w')):=by
  rw[<-Y];exact aN.o
 rw[Y]at aE aF;obtain⟨t,ae⟩:=x;dsimp only at aE aF I;have aJ:=A1 aA;have aL:=A1 k0;have aI:=A1 aD
 go_enter func126,ntmps126
 by_cases he:ae=0
 case neg=>
  have hb:(ae !=0)=true:=by simpa using he
  have W:R=([],ae):=by rw[aE.o,Ae he]
  subst W;go_wp2_with (go_at_call 166;refine I.k ?_;rintro z E;have aH:=A1 E);go_ret2;exact⟨rfl,aL.o.tr aH.o⟩
 case pos=>
 subst he
 have aG:Hid (R=match G2 s t with
  | some d=>(d,0)
  | none=>([],7)):=by rw[aE.o,Aa (by simp)];rfl
 have aO:Hid (∀z,Bd z w.heap.size 160 (A5 b) (A6 nm) s->∃(d:Bs) (ok:Bool),R=(if ok then (d,0) else ([],7))/\Ag 167 #[A5 w.heap.size,.string ⟨t.toArray⟩] z (Am (.tuple #[.string ⟨d.toArray⟩,.bool ok]) λw'=>A3 (One w.heap.size) z w')):=λz aK=>by
  by_cases h4:t.length<4
  ·refine⟨[],false,?_,?_⟩
   ·rw[aG.o];unfold G2;rw[Ae h4];rfl
   ·refine(XC z w.heap.size t h4).k ?_;rintro w' rfl;exact⟨rfl,A3.I _ _⟩
  ·refine⟨t.take (t.length-4),decide (BM (AP s (t.take (t.length-4)))=t.drop (t.length-4)),?_,?_⟩
   ·rw[aG.o];unfold G2;rw[Aa h4];by_cases hq:BM (AP s (t.take (t.length-4)))=t.drop (t.length-4)
    ·rw[Ae hq,CM hq];rfl
    ·rw[Aa hq,De hq];rfl
   ·have:=Of z w.heap.size 160 (A5 b) (A6 nm) s (t.take (t.length-4)) (t.drop (t.length-4)) aK aI.o (by rw[CO];omega) (by rw[BT];omega);rw[DU]at this;refine this.mono ?_;rintro e w'⟨h1,h2,h3⟩;exact⟨h1,h3⟩
 go_wp2_with (fail);refine I.k ?_;rintro z E;have⟨d,ok,W,hun⟩:=aO.o z (aJ.o.an E (λh=>h));have aM:Hid (A3 Ab w z):=aL.o.tr E;have aB:=A1 hun;cases ok with
 | false=>
  simp only[QW,C9]at W;subst W;go_wp2_with (go_at_call 167;refine aB.k ?_;rintro w2 L;have O:=A1 L);go_ret2;exact⟨rfl,aM.o.Av O.o λx Y H=>by cases Y;omega⟩
 | true=>
  simp only[Cp]at W;subst W;go_wp2_with (go_at_call 167;refine aB.k ?_;rintro w2 L;have O:=A1 L);go_ret2;exact⟨rfl,aM.o.Av O.o λx Y H=>by cases Y;omega⟩
end
def Tryz.cU:(Tryz.prog.info? 3).map (λi=>(i.zero,i.size,i.bytes))=some (some (A0 0),1,8):=by kernel_rfl
def A1S{k:Nat}{l:Bs}(h:l.length<8):Fs k l=[]:=by cases k<;>simp[Fs,h]
def PN(l:Bs): -9223372036854775808<=BI l/\BI l<=9223372036854775807:=by unfold BI wrap64;omega
def A1Q(w:ga)(E:Bs)(hl0:E.length<=4294967296):
 Calls Tryz.prog 127 #[.string ⟨E.toArray⟩] w λe w'=>∃v,e=.returned v/\DF w' v (Et E)/\(∀g,v.ownBlock=some g->w.heap.size<=g)/\A3 (λ_=>False) w w':=by
 obtain⟨R,hR⟩:∃R,Et E=R:=⟨_,rfl⟩;have aT:Hid (Fs E.length E=R):=hR;rw[hR];obtain⟨i0,hi,aF,aI,aJ⟩:∃i0,Tryz.prog.info? 3=some i0/\i0.zero=some (.int .i64 0)/\i0.size=1/\i0.bytes=8:=by
  have h:=Tryz.cU;cases hx:Tryz.prog.info? 3 with
  | none=>rw[hx]at h;cases h
  | some i=>rw[hx]at h;simp at h;exact⟨i,rfl,h.1,h.2.1,h.2.2⟩
 go_enter func127,ntmps127
 go_wp2;go_loopw [0,3] (λtv v wr=>∃(l:Bs) (k:Nat) (d:gh Int),tv=.string ⟨l.toArray⟩/\d.length*8+l.length<=E.length/\Hid (DF wr v d/\(∀g,v.ownBlock=some g->w.heap.size<=g)/\A3 (λ_=>False) w wr/\l.length<=k/\R=d++Fs k l)) (λtv _ _=>match tv with | .string x=>x.size|_=>0)
 ·exact⟨E,E.length,[],rfl,by simp,CT _ _ _ _,λg H=>by simp[Value.ownBlock]at H,A3.I _ _,Ao _,by rw[aT.o];rfl⟩
 ·obtain⟨l,k,d,rfl,aA,hI⟩:=hrel;have z:(ByteArray.mk l.toArray).size=l.length:=by show l.toArray.size=_;simp
  by_cases h8:l.length<8
  case pos=>
   obtain⟨i1,i2,i3,-,i5⟩:=hI.o;rw[A1S h8,GJ]at i5;subst i5;(have aE:¬(8<=(l.length:Int)):=by omega);have aO:=A1 i1;have aS:=A1 i2;have aP:=A1 i3;go_wp2;go_ret;exact⟨_,rfl,aO.o,aS.o,aP.o⟩
  case neg=>
   have⟨i1,i2,i3,i4,i5⟩:=hI.o;obtain⟨k,rfl⟩:∃k',k=k'+1:=⟨k-1,by omega⟩;have aH:Hid (R=(d++[BI l])++Fs k (l.drop 8)):=by
    unfold Hid;rw[i5];simp[Fs,h8]
   have L:=A1 (N4 wr l (by omega));have hx:=PN l;generalize hxe:BI l=x at aH L hx;obtain⟨ap,cp,rfl,hcap1,W,-⟩:=B9 i1;unfold maxLen at W;have e2:(ByteArray.mk l.toArray).extract 8 l.length=⟨(l.drop 8).toArray⟩:=by
    rw[extract_mk,EG (by rw[CO];omega)]
   have O:(l.drop 8).length=l.length-8:=CO;generalize hq:l.drop 8=q at e2 aH O;generalize htx:ByteArray.mk l.toArray=tx at e2 z L ⊢;generalize hll:l.length=ll at e2 z O aA h8 i4;(have h8i:(8:Int)<=(ll:Int):=by omega);have aM:=A1 i1;have aN:=A1 i2;have aL:=A1 i3;have aQ:=A1 i4;have I:=A1 O;have aD:=A1 aA
   go_wp2_with (first
    | (go_at_call 168;refine L.k ?_;rintro w4 rfl)
    | (at_builtin
       have aB:Hid ((wr.alloc (.cells #[.int .i64 x] 3)).ownsRow 0 3 1 (.slice ap d.length cp) d.length (DZ d)):=Ax aM.o λg H=>Di _ _ _ (AF aM.o H);have aG:=A1 (Src.bh (size:=1) (B:=wr.heap.size) Ho wr #[.int .i64 x] 3 (by simp) 1 1 rfl (Kk [x]));refine Dj rfl (.tmp 9) (.tmp 12) 26 26 rfl 3 i0 _ 1 8 Ho hi aF aI aJ rfl (by decide) (.slice ap d.length cp) d.length (DZ d) (by rfl) aB.o _ 1 _ (by rfl) aG.o (by have:=aD.o;omega) ?_;intro a8 cap8 w8 Y;have aR:=A1 Y
       clear Y))
   go_roundw
   ·have Y:=aR.o;have aK:=Y.Al (S:=λk=>(Value.slice ap d.length cp).ownBlock=some k) λ_ h=>h;have k9:A3 (λ_=>False) wr (wr.alloc (.cells #[.int .i64 x] 3)):=(A3.I _ wr).al _;refine⟨q,k,d++[x],rfl,by have:=aD.o;have:=I.o;simp;omega,?_,?_,?_,by have:=aQ.o;have:=I.o;omega,aH.o⟩
    ·(have e:(d++[x]).length=d.length+1:=by simp);unfold DF;rw[LN,e];exact Y.AE
    ·intro g H;rcases Y.CA with h|h
     ·rw[h]at H;exact aN.o g H
     ·rw[h]at H;cases H;exact AJ aL.o.Aj k9.Aj
    ·exact(aL.o.tr k9).Av aK λy hy aE=>by have:=aN.o y hy;omega
   ·(have e:(ByteArray.mk q.toArray).size=q.length:=by show q.toArray.size=_;simp);have:=I.o;simp only[e,z];omega
def Tryz.fv:(Tryz.prog.info? 260).map (·.size)=some 2:=by kernel_rfl
def Tryz.fY:liesAt Tryz.prog Tryz.prog.depth 260 (2/Tryz.prog.cellsOf 260) 0 260 1=true:=by kernel_rfl
def GZ(B b:Nat)(l:gh UInt8)(w:ga):Prop:=Lib.IsBuilder 260 5 B b (Lib.byteCells l) w
def A3o(B b:Nat)(bs:gh gd)(w:ga)(h:Lib.IsBuilder 260 5 B b bs w):
 Ag 238 #[A5 b] w (Am (.tuple #[]) λw'=>(Lib.BuilderAt 260 5 B b (A5 b) bs w'/\Below B w w')):=by
 have⟨j,hj,hjs⟩:=A4O.1 Tryz.fv;rcases h with h|h
 ·have z:=h.cell0;have d:=h.shape;have hfz:=h.frozen0;have H:=A1 h
  go_enter func238,ntmps238
  go_wp2;rw[Lib.run_to_unsafe w (Ac b 0) underlying258 underlying217 hj (by rw[hjs];decide) d (Nat.zero_lt_succ 1)];simp only[Result.andThen];rw[WB];go_wp2;rw[Z8 func262 (by kernel_rfl) (by kernel_rfl) (by kernel_rfl) (e:=Extern.AbiNoEscape.same) (by kernel_rfl)];rw[Lib.run_noEscape];simp only[Result.andThen];rw[WB];go_wp2;rw[Lib.run_from_unsafe w (Ac b 0) underlying217 underlying258 hj d Tryz.fY];simp only[Result.andThen];rw[WB];go_wp2;go_end0;exact⟨rfl,H.o.used _,(O4 B w).setCell (p:=(Ac b 0)) H.o.1 _⟩
 ·have z:=h.cell0;have H:=A1 h
  go_enter func238,ntmps238
  go_wp2;rw[Lib.run_neq_ptr_same w _ underlying258 hj];go_wp2;go_end0;exact⟨rfl,H.o,O4 B _⟩
def Xj(B b:Nat)(bs:gh gd)(s:gg)(w:ga)(h:Lib.IsBuilder 260 5 B b bs w)(hlen:bs.length+s.size<=140737488355328)(hBw:B<=w.heap.size):
 Ag 194 #[A5 b,.string s] w (Am (.tuple #[A0 s.size,.nilIface]) λw'=>(Lib.BuilderAt 260 5 B b (A5 b) (bs++Lib.strCells s) w'/\Below B w w')):=by
 have⟨i0,hi,hz0,hz1,hz2⟩:=Eg Tryz.infoByte
 go_enter func194,ntmps194
 go_wp2_with (go_at_call 238;refine(A3o B b bs _ h).mono ?_);rintro e O⟨rfl,h1,L⟩;obtain⟨hB,v,E,I,aA⟩:=h1;have c0:O.cell? (Ac b 0)=some (A5 b):=by rw[QP E];rfl
 have c1:O.cell? (Ac b 1)=some v:=by rw[QP E];rfl
 go_wp2_with (at_builtin;refine Lib.wpList_append_own_string _ rfl _ _ 127 9 rfl B 5 i0 GA FR hi hz0 hz1 hz2 _ _ _ rfl I s rfl ?c3 ?c4 ?c5 ?_)
 case c3=>unfold maxLen;omega
 case c4=>omega
 case c5=>have:=L.size;omega
 intro v' W d z _;have Y:b<O.heap.size:=by
  rcases Fc b O.heap.size with h' | h'
  ·exact h'
  ·simp[Array.getElem?_eq_none h']at E
 have H:W.heap[b]?=some (.cells #[A5 b,v] 260 (0,0)):=by
  rw[z.block b Y (λe=>aA e.symm)];exact E
 have d0:W.cell? (Ac b 0)=some (A5 b):=by rw[QP H];rfl
 have d1:W.cell? (Ac b 1)=some v:=by rw[QP H];rfl
 have f1:W.frozen? (Ac b 1)=false:=Lib.frozen_of_heap H 1;obtain⟨ao,n',cap,rfl⟩:∃ao n' cap,v'=.slice ao n' cap:=by
  rcases d.2 with⟨hv,_⟩|⟨g,cap,cur,hv,_⟩
  ·exact⟨_,_,_,hv⟩
  ·exact⟨_,_,_,hv⟩
 go_wp2;go_ret2;refine⟨rfl,?_,?_⟩
 ·exact Lib.BuilderAt.put (T:=260) (e:=5) hB H (bs':=bs++Lib.strCells s) (by simpa[Lib.strCells_length] using d) (by decide)
 ·exact(L.grown z (by have:=L.size;omega) (λk hk=>(I.lt k hk).1)).setCell (p:=(Ac b 1)) hB _
def Ye(l:gh UInt8):Lib.strCells ⟨l.toArray⟩=Lib.byteCells l:=by
 simp[Lib.strCells,Lib.byteCells]
def O7{B b:Nat}{l t:gh UInt8}(w:ga)(h:GZ B b l w)(d:l.length+t.length<=140737488355328)(z:B<=w.heap.size):
 Calls Tryz.prog 194 #[.pointer (some ⟨b,0,none⟩),.string ⟨t.toArray⟩] w λe w'=>e=.returned (.tuple #[.int .i64 t.length,.nilIface])/\GZ B b (l++t) w'/\Below B w w':=by
 have H:(ByteArray.mk t.toArray).size=t.length:=by show t.toArray.size=_;simp
 refine(Xj B b (Lib.byteCells l) ⟨t.toArray⟩ w h (by rw[Lib.byteCells_length,H];exact d) z).k ?_;rintro w'⟨E,I⟩;refine⟨by rw[H],.inr ?_,I⟩;rw[Ye]at E;have:Lib.byteCells (l++t)=Lib.byteCells l++Lib.byteCells t:=by simp[Lib.byteCells]
 rw[this];exact E
def A3Z{B b:Nat}{l:gh UInt8}(w:ga)(h:GZ B b l w)(d:B<=w.heap.size):
 Ag 197 #[A5 b] w (Am (.string ⟨l.toArray⟩) λw'=>Below B w w'):=Tryz.Builder_String_any B b l w h d
def VX(w:ga):GZ w.heap.size w.heap.size [] (w.alloc (.cells #[.pointer none,.slice none 0 0] 260)):=
 .inl ⟨Ao _,_,BL w _,CT _ _ _ _,by simp[Value.ownBlock]⟩
def GZ.an{B b:Nat}{l:gh UInt8}{w w':ga}{S:Nat->Prop}(h:GZ B b l w)(H:A3 S w w')(E:∀k,S k->k<B):GZ B b l w':=by
 have key:∀p,Lib.BuilderAt 260 5 B b p (Lib.byteCells l) w->Lib.BuilderAt 260 5 B b p (Lib.byteCells l) w':=by
  rintro p⟨O,v,I,d,L⟩;refine⟨O,v,H.an I (λh=>by have:=E _ h;omega),?_,L⟩;exact Ax d λg z=>H.An g (AF d z) (λh=>by have:=E _ h;have:=(d.lt g z).1;omega)
 exact h.imp (key _) (key _)
end
section
open Go.RowKit
attribute [local go_sem ↓] CJ
def A1P(w:ga)(x:Int):Ag 169 #[A0 x] w (Am (.bool false) λw'=>w=w'):=by
 go_enter func169,ntmps169
 go_wp2;go_ret;exact⟨rfl,rfl⟩
def Qk(w:ga)(x y:Int):Ag 130 #[A0 x,A0 y] w (Am (A0 (Cn x y)) λw'=>w=w'):=by
 have d:=A1 (A1P);unfold Cn
 go_enter func130,ntmps130
 by_cases h:x<y
 ·rw[Ae h];go_wp2_with (go_at_call 169;refine(d.o _ _).k ?_;rintro w' rfl);go_ret;exact⟨rfl,rfl⟩
 ·by_cases z:y<x
  ·rw[Aa h,Ae z];go_wp2_with (go_at_call 169;refine(d.o _ _).k ?_;rintro w' rfl);go_ret;exact⟨rfl,rfl⟩
  ·rw[Aa h,Aa z];go_wp2_with (go_at_call 169;refine(d.o _ _).k ?_;rintro w' rfl);go_ret;exact⟨rfl,rfl⟩
def Ka(a b:Int):Int:=if a≠0 then a else b
def TI(w:ga)(g:Nat)(a b:Int)(h0:A7 w g 0 (A0 a))(h1:A7 w g 1 (A0 b)):
 Ag 156 #[AH g 2 2] w (Am (A0 (Ka a b)) λw'=>w=w'):=by
 unfold Ka
 go_enter func156,ntmps156
 by_cases d:a=0
 ·subst d;rw[Aa (by simp)];by_cases h:b=0
  ·subst h;go_wp2;refine Iq 3 ?_;rw[F6];go_wp2;rw[F6];go_wp2;rw[F6];go_wp2;go_ret;exact⟨rfl,rfl⟩
  ·(have hb':(b !=0)=true:=by simpa using h);go_wp2;refine Iq 2 ?_;rw[F6];go_wp2;rw[F6];go_wp2;go_ret;exact⟨rfl,rfl⟩
 ·rw[Ae d];have ha':(a !=0)=true:=by simpa using d
  go_wp2;refine Iq 1 ?_;rw[F6];go_wp2;go_ret;exact⟨rfl,rfl⟩
def A3G(p q:Pu):Cr p q=Ka (Cn p.1 q.1) (Cn p.2.1 q.2.1):=rfl
def DA(p:Pu):Value:=.agg #[A0 p.1,A0 p.2.1,A0 p.2.2]
def P4(w:ga)(p q:Pu):Ag 158 #[DA p,DA q] w (Am (A0 (Cr p q)) λw'=>A3 Ab w w'):=by
 obtain⟨E,d,I⟩:=p;obtain⟨z,H,O⟩:=q;rw[A3G];unfold DA;dsimp only
 have aG:=A1 (Qk);have OR:=A1 (TI);obtain⟨x,hx⟩:∃x,Cn E z=x:=⟨_,rfl⟩;obtain⟨y,hy⟩:∃y,Cn d H=y:=⟨_,rfl⟩;rw[hx,hy];have b1:C5 ((w.alloc (.cells #[A0 E,A0 d,A0 I] 113)).alloc (.cells #[A0 z,A0 H,A0 O] 113)) w.heap.size E d I:=(Di _ _ _ (by simp)).trans (BL w _);have b2:C5 ((w.alloc (.cells #[A0 E,A0 d,A0 I] 113)).alloc (.cells #[A0 z,A0 H,A0 O] 113)) (w.heap.size+1) z H O:=by
  have:=BL (w.alloc (.cells #[A0 E,A0 d,A0 I] 113)) (.cells #[A0 z,A0 H,A0 O] 113);simpa[C5] using this
 have k2:A3 Ab w ((w.alloc (.cells #[A0 E,A0 d,A0 I] 113)).alloc (.cells #[A0 z,A0 H,A0 O] 113)):=((A3.I _ w).al _).al _;have sz:((w.alloc (.cells #[A0 E,A0 d,A0 I] 113)).alloc (.cells #[A0 z,A0 H,A0 O] 113)).heap.size=w.heap.size+2:=by simp
 have Y:=A1 b1;have W:=A1 b2;have aF:=A1 k2;have aI:=A1 sz
 go_enter func158,ntmps158
 go_wp2;generalize ((w.alloc (.cells #[A0 E,A0 d,A0 I] 113)).alloc (.cells #[A0 z,A0 H,A0 O] 113))=w2 at Y W aF aI ⊢;refine Cc (λw'=>A7 w' w.heap.size 0 (A0 E)/\A7 w' w.heap.size 1 (A0 d)/\A7 w' (w.heap.size+1) 0 (A0 z)/\A7 w' (w.heap.size+1) 1 (A0 H)) 14
  (BG [0,1,2,3,5,6,7,8,9,10,4,11,12,13] [4,11,12,13]) ⟨Y.o.c0,Y.o.c1,W.o.c0,W.o.c1⟩ ?_
 iterate 10 refine Bq ?_
 refine Bx λK L=>?_;go_simp;have aA:=A1 Y.o.ag;have aD:=A1 W.o.ag;refine(aG.o _ _ _).k ?_;rintro w3 rfl;rw[hx];refine L _ _ ⟨aA.o.c0,aA.o.c1,aD.o.c0,aD.o.c1⟩ (λhS=>?_);refine Bx λK L=>?_;go_simp;refine(aG.o _ _ _).k ?_;rintro w4 rfl;rw[hy];refine L _ _ ⟨aA.o.c0,aA.o.c1,aD.o.c0,aD.o.c1⟩ (λhS=>?_);refine Bx λK L=>?_;go_simp;have ka:A3 Ab w2 (w2.alloc (.cells #[A0 x,A0 y] 3)).drew:=((A3.I _ _).al _).ag;have aE:=Y.o.an ka (λh=>h);have aB:=W.o.an ka (λh=>h);have hb:(w2.alloc (.cells #[A0 x,A0 y] 3)).drew.heap[w2.heap.size]?=some (.cells #[A0 x,A0 y] 3):=BL w2 _;refine L _ _ ⟨aE.c0,aE.c1,aB.c0,aB.c1⟩ (λhS=>?_);refine Bx λK L=>?_;go_simp;refine(OR.o _ _ x y (by simp only[A7,World.cell?,hb];rfl) (by simp only[A7,World.cell?,hb];rfl)).k ?_;rintro w5 rfl;refine L _ _ ⟨aE.c0,aE.c1,aB.c0,aB.c1⟩ (λhS=>?_);have aH:Hid (A3 Ab w (w2.alloc (.cells #[A0 x,A0 y] 3)).drew):=aF.o.tr ka;refine C8 ?_;go_wp2;go_ret;exact⟨rfl,aH.o⟩
def Xu{t len:Int}(h:1<=len):Bz t len=if t.tmod len<0 then t.tdiv len-1 else t.tdiv len:=by
 unfold Bz;have e1:=Int.mul_ediv_add_emod t len;have e2:=Ms t (b:=len) (by omega);have e3:=QT t (b:=len) (by omega);have f1:=A5h t len;have f3:t.tmod len<len:=X4 t (by omega);have f4 : -len<t.tmod len:=by
  by_cases h0:0<=t
  ·have:=Int.tmod_nonneg len h0;omega
  ·have:=X4 (-t) (b:=len) (by omega);rw[QS]at this;omega
 obtain⟨q,I⟩:∃q,t/len=q:=⟨_,rfl⟩;obtain⟨r,L⟩:∃r,t % len=r:=⟨_,rfl⟩;obtain⟨d,E⟩:∃d,t.tdiv len=d:=⟨_,rfl⟩;obtain⟨H,z⟩:∃H,t.tmod len=H:=⟨_,rfl⟩;rw[I,L]at e1;rw[L]at e2 e3;rw[E,z]at f1;rw[z]at f3 f4;rw[I,E,z];have key:len*(q-d)=H-r:=by
  have:len*(q-d)=len*q-len*d:=X7 ..;omega
 by_cases O:H<0
 ·rw[Ae O];have h1 : -(2*len)<len*(q-d):=by omega
  have Y:len*(q-d)<0:=by omega
  have W:q-d<0:=by
   rcases Mq (q-d) 0 with h|h
   ·exact h
   ·have:=Int.mul_nonneg (a:=len) (by omega) h;omega
  have k2 : -2<q-d:=by
   rcases Mq (-2) (q-d) with h|h
   ·exact h
   ·have:len*(q-d)<=len*(-2):=X8 h (by omega);omega
  omega
 ·rw[Aa O];have h1 : -len<len*(q-d):=by omega
  have Y:len*(q-d)<len:=by omega
  have W:q-d<1:=by
   rcases Mq (q-d) 1 with h|h
   ·exact h
   ·have:len*1<=len*(q-d):=X8 h (by omega);omega
  have k2 : -1<q-d:=by
   rcases Mq (-1) (q-d) with h|h
   ·exact h
   ·have:len*(q-d)<=len*(-1):=X8 h (by omega);omega
  omega
def XG{t len:Int}(I:AT t)(z:1<=len)(H:t.tmod len<0):AT (t.tdiv len-1):=by
 obtain⟨t1,t2⟩:=I;have f1:=A5h t len;have f4 : -len<t.tmod len:=by
  by_cases L:0<=t
  ·have:=Int.tmod_nonneg len L;omega
  ·have:=X4 (-t) (b:=len) (by omega);rw[QS]at this;omega
 obtain⟨q,E⟩:∃q,t.tdiv len=q:=⟨_,rfl⟩;obtain⟨r,d⟩:∃r,t.tmod len=r:=⟨_,rfl⟩;rw[E,d]at f1;rw[d]at f4 H;rw[E];constructor
 ·rcases Mq 0 q with h|h
  ·omega
  ·have:len*q<=1*q:=Int.mul_le_mul_of_nonpos_right z h;omega
 ·rcases Mq (q-1) 0 with h|h
  ·omega
  ·have h2:1*(q-1)<=len*(q-1):=Int.mul_le_mul_of_nonneg_right z h;have h3:len*(q-1)=len*q-len*1:=X7 ..;omega
def O9(w:ga)(t len:Int)(E:AT t)(h:1<=len/\len<=4611686018427387904):
 Ag 157 #[A0 t,A0 len] w (Am (A0 (Bz t len)) λw'=>w=w'):=by
 obtain⟨t1,t2⟩:=E;have hl0:¬len=0:=by omega
 rw[Xu h.1]
 go_enter func157,ntmps157
 by_cases d:t.tmod len<0
 ·rw[Ae d];have z:wrap64 (t.tdiv len-1)=t.tdiv len-1:=by
   have:=XG ⟨t1,t2⟩ h.1 d;unfold AT at this;unfold wrap64;omega
  go_wp2
  all_goals first|(exfalso;omega)|skip
  go_ret;refine⟨?_,rfl⟩;show Ending.returned (A0 (wrap64 (t.tdiv len-1)))=_;rw[z]
 ·rw[Aa d];go_wp2
  all_goals first|(exfalso;omega)|skip
  go_ret;exact⟨rfl,rfl⟩
def Sr{α:Type}(cmp:α->α->Int):∀(l:gh α) (k:Nat) (h:k+1<l.length),Cw cmp (l.drop k)=(decide (cmp (l[k]'(by omega)) (l[k+1]'h)<0)&&Cw cmp (l.drop (k+1))):=by
 intro l k h;rw[FB (by omega:k<l.length),FB h];rfl
def Sq{α:Type}(cmp:α->α->Int)(l:gh α)(k:Nat)(h:l.length<=k+1):Cw cmp (l.drop k)=true:=by
 have:(l.drop k).length<=1:=by rw[CO];omega
 match hx:l.drop k with
 | []=>rfl
 | [x]=>rfl
 | x::y::r=>rw[hx]at this;simp at this
def Qo(x y:Int):Cn x y = -1\/Cn x y=0\/Cn x y=1:=by
 unfold Cn;split
 ·exact .inl rfl
 ·split
  ·exact .inr (.inr rfl)
  ·exact .inr (.inl rfl)
def Zp(w:ga)(v:gd)(l:gh Int)(h:Db w v l)(hl:l.length<1099511627776):
 Ag 129 #[v,.func (.func 130) #[] #[]] w (Am (.bool (Cw Cn l)) λw'=>∃n,w'=w.drewN n):=by
 obtain⟨a,cap,rfl,h1,h2⟩:=h.Cd;unfold maxLen at h2;have aF:Hid (Cw Cn l=Cw Cn (l.drop 0)):=rfl;generalize hR:Cw Cn l=R at aF ⊢;have H:=A1 h
 go_enter func129,ntmps129
 go_wp2;go_loopw [5] (λiv wr=>∃k:Nat,iv=A0 ((k:Int)+1)/\k<=l.length/\(∃n,wr=w.drewN n)/\Hid (R=Cw Cn (l.drop k))) (λiv _=>l.length+1-(intOf iv).toNat)
 ·exact⟨0,rfl,by omega,⟨0,rfl⟩,aF.o⟩
 ·obtain⟨k,rfl,hk,⟨n,rfl⟩,O⟩:=hrel;by_cases z:k+1<l.length
  ·obtain⟨g,o,rfl,c1⟩:=Db.at H.o k (by omega);have⟨g',o',e,c2⟩:=Db.at H.o (k+1) z;cases e;have d:=O.o;rw[Sr Cn l k z]at d;have L:=Qo (l[k]'(by omega)) (l[k+1]'z);have W:=A1 (λn=>Qk (w.drewN n) (l[k]'(by omega)) (l[k+1]'z));obtain⟨x,hx⟩:∃x,(l[k]'(by omega))=x:=⟨_,rfl⟩;obtain⟨y,hy⟩:∃y,(l[k+1]'z)=y:=⟨_,rfl⟩;rw[hx]at c1 d L W;rw[hy]at c2 d L W;generalize aD:Cn x y=cc at d L W;have d1:∀n,A7 (w.drewN n) g (o+k) (A0 x):=λn=>c1;have d2:∀n,A7 (w.drewN n) g (o+(k+1)) (A0 y):=λn=>c2;have I:=A1 d;clear c1 c2 hx hy aD d O;(have aB:(k:Int)+1<(l.length:Int):=by omega);have hk0:=C3 k;(have hki2:(k:Int)<(l.length:Int):=by omega);have aE:IntKind.i64.wrap (k:Int)=k:=En (by omega);(have ew1:IntKind.i64.wrap ((k:Int)+1-1)=k:=by rw[JS];exact aE);(have tk:((k:Int)+1).toNat=k+1:=by omega);(have pk:(0:Int)<=(k:Int)+1:=by omega);by_cases hc:cc<0
   ·have E:Hid (R=Cw Cn (l.drop (k+1))):=by
     have:=I.o;rw[CM hc,O3]at this;exact this
    clear I;(have aA:¬(0<=cc):=by omega);go_wp2;refine Cc (λw'=>A7 w' g (o+k) (A0 x)/\A7 w' g (o+(k+1)) (A0 y)) 11
     (BG [0,1,2,3,4,5,6,7,8,9,10] [10]) ⟨d1 (n+1),d2 (n+1)⟩ ?_
    iterate 10 refine Bq ?_
    refine Bx λK Y=>?_;go_simp;refine(W.o (n+1)).k ?_;rintro w3 rfl;refine Y _ _ ⟨d1 (n+1),d2 (n+1)⟩ (λhS=>?_);clear Y K hS;refine C8 ?_;go_wp2;go_roundw
    ·exact⟨k+1,by go_num,by omega,⟨n+1,rfl⟩,E.o⟩
    ·simp[intOf];omega
   ·have E:R=false:=by
     have:=I.o;rw[De hc,Xc]at this;exact this
    clear I;subst E;(have aA:0<=cc:=by omega);go_wp2;refine Cc (λw'=>A7 w' g (o+k) (A0 x)/\A7 w' g (o+(k+1)) (A0 y)) 11
     (BG [0,1,2,3,4,5,6,7,8,9,10] [10]) ⟨d1 (n+1),d2 (n+1)⟩ ?_
    iterate 10 refine Bq ?_
    refine Bx λK Y=>?_;go_simp;refine(W.o (n+1)).k ?_;rintro w3 rfl;refine Y _ _ ⟨d1 (n+1),d2 (n+1)⟩ (λhS=>?_);refine C8 ?_;go_wp2;go_ret;exact⟨rfl,_,rfl⟩
  ·(have E:R=true:=by rw[O.o,Sq Cn l k (by omega)]);subst E;(have aB:¬((k:Int)+1<(l.length:Int)):=by omega);go_wp2;go_ret;exact⟨rfl,_,rfl⟩
def VP(p q:Pu):Cr p q = -1\/Cr p q=0\/Cr p q=1:=by
 unfold Cr;split<;>exact Qo _ _
def Zo(w:ga)(v:gd)(l:gh Pu)(h:HR w v l)(hl:l.length<1099511627776):
 Ag 177 #[v,.func (.func 158) #[] #[]] w (Am (.bool (Cw Cr l)) λw'=>A3 Ab w w'):=by
 obtain⟨a,cap,rfl,h1,h2⟩:=h.Cd;unfold maxLen at h2;have aQ:Hid (Cw Cr l=Cw Cr (l.drop 0)):=rfl;generalize hR:Cw Cr l=R at aQ ⊢;have H:=A1 h
 go_enter func177,ntmps177
 go_wp2;go_loopw [5] (λiv wr=>∃k:Nat,iv=A0 ((k:Int)+1)/\k<=l.length/\Hid (A3 Ab w wr)/\Hid (R=Cw Cr (l.drop k))) (λiv _=>l.length+1-(intOf iv).toNat)
 ·exact⟨0,rfl,by omega,A3.I _ _,aQ.o⟩
 ·obtain⟨k,rfl,hk,z,aD⟩:=hrel;by_cases O:k+1<l.length
  ·obtain⟨g,o,rfl,-,c1,c2,c3⟩:=HR.at H.o k (by omega);obtain⟨g',o',e,-,c4,c5,c6⟩:=HR.at H.o (k+1) O;cases e;have d:=aD.o;rw[Sr Cr l k O]at d;have aA:=VP (l[k]'(by omega)) (l[k+1]'O);have aE:=A1 (λE=>P4 E (l[k]'(by omega)) (l[k+1]'O));obtain⟨x,W⟩:∃x,(l[k]'(by omega))=x:=⟨_,rfl⟩;obtain⟨y,hy⟩:∃y,(l[k+1]'O)=y:=⟨_,rfl⟩;rw[W]at c1 c2 c3 d aA aE;rw[hy]at c4 c5 c6 d aA aE;obtain⟨x1,x2,x3⟩:=x;obtain⟨y1,y2,y3⟩:=y;generalize hcc:Cr (x1,x2,x3) (y1,y2,y3)=cc at d aA aE;dsimp only at c1 c2 c3 c4 c5 c6;have d1:=z.o.ag.ao c1;have d2:=z.o.ag.ao c2;have d3:=z.o.ag.ao c3;have d4:=z.o.ag.ao c4;have d5:=z.o.ag.ao c5;have d6:=z.o.ag.ao c6;have aF:=A1 d;have aJ:=A1 c1;have aM:=A1 c2;have aL:=A1 c3;have aG:=A1 c4;have aN:=A1 c5;have aH:=A1 c6;(have aI:(k:Int)+1<(l.length:Int):=by omega);have hk0:=C3 k;(have hki2:(k:Int)<(l.length:Int):=by omega);have aK:IntKind.i64.wrap (k:Int)=k:=En (by omega);(have ew1:IntKind.i64.wrap ((k:Int)+1-1)=k:=by rw[JS];exact aK);(have tk:((k:Int)+1).toNat=k+1:=by omega);(have pk:(0:Int)<=(k:Int)+1:=by omega);have Y:Hid (∀E,A3 Ab wr.drew E->(A7 E g (o+k*3) (A0 x1)/\A7 E g (o+k*3+1) (A0 x2)/\A7 E g (o+k*3+2) (A0 x3)/\A7 E g (o+(k+1)*3) (A0 y1)/\A7 E g (o+(k+1)*3+1) (A0 y2)/\A7 E g (o+(k+1)*3+2) (A0 y3))/\A3 Ab w E):=λE W=>
    ⟨⟨W.ao (z.o.ag.ao aJ.o),W.ao (z.o.ag.ao aM.o),W.ao (z.o.ag.ao aL.o),W.ao (z.o.ag.ao aG.o),W.ao (z.o.ag.ao aN.o),W.ao (z.o.ag.ao aH.o)⟩,z.o.ag.tr W⟩
   by_cases aB:cc<0
   ·have I:Hid (R=Cw Cr (l.drop (k+1))):=by
     have:=aF.o;rw[CM aB,O3]at this;exact this
    (have aO:¬(0<=cc):=by omega);go_wp2;refine Cc (λw'=>A7 w' g (o+k*3) (A0 x1)/\A7 w' g (o+k*3+1) (A0 x2)/\A7 w' g (o+k*3+2) (A0 x3)/\A7 w' g (o+(k+1)*3) (A0 y1)/\A7 w' g (o+(k+1)*3+1) (A0 y2)/\A7 w' g (o+(k+1)*3+2) (A0 y3)) 11
     (BG [0,1,2,3,4,5,6,7,8,9,10] [10]) ⟨d1,d2,d3,d4,d5,d6⟩ ?_
    iterate 10 refine Bq ?_
    refine Bx λK hK=>?_;go_simp;refine(aE.o _).k ?_;rintro w3 L;refine hK _ _ (Y.o w3 L).1 (λhS=>?_);have aP:=A1 (Y.o w3 L).2;refine C8 ?_;go_wp2;go_roundw
    ·exact⟨k+1,by go_num,by omega,aP.o,I.o⟩
    ·simp[intOf];omega
   ·have I:R=false:=by
     have:=aF.o;rw[De aB,Xc]at this;exact this
    subst I;(have aO:0<=cc:=by omega);go_wp2;refine Cc (λw'=>A7 w' g (o+k*3) (A0 x1)/\A7 w' g (o+k*3+1) (A0 x2)/\A7 w' g (o+k*3+2) (A0 x3)/\A7 w' g (o+(k+1)*3) (A0 y1)/\A7 w' g (o+(k+1)*3+1) (A0 y2)/\A7 w' g (o+(k+1)*3+2) (A0 y3)) 11
     (BG [0,1,2,3,4,5,6,7,8,9,10] [10]) ⟨d1,d2,d3,d4,d5,d6⟩ ?_
    iterate 10 refine Bq ?_
    refine Bx λK hK=>?_;go_simp;refine(aE.o _).k ?_;rintro w3 L;refine hK _ _ (Y.o w3 L).1 (λhS=>?_);have aP:=A1 (Y.o w3 L).2;refine C8 ?_;go_wp2;go_ret;exact⟨rfl,aP.o⟩
  ·(have I:R=true:=by rw[aD.o,Sq Cr l k (by omega)]);subst I;(have aI:¬((k:Int)+1<(l.length:Int)):=by omega);go_wp2;go_ret;exact⟨rfl,z.o⟩
end
end Go.Proofs.YtodcnkbblippnaaGreatDoor
