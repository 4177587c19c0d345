/- Part 34 of a proof: walks of the program. -/
import Derived.Test.YtodcnkbblippnaaGreatDoorPart33
namespace Go.Proofs.YtodcnkbblippnaaGreatDoor
set_option maxRecDepth 100000
set_option maxHeartbeats 32000000
set_option linter.defProp false
open Go.Proofs.Tryz
section
open Go.RowKit
attribute [local go_sem ↓] CJ
def Fz(n m:Nat)(T d:gh Pu)(i j:Nat):Prop:=∃L U V R:gh Pu,d=L++U++V++R/\T=L++V++U++R/\U.length=i/\V.length=j/\L.length+i=m/\0<i/\0<j/\d.length=n
def Md(n:Nat)(d h:gh Pu)(p q c:Nat):Prop:=∃A X M Y Z:gh Pu,d=A++X++M++Y++Z/\h=A++Y++M++X++Z/\X.length=Y.length/\A.length=p/\A.length+X.length+M.length=q/\X.length=c/\n=d.length
def Fz.gt{n m i j:Nat}{T E:gh Pu}(h:Fz n m T E i j)(hij:j<i):∃d,Md n E d (m-i) m j/\Fz n m T d (i-j) j:=by
 obtain⟨L,U,V,R,W,e2,h1,h2,h3,h4,Y,O⟩:=h;have I:U=U.take j++U.drop j:=(DU j U).symm;obtain⟨U1,z⟩:∃U1,U.take j=U1:=⟨_,rfl⟩;obtain⟨U2,H⟩:∃U2,U.drop j=U2:=⟨_,rfl⟩;have l1:U1.length=j:=by rw[<-z,BT];omega
 have l2:U2.length=i-j:=by rw[<-H,CO];omega
 rw[z,H]at I;subst I;refine⟨L++V++U2++U1++R,⟨L,U1,U2,V,R,by rw[W];simp,rfl,by omega,by omega,by omega,by omega,O.symm⟩,L++V,U2,U1,R,rfl,by rw[e2];simp,l2,l1,by simp;omega,by omega,Y,?_⟩;rw[<-O,W];simp;omega
def Fz.lt{n m i j:Nat}{T E:gh Pu}(h:Fz n m T E i j)(hij:i<j):∃z,Md n E z (m-i) (m+j-i) i/\Fz n m T z i (j-i):=by
 obtain⟨L,U,V,R,O,e2,h1,h2,h3,Y,h5,I⟩:=h;have W:V=V.take (j-i)++V.drop (j-i):=(DU _ V).symm;obtain⟨V1,d⟩:∃V1,V.take (j-i)=V1:=⟨_,rfl⟩;obtain⟨V2,H⟩:∃V2,V.drop (j-i)=V2:=⟨_,rfl⟩;have l1:V1.length=j-i:=by rw[<-d,BT];omega
 have l2:V2.length=i:=by rw[<-H,CO];omega
 rw[d,H]at W;subst W;refine⟨L++V2++V1++U++R,⟨L,U,V1,V2,R,by rw[O];simp,rfl,by omega,by omega,by omega,by omega,I.symm⟩,L,V2,V1,U++R,by simp,by rw[e2];simp,l2,l1,by omega,Y,by omega,?_⟩;rw[<-I,O];simp;omega
def Fz.eq{n m i:Nat}{T d:gh Pu}(h:Fz n m T d i i):Md n d T (m-i) m i:=by
 obtain⟨L,U,V,R,E,I,H,h2,h3,h4,h5,z⟩:=h;exact⟨L,U,[],V,R,by rw[E];simp,by rw[I];simp,by omega,by omega,by simp;omega,H,z.symm⟩
def Fz.bD{n m i j:Nat}{T z:gh Pu}(hn:n<=9223372036854775807)(h:Fz n m T z i j):
 i<=n/\j<=n/\IntKind.i64.wrap ((m:Int)-(i:Int))=((m-i:Nat):Int)/\wrap64 ((m:Int)-(i:Int))=((m-i:Nat):Int)/\IntKind.i64.wrap ((m:Int)+(j:Int))=((m+j:Nat):Int)/\wrap64 ((m:Int)+(j:Int))=((m+j:Nat):Int)/\
 IntKind.i64.wrap (((m+j:Nat):Int)-(i:Int))=((m+j-i:Nat):Int)/\wrap64 (((m+j:Nat):Int)-(i:Int))=((m+j-i:Nat):Int)/\
 (j<i->IntKind.i64.wrap ((i:Int)-(j:Int))=((i-j:Nat):Int)/\wrap64 ((i:Int)-(j:Int))=((i-j:Nat):Int))/\(i<j->IntKind.i64.wrap ((j:Int)-(i:Int))=((j-i:Nat):Int)/\wrap64 ((j:Int)-(i:Int))=((j-i:Nat):Int)):=by
 obtain⟨L,U,V,R,O,e2,h1,Y,h3,h4,h5,H⟩:=h;have hl:L.length+i+j<=n:=by rw[<-H,O];simp;omega
 clear O e2 H h1 Y;have W:∀x:Int,-9223372036854775808<=x->x<=9223372036854775807->IntKind.i64.wrap x=x/\wrap64 x=x:=λx a b=>by
  refine⟨?_,by unfold wrap64;omega⟩;simp[IntKind.wrap,IntKind.bits,IntKind.signed];omega
 have d:∀(x:Int) (k:Nat),x=(k:Int)->k<=9223372036854775807->IntKind.i64.wrap x=(k:Int)/\wrap64 x=(k:Int):=λx k e hk=>by
  subst e;exact W _ (by omega) (by omega)
 have E:=d ((m:Int)-i) (m-i) (by omega) (by omega);have A2:=d ((m:Int)+j) (m+j) (by omega) (by omega);have I:=d (((m+j:Nat):Int)-i) (m+j-i) (by omega) (by omega);exact⟨by omega,by omega,E.1,E.2,A2.1,A2.2,I.1,I.2,λh=>d _ _ (by omega) (by omega),λh=>d _ _ (by omega) (by omega)⟩
section
variable{w w':ga}{g cap n:Nat}
def Md.b2{d z:gh Pu}{p q c:Nat}(h:Md n d z p q c)(E:gd)(H:w.ownsRow 0 113 3 (AH g n cap) n (Bb d)):
 Ag 273 #[AH g n cap,A0 (p:Int),A0 (q:Int),A0 (c:Int),E] w (Am (.tuple #[]) λw'=>
  w'.ownsRow 0 113 3 (AH g n cap) n (Bb z)/\A3 (One g) w w'):=by
 obtain⟨A,X,M,Y,Z,rfl,rfl,e,rfl,rfl,rfl,I⟩:=h;exact XZ w g cap n A X M Y Z E e I H
def Zd(w:ga)(g cap n:Nat)(A U V Z:gh Pu)(cv:gd)(hu:U≠[])(hv:V≠[])(hn:n=(A++U++V++Z).length)(h:w.ownsRow 0 113 3 (AH g n cap) n (Bb (A++U++V++Z))):
 Ag 263 #[AH g n cap,A0 A.length,A0 ((A.length+U.length:Nat):Int),A0 ((A.length+U.length+V.length:Nat):Int),cv] w (Am (.tuple #[]) λw'=>
  w'.ownsRow 0 113 3 (AH g n cap) n (Bb (A++V++U++Z))/\A3 (One g) w w'):=by
 have I:n<=9223372036854775807:=by
  have⟨a',c',e,h1,h2,_⟩:=B9 h;cases e;unfold maxLen at h2;omega
 have aL:=JM.2 hu;have aP:=JM.2 hv;have aE:A.length+U.length+V.length<=n:=by rw[hn];simp;omega
 obtain⟨T,hT⟩:∃T,A++V++U++Z=T:=⟨_,rfl⟩;obtain⟨C,hC⟩:∃C,A++U++V++Z=C:=⟨_,rfl⟩;obtain⟨a,ha⟩:∃a,A.length=a:=⟨_,rfl⟩;obtain⟨m,hm⟩:∃m,A.length+U.length=m:=⟨_,rfl⟩;obtain⟨b,hb⟩:∃b,A.length+U.length+V.length=b:=⟨_,rfl⟩;obtain⟨i0,aH⟩:∃i0,U.length=i0:=⟨_,rfl⟩;obtain⟨j0,aF⟩:∃j0,V.length=j0:=⟨_,rfl⟩;have aI:Hid (Fz n m T C i0 j0):=⟨A,U,V,Z,hC.symm,hT.symm,aH,aF,by omega,by omega,by omega,by rw[hn,hC]⟩;have ei:IntKind.i64.wrap ((m:Int)-(a:Int))=(i0:Int)/\wrap64 ((m:Int)-(a:Int))=(i0:Int):=by
  refine⟨?_,by unfold wrap64;omega⟩;simp[IntKind.wrap,IntKind.bits,IntKind.signed];omega
 have ej:IntKind.i64.wrap ((b:Int)-(m:Int))=(j0:Int)/\wrap64 ((b:Int)-(m:Int))=(j0:Int):=by
  refine⟨?_,by unfold wrap64;omega⟩;simp[IntKind.wrap,IntKind.bits,IntKind.signed];omega
 obtain⟨Y,aD⟩:=ei;obtain⟨aA,aB⟩:=ej;have H:Hid (∀z i j,Fz n m T z i j->_):=λz i j h=>Fz.bD I h;rw[hC]at h;rw[hT,hb,hm,ha];have aJ:=A1 h;clear h hn hu hv aL aP aE hT hC ha hm hb aH aF I
 go_enter func263,ntmps263
 go_wp2;go_loopw [10,11] (λiv jv wr=>∃(i j:Nat) (z:gh Pu),iv=A0 (i:Int)/\jv=A0 (j:Int)/\Hid (Fz n m T z i j/\wr.ownsRow 0 113 3 (AH g n cap) n (Bb z)/\A3 (One g) w wr)) (λiv jv _=>(intOf iv).toNat+(intOf jv).toNat)
 ·exact⟨i0,j0,C,by go_num,by go_num,aI.o,aJ.o,A3.I _ _⟩
 ·obtain⟨i,j,z,rfl,rfl,hI⟩:=hrel;have⟨i1,i2,i3⟩:=hI.o;have⟨z1,z2,z3,z4,z5,z6,z7,z8,z9,z10⟩:=H.o _ _ _ i1;obtain⟨p,hp⟩:∃p,m-i=p:=⟨_,rfl⟩;obtain⟨q,hq⟩:∃q,m+j-i=q:=⟨_,rfl⟩;obtain⟨mj,E⟩:∃mj,m+j=mj:=⟨_,rfl⟩;rw[hp]at z3 z4;rw[hq,E]at z7 z8;rw[E]at z5 z6;have aM:=A1 i3;by_cases he:i=j
  ·subst he;have S:=A1 ((Fz.eq i1).b2 cv i2);rw[hp]at S;clear hI i1 i2 i3 z1 z2 z5 z6 z7 z8 z9 z10 hp hq E H aI aJ Y aD aA aB;go_wp2_with (go_at_call 273;refine(S.o).k ?_;rintro w5⟨O,W⟩;have R:=A1 (And.intro O (aM.o.tr W));clear O W);go_end0;exact⟨rfl,R.o⟩
  ·have hne:((i:Int)=(j:Int))=False:=Na λh=>he (Int.ofNat_inj.1 h);by_cases L:j<i
   ·have⟨nxt,S1,S2⟩:=Fz.gt i1 L;have S:=A1 (S1.b2 cv i2);rw[hp]at S;have⟨y1,y2⟩:=z9 L;have aK:(j:Int)<(i:Int):=F5.2 L;have aG:=A1 S2;have aO:=A1 L;obtain⟨d,hd⟩:∃d,i-j=d:=⟨_,rfl⟩;rw[hd]at y1 y2 aG;have aN:=A1 hd;(have P2:Hid (0<j):=by obtain⟨_,_,_,_,_,_,_,_,_,_,h5,_⟩:=i1;exact h5);clear hI i1 i2 i3 z1 z2 z5 z6 z7 z8 z9 z10 hp hq E H aI aJ Y aD aA aB S1 S2 L hd;go_wp2_with (go_at_call 273;refine(S.o).k ?_;rintro w5⟨O,W⟩;have R:=A1 (And.intro O (aM.o.tr W));clear O W);go_roundw
    ·exact⟨d,j,nxt,by go_num,by go_num,aG.o,R.o⟩
    ·have h1:=aO.o;have h2:=aN.o;have h3:=P2.o;simp[intOf];omega
   ·have hl:i<j:=Nat.lt_of_le_of_ne (HS L) he;have⟨nxt,S1,S2⟩:=Fz.lt i1 hl;have S:=A1 (S1.b2 cv i2);rw[hp,hq]at S;have⟨y1,y2⟩:=z10 hl;(have aK:((j:Int)<(i:Int))=False:=by simp;exact HS L);have aG:=A1 S2;have aO:=A1 hl;obtain⟨d,hd⟩:∃d,j-i=d:=⟨_,rfl⟩;rw[hd]at y1 y2 aG;have aN:=A1 hd;(have P2:Hid (0<i):=by obtain⟨_,_,_,_,_,_,_,_,_,h5,_,_⟩:=i1;exact h5);clear hI i1 i2 i3 z1 z2 z9 z10 hp hq E H aI aJ Y aD aA aB S1 S2 L hl hd;go_wp2_with (go_at_call 273;refine(S.o).k ?_;rintro w5⟨O,W⟩;have R:=A1 (And.intro O (aM.o.tr W));clear O W);go_roundw
    ·exact⟨i,d,nxt,by go_num,by go_num,aG.o,R.o⟩
    ·have h1:=aO.o;have h2:=aN.o;have h3:=P2.o;simp[intOf];omega
end
def Uj{m s r L n:Nat}(hn:n<=4294967296)(h:s<r)(hr:r<=L)(hm:m+L<=n):
 wrap64 (((m+s:Nat):Int)+((m+r:Nat):Int))=((m+s+(m+r):Nat):Int)/\IntKind.u64.wrap ((m+s+(m+r):Nat):Int)=((m+s+(m+r):Nat):Int)/\wrap64 (((m+s+(m+r):Nat):Int)/2)=((m+(s+r)/2:Nat):Int)/\
 (s+r)/2<r/\s<=(s+r)/2/\m+(s+r)/2<n/\wrap64 (((m+(s+r)/2:Nat):Int)+1)=((m+((s+r)/2+1):Nat):Int):=by
 refine⟨by unfold wrap64;omega,?_,by unfold wrap64;omega,by omega,by omega,by omega,by unfold wrap64;omega⟩;simp[IntKind.wrap,IntKind.bits,IntKind.signed];omega
def A0L{a s n q:Nat}(hn:n<=4294967296)(h:a+1+s<=n)(hq:q<=s):
 wrap64 (((a+1+s:Nat):Int)-1)=((a+s:Nat):Int)/\IntKind.i64.wrap (((a+1+s:Nat):Int)-1)=((a+s:Nat):Int)/\wrap64 (((a+q:Nat):Int)+1)=((a+(q+1):Nat):Int)/\IntKind.i64.wrap (((a+q:Nat):Int)+1)=((a+(q+1):Nat):Int):=by
 refine⟨by unfold wrap64;omega,?_,by unfold wrap64;omega,?_⟩
 ·simp[IntKind.wrap,IntKind.bits,IntKind.signed];omega
 ·simp[IntKind.wrap,IntKind.bits,IntKind.signed];omega
def Hk(w:ga)(g k:Nat)(p:Pu):World:=((w.setCell ⟨g,k*3,none⟩ (.int .i64 p.1)).setCell ⟨g,k*3+1,none⟩ (.int .i64 p.2.1)).setCell ⟨g,k*3+2,none⟩ (.int .i64 p.2.2)
def Tj{w d:ga}{g:Nat}(h:A3 (One g) d w)(k:Nat)(p:Pu):A3 (One g) d (Hk w g k p):=((h.aq (b:=g) rfl _ _).aq (b:=g) rfl _ _).aq (b:=g) rfl _ _
def Sg{w:ga}{g n cap:Nat}{l:gh Pu}(h:w.ownsRow 0 113 3 (.slice (some ⟨g,0,none⟩) n cap) n (Bb l))(i j:Nat)(L:i<l.length)(H:j<l.length)(d:i≠j)(x y:Pu)(hy:l[j]'H=y):
 (∀o,(Hk w g i y).drew.frozen? ⟨g,o,none⟩=false)/\((Hk w g i y).drew.cell? ⟨g,j*3,none⟩=some (.int .i64 y.1)/\(Hk w g i y).drew.cell? ⟨g,j*3+1,none⟩=some (.int .i64 y.2.1)/\(Hk w g i y).drew.cell? ⟨g,j*3+2,none⟩=some (.int .i64 y.2.2))/\
 (Hk (Hk w g i y).drew g j x).ownsRow 0 113 3 (.slice (some ⟨g,0,none⟩) n cap) n (Bb ((l.set i y).set j x))/\∀E,A3 (One g) E w->A3 (One g) E (Hk (Hk w g i y).drew g j x):=by
 have z:=Ax (AX.bl h i L y) λ_ _=>rfl;refine⟨λo=>Gk z rfl o,AX.bz z j (by rw[HU];exact H) y ?_,AX.bl z j (by rw[HU];exact H) x,λE I=>Tj (Tj I i y).ag j x⟩;rw[A47 d];exact hy
def Uy{α:Type}(V:gh α)(x:α)(q:Nat)(h:q<=V.length):(V.take q++x::V.drop q).length=V.length+1:=by simp;omega
def A04{a s q P:Nat}(h:q<s)(e:a+q=P):a+s-(intOf (A0 ((P:Int)+1))).toNat<a+s-(intOf (A0 (P:Int))).toNat:=by simp[intOf];omega
def Ps{I J Q:Nat}(h1:I<=Q)(h2:Q<J):(intOf (A0 (J:Int))).toNat-(intOf (A0 ((Q:Int)+1))).toNat<(intOf (A0 (J:Int))).toNat-(intOf (A0 (I:Int))).toNat:=by simp[intOf];omega
def Pv{I J Q:Nat}(h1:I<=Q)(h2:Q<J):(intOf (A0 (Q:Int))).toNat-(intOf (A0 (I:Int))).toNat<(intOf (A0 (J:Int))).toNat-(intOf (A0 (I:Int))).toNat:=by simp[intOf];omega
def A2r{α:Type}{A V Z:gh α}{x:α}{q:Nat}(d:q<V.length):∃y,(A++(V.take q++x::V.drop q)++Z)[A.length+q]?=some x/\(A++(V.take q++x::V.drop q)++Z)[A.length+q+1]?=some y/\
 ((A++(V.take q++x::V.drop q)++Z).set (A.length+q) y).set (A.length+q+1) x=A++(V.take (q+1)++x::V.drop (q+1))++Z:=by
 have z:(A++V.take q).length=A.length+q:=by simp;omega
 have H:(A++V.take q++[V[q]'d]).length=A.length+q+1:=by simp;omega
 have h:A++(V.take q++x::V.drop q)++Z=(A++V.take q)++x::(V[q]'d::(V.drop (q+1)++Z)):=by rw[FB d];simp only[Ch,FD]
 have I:A++(V.take (q+1)++x::V.drop (q+1))++Z=(A++V.take q++[V[q]'d])++x::(V.drop (q+1)++Z):=by rw[Dy d];simp
 have E:∀u,(A++V.take q)++u::(V[q]'d::(V.drop (q+1)++Z))=(A++V.take q++[u])++V[q]'d::(V.drop (q+1)++Z):=λu=>by simp
 refine⟨V[q]'d,?_,?_,?_⟩
 ·rw[h,<-z];simp
 ·rw[h,E,HV (by simp;omega)];have:A.length+q+1-(A++V.take q++[x]).length=0:=by simp;omega
  rw[this];rfl
 ·rw[h,I,<-z,JX,E,z,<-H,JX]
def A38{α:Type}{A U Z:gh α}{y:α}{q:Nat}(d:q<U.length):∃u,(A++(U.take (q+1)++y::U.drop (q+1))++Z)[A.length+q+1]?=some y/\(A++(U.take (q+1)++y::U.drop (q+1))++Z)[A.length+q]?=some u/\
 ((A++(U.take (q+1)++y::U.drop (q+1))++Z).set (A.length+q+1) u).set (A.length+q) y=A++(U.take q++y::U.drop q)++Z:=by
 have E:(A++U.take q).length=A.length+q:=by simp;omega
 have H:∀u:α,(A++U.take q++[u]).length=A.length+q+1:=λu=>by simp;omega
 have h:A++(U.take (q+1)++y::U.drop (q+1))++Z=(A++U.take q++[U[q]'d])++y::(U.drop (q+1)++Z):=by rw[Dy d];simp
 have I:A++(U.take q++y::U.drop q)++Z=(A++U.take q)++y::(U[q]'d::(U.drop (q+1)++Z)):=by rw[FB d];simp only[Ch,FD]
 have z:∀u v:α,(A++U.take q++[u])++v::(U.drop (q+1)++Z)=(A++U.take q)++u::(v::(U.drop (q+1)++Z)):=λu v=>by simp
 refine⟨U[q]'d,?_,?_,?_⟩
 ·rw[h,<-H (U[q]'d)];simp
 ·rw[h,z,<-E];simp
 ·rw[h,I,<-H (U[q]'d),JX,z,<-E,JX]
section
variable{w w':ga}{g cap n:Nat}
def XU(w:ga)(g cap n wb:Nat)(len:Int)(A V Z:gh Pu)(x:Pu)(_hv:V≠[])(hn:n=(A++x::(V++Z)).length)(h:w.ownsRow 0 113 3 (AH g n cap) n (Bb (A++x::(V++Z))))(hT:∀p∈x::V,AT p.2.1)(hA:B3 (Az len) V)(hl:1<=len/\len<=4611686018427387904)(hw:A7 w wb 0 (A0 len))(a2:wb≠g)(aH:n<=4294967296):
 Ag 244 #[AH g n cap,A0 A.length,A0 ((A.length+1:Nat):Int),A0 ((A.length+1+V.length:Nat):Int),.func (Fn.func 155) #[] #[A5 wb]] w (Am (.tuple #[]) λw'=>
  ∃M,w'.ownsRow 0 113 3 (AH g n cap) n (Bb (A++M++Z))/\M.length=V.length+1/\B3 (Az len) M/\Bh (Az len) (x::V) M/\A3 (One g) w w'):=by
 have KW:=Fp len;obtain⟨a,ha⟩:∃a,A.length=a:=⟨_,rfl⟩;obtain⟨m,hm⟩:∃m,a+1=m:=⟨_,rfl⟩;obtain⟨L,hL⟩:∃L,V.length=L:=⟨_,rfl⟩;obtain⟨b,hb⟩:∃b,m+L=b:=⟨_,rfl⟩;have aV:b<=n:=by rw[hn];simp;omega
 have bI:a<n:=by omega
 have aR:Hid (∀s r,s<r->r<=L->_):=λs r h hr=>Uj (m:=m) aH h hr (hb ▸ aV);have bO:Hid (∀d,A3 Ab w d->∀q (H:q<V.length),A7 d g ((m+q)*3) (A0 (V[q]'H).1)/\A7 d g ((m+q)*3+1) (A0 (V[q]'H).2.1)/\A7 d g ((m+q)*3+2) (A0 (V[q]'H).2.2)):=λd hx q H=>by
  have e:(A++x::(V++Z))[m+q]'(by rw[<-hn];omega)=V[q]'H:=by
   rw[GH (by omega)];(have:m+q-A.length=q+1:=by omega);simp only[this,QJ];exact Fg H
  have⟨y1,y2,y3⟩:=AX.bz h (m+q) (by rw[<-hn];omega) _ e;exact⟨hx.ao y1,hx.ao y2,hx.ao y3⟩
 have bV:Hid (∀d,A3 Ab w d->A7 d g (a*3) (A0 x.1)/\A7 d g (a*3+1) (A0 x.2.1)/\A7 d g (a*3+2) (A0 x.2.2)):=λd hx=>by
  have e:(A++x::(V++Z))[a]'(by rw[<-hn];omega)=x:=by
   rw[GH (by omega)];simp[ha]
  have⟨y1,y2,y3⟩:=AX.bz h a (by rw[<-hn];omega) _ e;exact⟨hx.ao y1,hx.ao y2,hx.ao y3⟩
 have e1:wrap64 ((m:Int)-(a:Int))=1:=by unfold wrap64;omega
 have e2:IntKind.i64.wrap ((m:Int)-(a:Int))=1:=by rw[show (m:Int)-(a:Int)=1 by omega];rfl
 have a0:=C3 a;have aI:(a:Int)<(n:Int):=by omega
 have aX:n<=cap/\cap<=9223372036854775807:=by
  have⟨a',c',e,h1,h2,_⟩:=B9 h;cases e;unfold maxLen at h2;omega
 obtain⟨hc1,hc2⟩:=aX;have bH:=A1 hT;have b0:=A1 hw;have bP:=A1 hl;have HWB:=A1 a2;have bD:=A1 h;have bS:=A1 ha;have a7:Hid (∀ {d:ga} (l:gh Pu),d.ownsRow 0 113 3 (AH g n cap) n (Bb l)->l.length=n):=λl hl=>by
  have:=hl.1;rw[Tl]at this;omega
 have a8:Hid (n<=4294967296/\m+L<=n):=⟨aH,by rw[hb];exact aV⟩;have bJ:=A1 hA;have bW:=A1 hm;have bG:=A1 hL;have HB:=A1 hb;rw[ha,hm,hL,hb];have aQ:=hb.symm;clear h hT hw hl a2 hA hm hL aV bI aH hn ha _hv hb
 go_enter func244,ntmps244
 go_wp2;rename_i kA kB qA aZ;clear kB;go_loopw [10,11] (λiv jv wr=>∃(s r:Nat),iv=A0 ((m+s:Nat):Int)/\jv=A0 ((m+r:Nat):Int)/\Hid (s<=r/\r<=L/\A3 Ab w wr/\(∀y,(V.take s).getLast?=some y->Az len y x=true)/\(∀y,(V.drop r).head?=some y->Az len y x=false))) (λiv jv _=>(intOf jv).toNat-(intOf iv).toNat)
 ·exact⟨0,L,by go_num,by rw[aQ],Cb _,Ao _,A3.I _ _,(λy hy=>by simp at hy),(λy hy=>by rw[<-bG.o,GI]at hy;cases hy)⟩
 ·obtain⟨s,r,rfl,rfl,hI⟩:=hrel;have⟨i1,i2,i3,i4,i5⟩:=hI.o;by_cases aD:s<r
  ·have⟨n1,n2,n3,n4,n5,n6,n7⟩:=aR.o s r aD i2;have bL:=F5.2 (KH aD m);obtain⟨q,H⟩:∃q,(s+r)/2=q:=⟨_,rfl⟩;rw[H]at n3 n4 n5 n6 n7;(have Y:q<V.length:=by rw[bG.o];exact Bi n4 i2);obtain⟨y,hy⟩:∃y,V[q]'Y=y:=⟨_,rfl⟩;have a3:Hid (∀d,A3 Ab wr d->(A7 d g ((m+q)*3) (A0 y.1)/\A7 d g ((m+q)*3+1) (A0 y.2.1)/\A7 d g ((m+q)*3+2) (A0 y.2.2))/\A7 d g (a*3) (A0 x.1)/\A7 d g (a*3+1) (A0 x.2.1)/\A7 d g (a*3+2) (A0 x.2.2)):=λd hx=>by
    have a4:=i3.tr hx;have:=bO.o d a4 q Y;rw[hy]at this;exact⟨this,bV.o d a4⟩
   have aY:=bH.o y (Bp _ (hy ▸ BU Y));have a9:=A1 (λd bQ=>Nn d wb len y x aY (bH.o x (Bt ..)) bP.o bQ);have aL:=Nl (len:=len) (p:=y) (q:=x);obtain⟨cc,bA⟩:∃cc,H7 len y x=cc:=⟨_,rfl⟩;rw[bA]at a9 aL;have aN:=i3.ao b0.o;have b3:Hid (cc<0->∀z,(V.take (q+1)).getLast?=some z->Az len z x=true):=λhc z hz=>by
    rw[N0 Y,hy]at hz;cases hz;exact aL.1 hc
   have bU:Hid (¬cc<0->∀z,(V.drop q).head?=some z->Az len z x=false):=λhc z hz=>by
    rw[head_drop Y,hy]at hz;cases hz;cases hk:Az len y x with
    | false=>rfl
    | true=>exact absurd (aL.2 hk) hc
   obtain⟨Q,hQ⟩:∃Q,m+q=Q:=⟨_,rfl⟩;rw[hQ]at n3 n6 n7 a3;have QI:=F5.2 n6;have Q0:=C3 Q;have tQ:=EH Q;have tA:=EH a;obtain⟨xa,xb,xc⟩:=x;obtain⟨ya,yb,yc⟩:=y;unfold DA at a9;dsimp only at a9 a3;have bE:=a3.o wr.drew (A3.I _ wr).ag;have aJ:=A1 (a9.o wr.drew aN);obtain⟨I,W⟩:∃I,m+s=I:=⟨_,rfl⟩;obtain⟨J,aA⟩:∃J,m+r=J:=⟨_,rfl⟩;obtain⟨bY,aB⟩:∃bY,I+J=bY:=⟨_,rfl⟩;rw[W,aA,aB]at n1 n2;obtain⟨bZ,aU⟩:∃bZ,m+(q+1)=bZ:=⟨_,rfl⟩;rw[aU]at n7;rw[W,aA,aB]at n3;rw[W,aA]at bL;have E:=A1 (And.intro i1 (And.intro i2 (And.intro i3 (And.intro i4 (And.intro i5 (And.intro n4 (And.intro n5 (And.intro hQ (And.intro aU (And.intro W aA))))))))));rw[W,aA];clear hI i1 i2 i3 i4 i5 n4 n5 n6 H hy aY bA a9 aN Y aD aR bO bV hQ aU W aA aB aQ aL;by_cases aW:cc<0
   ·go_wp2;clear n1 n2 n3;refine Cc (λw'=>(A7 w' g (Q*3) (A0 ya)/\A7 w' g (Q*3+1) (A0 yb)/\A7 w' g (Q*3+2) (A0 yc))/\A7 w' g (a*3) (A0 xa)/\A7 w' g (a*3+1) (A0 xb)/\A7 w' g (a*3+2) (A0 xc)) 10
     (BG [0,1,2,3,4,5,6,7,8,9] [9]) bE ?_
    iterate 9 refine Bq ?_
    refine Bx λK hK=>?_;go_simp;refine aJ.k ?_;rintro w6 aF;have k6:=((A3.I Ab wr).ag).tr aF;refine hK _ _ (a3.o w6 k6) (λhS=>?_);have bR:=A1 k6;clear hK K hS aF k6 bE aJ;refine C8 ?_;clear aZ;go_wp2;go_roundw
    ·have⟨f1,f2,f3,f4,f5,f6,f7,f8,f9,f10,f11⟩:=E.o;exact⟨q+1,r,by rw[<-f8];rfl,by rw[f11],f6,f2,f3.tr bR.o,b3.o aW,f5⟩
    ·have⟨f1,f2,f3,f4,f5,f6,f7,f8,f9,f10,f11⟩:=E.o;exact Ps (by rw[<-f10,<-f8];exact Mg f7 m) (by rw[<-f11,<-f8];exact KH f6 m)
   ·go_wp2;clear n1 n2 n3;refine Cc (λw'=>(A7 w' g (Q*3) (A0 ya)/\A7 w' g (Q*3+1) (A0 yb)/\A7 w' g (Q*3+2) (A0 yc))/\A7 w' g (a*3) (A0 xa)/\A7 w' g (a*3+1) (A0 xb)/\A7 w' g (a*3+2) (A0 xc)) 10
     (BG [0,1,2,3,4,5,6,7,8,9] [9]) bE ?_
    iterate 9 refine Bq ?_
    refine Bx λK hK=>?_;go_simp;refine aJ.k ?_;rintro w6 aF;have k6:A3 Ab wr w6:=((A3.I Ab wr).ag).tr aF;refine hK _ _ (a3.o w6 k6) (λhS=>?_);have bR:=A1 k6;clear hK K hS aF k6 bE aJ;refine C8 ?_;clear aZ;go_wp2;go_roundw
    ·have⟨f1,f2,f3,f4,f5,f6,f7,f8,f9,f10,f11⟩:=E.o;exact⟨s,q,by rw[f10],by rw[f8],f7,ET (Bi f6 f2),f3.tr bR.o,f4,bU.o aW⟩
    ·have⟨f1,f2,f3,f4,f5,f6,f7,f8,f9,f10,f11⟩:=E.o;exact Pv (by rw[<-f10,<-f8];exact Mg f7 m) (by rw[<-f11,<-f8];exact KH f6 m)
  ·obtain rfl:s=r:=KG i1 (HS aD);have a1:¬(((m+s:Nat):Int)<((m+s:Nat):Int)):=Mr _;have bN:=A1 (KW.eS bJ.o s i4 i5);have bF:Hid (wr.ownsRow 0 113 3 (AH g n cap) n (Bb (A++(V.take 0++x::V.drop 0)++Z))):=by
    have:=Ax bD.o λg' hg=>i3.An g' (AF bD.o hg) (λh=>h);unfold Hid;simpa using this
   have bC:Hid (A3 (One g) w wr):=i3.aY;(have a5:s<=V.length:=by rw[bG.o];exact i2);have bK:Hid (∀q,q<=s->_):=λq H=>A0L (a:=a) (q:=q) a8.o.1 (AJ (by rw[bW.o];exact Mg i2 m) a8.o.2) H;have bB:=A1 a5;obtain⟨ms,aT⟩:∃ms,m+s=ms:=⟨_,rfl⟩;(have bT:Hid (ms=a+1+s):=by unfold Hid;rw[<-aT,<-bW.o]);rw[aT]at a1 ⊢;clear hI i1 i2 i3 i4 i5 aR bO bV aQ e1 e2 aT aD a5;generalize wr=w3 at bF bC ⊢;go_wp2;go_loopw [13] (λkv wr=>∃q:Nat,kv=A0 ((a+q:Nat):Int)/\q<=s/\Hid (wr.ownsRow 0 113 3 (AH g n cap) n (Bb (A++(V.take q++x::V.drop q)++Z))/\A3 (One g) w wr)) (λkv _=>a+s-(intOf kv).toNat)
   ·exact⟨0,by go_num,Cb _,bF.o,bC.o⟩
   ·obtain⟨q,rfl,aK,hI⟩:=hrel;have⟨i1,i2⟩:=hI.o;have⟨z1,z2,z3,z4⟩:=bK.o q aK;rw[<-bT.o]at z1 z2;obtain⟨S,aE⟩:∃S,a+s=S:=⟨_,rfl⟩;rw[aE]at z1 z2;by_cases H:q<s
    ·have⟨y,f1,f2,f3⟩:=A2r (A:=A) (Z:=Z) (x:=x) (Bi H bB.o);rw[bS.o]at f1 f2 f3;obtain⟨P,hP⟩:∃P,a+q=P:=⟨_,rfl⟩;(have a6:a+(q+1)=P+1:=by rw[<-Mh,hP]);rw[hP]at f1 f2 f3;rw[hP,a6]at z3 z4;have⟨b1,b1'⟩:=Ht.1 f1;have⟨b2,b2'⟩:=Ht.1 f2;have hlt:((P:Nat):Int)<(S:Int):=F5.2 (by rw[<-hP,<-aE];exact KH H a);have⟨x1,x2,x3⟩:=AX.bz i1 P b1 x b1';have⟨y1,y2,y3⟩:=AX.bz i1 (P+1) b2 y b2';have⟨fz7,wv,aG,hchg⟩:=Sg i1 P (P+1) b1 b2 (Nat.ne_of_lt (WG P)) x y b2';obtain⟨aP,aS,aO⟩:=wv;have fz:∀o,wr.frozen? (Ac g o)=false:=λo=>Gk i1 rfl o;have aM:=a7.o _ i1;rw[aM]at b1 b2;have PI:(P:Int)<(n:Int):=F5.2 b1;have P1I:(P:Int)+1<(n:Int):=F5.2 b2;have P0:=C3 P;have P10:(0:Int)<=(P:Int)+1:=GK (P+1);have tP:(P:Int).toNat=P:=EH P;have tP1:((P:Int)+1).toNat=P+1:=EH (P+1);have z3':wrap64 ((P:Int)+1)=(P:Int)+1:=z3;have z4':IntKind.i64.wrap ((P:Int)+1)=(P:Int)+1:=z4;rw[f3]at aG;have O:=A1 (And.intro aG (hchg w i2));have bX:=A1 (And.intro H hP);obtain⟨xa,xb,xc⟩:=x;obtain⟨ya,yb,yc⟩:=y;unfold Hk at fz7 aP aS aO O;dsimp only at x1 x2 x3 y1 y2 y3 fz7 aP aS aO O;rw[hP];clear hI i1 i2 f1 f2 f3 b1 b1' b2 b2' aG hchg H hP a6 aM aE z3 z4 aK bK bF bC bN bD bH bJ;go_wp2;refine Mv 15 (λw'=>A7 w' g (P*3) (A0 xa)/\A7 w' g (P*3+1) (A0 xb)/\A7 w' g (P*3+2) (A0 xc)/\A7 w' g ((P+1)*3) (A0 ya)/\A7 w' g ((P+1)*3+1) (A0 yb)/\A7 w' g ((P+1)*3+2) (A0 yc)) 16
      [(0,1),(1,1),(5,1),(6,1),(7,1),(8,1),(9,1),(10,2),(11,2),(12,2),(13,1),(14,1),(2,2),(3,2),(4,2),(15,0)] ⟨x1,x2,x3,y1,y2,y3⟩ ?_
     iterate 7 refine Is ?_
     iterate 3 refine It ?_
     iterate 2 refine Is ?_
     iterate 3 refine It ?_
     refine Mx λK hK=>?_;go_simp;refine hK _ _ ?_;clear hK K;refine Mw ?_;clear x1 x2 x3 y1 y2 y3 fz;generalize (((wr.setCell (Ac g (P*3)) (A0 ya)).setCell (Ac g (P*3+1)) (A0 yb)).setCell (Ac g (P*3+2)) (A0 yc)).drew=w7 at fz7 aP aS aO O ⊢;go_wp2;go_roundw
     ·have⟨k1,k2⟩:=bX.o;exact⟨q+1,by rw[<-k2];rfl,k1,O.o⟩
     ·have⟨k1,k2⟩:=bX.o;exact A04 k1 k2
    ·obtain rfl:q=s:=KG aK (HS H);have a1:¬((S:Int)<(S:Int)):=Mr _;rw[aE];have O:=A1 (And.intro i1 i2);have bM:=bB.o;have b4:Hid ((V.take q++x::V.drop q).length=V.length+1):=Uy V x q bM;clear hI i1 i2 H aE z3 z4 aK bK bF bC bD bH bJ;go_wp2;refine Nt (Ss rfl _ _ _) rfl ?_;exact⟨rfl,V.take q++x::V.drop q,by simpa using O.o.1,by rw[<-bG.o];exact b4.o,bN.o.1,bN.o.2,O.o.2⟩
end
def A03{a s r L n:Nat}(E:n<=4294967296)(h:s<r)(z:r<=L)(d:a+L<=n):
 wrap64 (((a+s:Nat):Int)+((a+r:Nat):Int))=((a+s+(a+r):Nat):Int)/\IntKind.u64.wrap ((a+s+(a+r):Nat):Int)=((a+s+(a+r):Nat):Int)/\wrap64 (((a+s+(a+r):Nat):Int)/2)=((a+(s+r)/2:Nat):Int)/\
 (s+r)/2<r/\s<=(s+r)/2/\a+(s+r)/2<n/\wrap64 (((a+(s+r)/2:Nat):Int)+1)=((a+((s+r)/2+1):Nat):Int):=Uj E h z d
def A05(P:Nat):(intOf (A0 (P:Int))).toNat<(intOf (A0 ((P:Int)+1))).toNat:=by simp[intOf]
def A1r{a s n q:Nat}(hn:n<=4294967296)(h:a+s<=n)(hq:q+1<=s):
 wrap64 (((a+q+1:Nat):Int)-1)=((a+q:Nat):Int)/\IntKind.i64.wrap (((a+q+1:Nat):Int)-1)=((a+q:Nat):Int):=by
 refine⟨by unfold wrap64;omega,?_⟩;simp[IntKind.wrap,IntKind.bits,IntKind.signed];omega
section
variable{w w':ga}{g cap n:Nat}
def XW(w:ga)(g cap n wb:Nat)(len:Int)(A U Z:gh Pu)(x:Pu)(hu:2<=U.length)(hn:n=(A++(U++x::Z)).length)(h:w.ownsRow 0 113 3 (AH g n cap) n (Bb (A++(U++x::Z))))(hT:∀p∈x::U,AT p.2.1)(hA:B3 (Az len) U)(hl:1<=len/\len<=4611686018427387904)(hw:A7 w wb 0 (A0 len))(_hwb:wb≠g)(aH:n<=4294967296):
 Ag 244 #[AH g n cap,A0 A.length,A0 ((A.length+U.length:Nat):Int),A0 ((A.length+U.length+1:Nat):Int),.func (Fn.func 155) #[] #[A5 wb]] w (Am (.tuple #[]) λw'=>
  ∃M,w'.ownsRow 0 113 3 (AH g n cap) n (Bb (A++M++Z))/\M.length=U.length+1/\B3 (Az len) M/\Bh (Az len) (U++[x]) M/\A3 (One g) w w'):=by
 have KW:=Fp len;obtain⟨a,ha⟩:∃a,A.length=a:=⟨_,rfl⟩;obtain⟨L,hL⟩:∃L,U.length=L:=⟨_,rfl⟩;obtain⟨m,hm⟩:∃m,a+L=m:=⟨_,rfl⟩;have a0:m<n:=by rw[hn];simp;omega
 have aQ:Hid (∀s r,s<r->r<=L->_):=λs r h hr=>A03 (a:=a) aH h hr (by omega);have bO:Hid (∀d,A3 Ab w d->∀q (E:q<U.length),A7 d g ((a+q)*3) (A0 (U[q]'E).1)/\A7 d g ((a+q)*3+1) (A0 (U[q]'E).2.1)/\A7 d g ((a+q)*3+2) (A0 (U[q]'E).2.2)):=λd hx q E=>by
  have e:(A++(U++x::Z))[a+q]'(by rw[<-hn];omega)=U[q]'E:=by
   rw[GH (by omega)];(have:a+q-A.length=q:=by omega);simp only[this];exact Fg E
  obtain⟨y1,y2,y3⟩:=AX.bz h (a+q) (by rw[<-hn];omega) _ e;exact⟨hx.ao y1,hx.ao y2,hx.ao y3⟩
 have bU:Hid (∀d,A3 Ab w d->A7 d g (m*3) (A0 x.1)/\A7 d g (m*3+1) (A0 x.2.1)/\A7 d g (m*3+2) (A0 x.2.2)):=λd hx=>by
  have e:(A++(U++x::Z))[m]'(by rw[<-hn];omega)=x:=by
   rw[GH (by omega),GH (by omega)];(have:m-A.length-U.length=0:=by omega);simp only[this,Ml]
  obtain⟨y1,y2,y3⟩:=AX.bz h m (by rw[<-hn];omega) _ e;exact⟨hx.ao y1,hx.ao y2,hx.ao y3⟩
 have e1:wrap64 ((m:Int)-(a:Int))=(L:Int):=by unfold wrap64;omega
 have e2:IntKind.i64.wrap ((m:Int)-(a:Int))=(L:Int):=by simp[IntKind.wrap,IntKind.bits,IntKind.signed];omega
 have e3:((L:Int)=1)=False:=Na (by omega);have e3':((L:Int)==1)=false:=by rw[Ic];omega
 obtain⟨b,hb⟩:∃b,m+1=b:=⟨_,rfl⟩;have e4:wrap64 ((b:Int)-(m:Int))=1:=by unfold wrap64;omega
 have e5:IntKind.i64.wrap ((b:Int)-(m:Int))=1:=by rw[show (b:Int)-(m:Int)=1 by omega];rfl
 have m0:=C3 m;have mI:(m:Int)<(n:Int):=by omega
 have aX:n<=cap/\cap<=9223372036854775807:=by
  obtain⟨a',c',e,h1,h2,_⟩:=B9 h;cases e;unfold maxLen at h2;omega
 obtain⟨hc1,hc2⟩:=aX;have bD:=A1 hT;have b3:=A1 hw;have bP:=A1 hl;have bA:=A1 h;have bG:=A1 hA;have bE:=A1 hm;have aS:=A1 hL;have bS:=A1 ha;have a5:Hid (∀ {d:ga} (l:gh Pu),d.ownsRow 0 113 3 (AH g n cap) n (Bb l)->l.length=n):=λl hl=>by
  have:=hl.1;rw[Tl]at this;omega
 have a6:Hid (n<=4294967296/\m<n):=⟨aH,a0⟩;rw[ha,hL,hm,hb];clear h hT hw hl _hwb hA hm a0 aH hn ha hu hL hb
 go_enter func244,ntmps244
 go_wp2;rename_i kA kB qA bJ;clear kB;go_loopw [14,15] (λiv jv wr=>∃(s r:Nat),iv=A0 ((a+s:Nat):Int)/\jv=A0 ((a+r:Nat):Int)/\Hid (s<=r/\r<=L/\A3 Ab w wr/\(∀y,(U.take s).getLast?=some y->Az len x y=false)/\(∀y,(U.drop r).head?=some y->Az len x y=true))) (λiv jv _=>(intOf jv).toNat-(intOf iv).toNat)
 ·exact⟨0,L,by go_num,by rw[bE.o],Cb _,Ao _,A3.I _ _,(λy hy=>by simp at hy),(λy hy=>by rw[<-aS.o,GI]at hy;cases hy)⟩
 ·obtain⟨s,r,rfl,rfl,hI⟩:=hrel;obtain⟨i1,i2,i3,i4,i5⟩:=hI.o;by_cases aE:s<r
  ·obtain⟨n1,n2,n3,n4,n5,n6,n7⟩:=aQ.o s r aE i2;have bL:((a+s:Nat):Int)<((a+r:Nat):Int):=F5.2 (KH aE a);obtain⟨q,E⟩:∃q,(s+r)/2=q:=⟨_,rfl⟩;rw[E]at n3 n4 n5 n6 n7;(have Y:q<U.length:=by rw[aS.o];exact Bi n4 i2);obtain⟨y,hy⟩:∃y,U[q]'Y=y:=⟨_,rfl⟩;have bC:Hid (∀d,A3 Ab wr d->(A7 d g ((a+q)*3) (A0 y.1)/\A7 d g ((a+q)*3+1) (A0 y.2.1)/\A7 d g ((a+q)*3+2) (A0 y.2.2))/\A7 d g (m*3) (A0 x.1)/\A7 d g (m*3+1) (A0 x.2.1)/\A7 d g (m*3+2) (A0 x.2.2)):=λd hx=>by
    have a3:=i3.tr hx;have:=bO.o d a3 q Y;rw[hy]at this;exact⟨this,bU.o d a3⟩
   have aY:AT y.2.1:=bD.o y (Bp _ (hy ▸ BU Y));have a7:=A1 (λd bQ=>Nn d wb len x y (bD.o x (Bt ..)) aY bP.o bQ);have aI:=Nl (len:=len) (p:=x) (q:=y);obtain⟨cc,a8⟩:∃cc,H7 len x y=cc:=⟨_,rfl⟩;rw[a8]at a7 aI;have aL:A7 wr wb 0 (A0 len):=i3.ao b3.o;have b4:Hid (¬cc<0->∀z,(U.take (q+1)).getLast?=some z->Az len x z=false):=λhc z hz=>by
    rw[N0 Y,hy]at hz;cases hz;cases hk:Az len x y with
    | false=>rfl
    | true=>exact absurd (aI.2 hk) hc
   have bT:Hid (cc<0->∀z,(U.drop q).head?=some z->Az len x z=true):=λhc z hz=>by
    rw[head_drop Y,hy]at hz;cases hz;exact aI.1 hc
   obtain⟨Q,hQ⟩:∃Q,a+q=Q:=⟨_,rfl⟩;rw[hQ]at n3 n6 n7 bC;have QI:(Q:Int)<(n:Int):=F5.2 n6;have Q0:=C3 Q;have tQ:(Q:Int).toNat=Q:=EH Q;have tM:(m:Int).toNat=m:=EH m;obtain⟨xa,xb,xc⟩:=x;obtain⟨ya,yb,yc⟩:=y;unfold DA at a7;dsimp only at a7 bC;have bV:=bC.o wr.drew (A3.I _ wr).ag;have aW:=A1 (a7.o wr.drew aL);obtain⟨I,W⟩:∃I,a+s=I:=⟨_,rfl⟩;obtain⟨J,aA⟩:∃J,a+r=J:=⟨_,rfl⟩;obtain⟨bY,aB⟩:∃bY,I+J=bY:=⟨_,rfl⟩;rw[W,aA,aB]at n1 n2;obtain⟨bZ,aU⟩:∃bZ,a+(q+1)=bZ:=⟨_,rfl⟩;rw[aU]at n7;rw[W,aA,aB]at n3;rw[W,aA]at bL;have aD:=A1 (And.intro i1 (And.intro i2 (And.intro i3 (And.intro i4 (And.intro i5 (And.intro n4 (And.intro n5 (And.intro hQ (And.intro aU (And.intro W aA))))))))));rw[W,aA];clear hI i1 i2 i3 i4 i5 n4 n5 n6 E hy aY a8 a7 aL Y aE aQ bO bU hQ aU W aA aB aI e1 e2 e4 e5;rcases QU (cc<0) with O|O
   focus
    have aT:¬(0<=cc):=Int.not_le.2 O;have bH:decide (cc<0)=true:=CM O
   rotate_left
   focus
    have aT:0<=cc:=QR.1 O;have bH:decide (cc<0)=false:=De O
   iterate 2
    ·go_wp2;clear n1 n2 n3;refine Cc (λw'=>(A7 w' g (Q*3) (A0 ya)/\A7 w' g (Q*3+1) (A0 yb)/\A7 w' g (Q*3+2) (A0 yc))/\A7 w' g (m*3) (A0 xa)/\A7 w' g (m*3+1) (A0 xb)/\A7 w' g (m*3+2) (A0 xc)) 10
      (BG [0,1,2,3,4,5,6,7,8,9] [9]) bV ?_
     iterate 9 refine Bq ?_
     refine Bx λK hK=>?_;go_simp;refine aW.k ?_;rintro w6 a1;have k6:A3 Ab wr w6:=((A3.I Ab wr).ag).tr a1;refine hK _ _ (bC.o w6 k6) (λhS=>?_);have bX:=A1 k6;clear hK K hS a1 k6 bV aW;refine C8 ?_;clear bJ;go_wp2;go_roundw
     ·obtain⟨f1,f2,f3,f4,f5,f6,f7,f8,f9,f10,f11⟩:=aD.o
      first
       | exact⟨q+1,r,by rw[<-f8];rfl,by rw[f11],f6,f2,f3.tr bX.o,b4.o (by first|exact aT|exact QR.2 aT),f5⟩
       | exact⟨s,q,by rw[f10],by rw[f8],f7,ET (Bi f6 f2),f3.tr bX.o,f4,bT.o O⟩
     ·obtain⟨f1,f2,f3,f4,f5,f6,f7,f8,f9,f10,f11⟩:=aD.o;(have g1:I<=Q:=by rw[<-f10,<-f8];exact Mg f7 a);(have g2:Q<J:=by rw[<-f11,<-f8];exact KH f6 a)
      first
       | exact Ps g1 g2
       | exact Pv g1 g2
  ·obtain rfl:s=r:=KG i1 (HS aE);have aZ:¬(((a+s:Nat):Int)<((a+s:Nat):Int)):=Mr _;have bN:=A1 (KW.fR bG.o s i4 i5);have bB:Hid (wr.ownsRow 0 113 3 (AH g n cap) n (Bb (A++(U.take L++x::U.drop L)++Z))):=by
    have:=Ax bA.o λg' hg=>i3.An g' (AF bA.o hg) (λh=>h);unfold Hid;rw[<-aS.o,Cf,GI];simpa using this
   have a9:Hid (A3 (One g) w wr):=i3.aY;have bR:s<=L:=i2;have bK:Hid (∀q,q+1<=L->_):=λq E=>A1r (a:=a) (q:=q) (s:=L) a6.o.1 (by rw[bE.o];exact ET a6.o.2) E;obtain⟨S,hS⟩:∃S,a+s=S:=⟨_,rfl⟩;have bW:=A1 hS;rw[hS]at aZ ⊢;clear hI i1 i2 i3 i4 i5 aQ bO bU e1 e2 e4 e5 hS aE;generalize wr=w3 at bB a9 ⊢;go_wp2;go_loopw [17] (λkv wr=>∃q:Nat,kv=A0 ((a+q:Nat):Int)/\s<=q/\q<=L/\Hid (wr.ownsRow 0 113 3 (AH g n cap) n (Bb (A++(U.take q++x::U.drop q)++Z))/\A3 (One g) w wr)) (λkv _=>(intOf kv).toNat)
   ·exact⟨L,by rw[bE.o],bR,Ao _,bB.o,a9.o⟩
   ·obtain⟨q,rfl,aO,aF,hI⟩:=hrel;obtain⟨i1,i2⟩:=hI.o;by_cases E:s<q
    ·obtain⟨q,rfl⟩:=Nat.exists_eq_succ_of_ne_zero (Nat.ne_of_gt (WH (Cb s) E));obtain⟨z1,z2⟩:=bK.o q aF;obtain⟨y,f1,f2,f3⟩:=A38 (A:=A) (Z:=Z) (y:=x) (U:=U) (q:=q) (by rw[aS.o];exact aF);rw[bS.o]at f1 f2 f3;obtain⟨P,hP⟩:∃P,a+q=P:=⟨_,rfl⟩;(have a4:a+(q+1)=P+1:=by rw[<-Mh,hP]);rw[hP]at f1 f2 f3 z1 z2;obtain⟨b1,a2⟩:=Ht.1 f1;obtain⟨b2,aP⟩:=Ht.1 f2;have hlt:(S:Int)<((P:Nat):Int)+1:=F5.2 (show S<P+1 by rw[<-hP,<-bW.o];exact KH E a);obtain⟨x1,x2,x3⟩:=AX.bz i1 (P+1) b1 x a2;obtain⟨y1,y2,y3⟩:=AX.bz i1 P b2 y aP;obtain⟨aV,wv,aG,aK⟩:=Sg i1 (P+1) P b1 b2 (Nat.ne_of_gt (WG P)) x y aP;obtain⟨aN,aR,aM⟩:=wv;have fz:∀o,wr.frozen? (Ac g o)=false:=λo=>Gk i1 rfl o;have aJ:=a5.o _ i1;rw[aJ]at b1 b2;have PI:(P:Int)<(n:Int):=F5.2 b2;have P1I:(P:Int)+1<(n:Int):=F5.2 b1;have P0:=C3 P;have P10:(0:Int)<=(P:Int)+1:=GK (P+1);have tP:(P:Int).toNat=P:=EH P;have tP1:((P:Int)+1).toNat=P+1:=EH (P+1);have bF:wrap64 ((P:Int)+1-1)=(P:Int):=z1;have bI:IntKind.i64.wrap ((P:Int)+1-1)=(P:Int):=z2;(have z3':wrap64 (P:Int)=(P:Int):=by rwa [JS]at bF);(have z4':IntKind.i64.wrap (P:Int)=(P:Int):=by rwa [JS]at bI);rw[f3]at aG;have H:=A1 (And.intro aG (aK w i2));have b0:=A1 (And.intro E (And.intro hP aF));obtain⟨xa,xb,xc⟩:=x;obtain⟨ya,yb,yc⟩:=y;unfold Hk at aV aN aR aM H;dsimp only at x1 x2 x3 y1 y2 y3 aV aN aR aM H;rw[a4];clear hI i1 i2 f1 f2 f3 b1 a2 b2 aP aG aK E hP a4 aJ z1 z2 aF aO bK bB a9 bN bA bD bG;go_wp2;refine Mv 15 (λw'=>A7 w' g (P*3) (A0 ya)/\A7 w' g (P*3+1) (A0 yb)/\A7 w' g (P*3+2) (A0 yc)/\A7 w' g ((P+1)*3) (A0 xa)/\A7 w' g ((P+1)*3+1) (A0 xb)/\A7 w' g ((P+1)*3+2) (A0 xc)) 16
      [(0,1),(1,1),(5,1),(6,1),(7,1),(8,1),(9,1),(10,2),(11,2),(12,2),(13,1),(14,1),(2,2),(3,2),(4,2),(15,0)] ⟨y1,y2,y3,x1,x2,x3⟩ ?_
     iterate 7 refine Is ?_
     iterate 3 refine It ?_
     iterate 2 refine Is ?_
     iterate 3 refine It ?_
     refine Mx λK hK=>?_;go_simp;refine hK _ _ ?_;clear hK K;refine Mw ?_;clear x1 x2 x3 y1 y2 y3 fz;generalize (((wr.setCell (Ac g ((P+1)*3)) (A0 ya)).setCell (Ac g ((P+1)*3+1)) (A0 yb)).setCell (Ac g ((P+1)*3+2)) (A0 yc)).drew=w7 at aV aN aR aM H ⊢;go_wp2;go_roundw
     ·obtain⟨k1,k2,k3⟩:=b0.o;exact⟨q,by rw[k2],A4R k1,Nat.le_of_succ_le k3,H.o⟩
     ·exact A05 P
    ·obtain rfl:s=q:=KG aO (HS E);have aZ:¬((S:Int)<(S:Int)):=Mr _;rw[bW.o];have H:=A1 (And.intro i1 i2);have bM:=aS.o;have b5:Hid ((U.take s++x::U.drop s).length=U.length+1):=Uy U x s (by rw[aS.o];exact aF);clear hI i1 i2 E aO bK bB a9 bA bD bG bM;go_wp2;refine Nt (Ss rfl _ _ _) rfl ?_;exact⟨rfl,U.take s++x::U.drop s,by simpa using H.o.1,by rw[<-aS.o];exact b5.o,bN.o.1,bN.o.2,H.o.2⟩
end
end
end Go.Proofs.YtodcnkbblippnaaGreatDoor
