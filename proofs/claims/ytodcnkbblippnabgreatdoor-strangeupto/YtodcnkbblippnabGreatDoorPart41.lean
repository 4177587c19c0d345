/- Part 41 of a proof: walks of the program. -/
import Derived.Test.YtodcnkbblippnabGreatDoorPart38
import Derived.Test.YtodcnkbblippnabGreatDoorPart40
namespace Go.Proofs.YtodcnkbblippnabGreatDoor
set_option maxRecDepth 100000
set_option maxHeartbeats 32000000
set_option linter.defProp false
open Go.Proofs.Tryz
section
open Go.RowKit
attribute [local go_sem ↓] Cz
def SQ{m s r L n:Nat}(hn:n<=4294967296)(h:s<r)(hr:r<=L)(hm:m+L<=n):
 wrap64 (((m+s:Nat):Int)+((m+r:Nat):Int))=((m+s+(m+r):Nat):Int)/\IntKind.u64.wrap ((m+s+(m+r):Nat):Int)=((m+s+(m+r):Nat):Int)/\wrap64 (((m+s+(m+r):Nat):Int)/2)=((m+(s+r)/2:Nat):Int)/\
 (s+r)/2<r/\s<=(s+r)/2/\m+(s+r)/2<n/\wrap64 (((m+(s+r)/2:Nat):Int)+1)=((m+((s+r)/2+1):Nat):Int):=by
 refine⟨by unfold wrap64;omega,?_,by unfold wrap64;omega,by omega,by omega,by omega,by unfold wrap64;omega⟩;simp[IntKind.wrap,IntKind.bits,IntKind.signed];omega
def YL{a s n q:Nat}(hn:n<=4294967296)(h:a+1+s<=n)(hq:q<=s):
 wrap64 (((a+1+s:Nat):Int)-1)=((a+s:Nat):Int)/\IntKind.i64.wrap (((a+1+s:Nat):Int)-1)=((a+s:Nat):Int)/\wrap64 (((a+q:Nat):Int)+1)=((a+(q+1):Nat):Int)/\IntKind.i64.wrap (((a+q:Nat):Int)+1)=((a+(q+1):Nat):Int):=by
 refine⟨by unfold wrap64;omega,?_,by unfold wrap64;omega,?_⟩
 ·simp[IntKind.wrap,IntKind.bits,IntKind.signed];omega
 ·simp[IntKind.wrap,IntKind.bits,IntKind.signed];omega
def GZ(w:World)(g k:Nat)(p:Pu):World:=((w.setCell ⟨g,k*3,none⟩ (.int .i64 p.1)).setCell ⟨g,k*3+1,none⟩ (.int .i64 p.2.1)).setCell ⟨g,k*3+2,none⟩ (.int .i64 p.2.2)
def RH{w z:World}{g:Nat}(h:A5 (One g) z w)(k:Nat)(p:Pu):A5 (One g) z (GZ w g k p):=((h.ao (b:=g) rfl _ _).ao (b:=g) rfl _ _).ao (b:=g) rfl _ _
def QS{w:World}{g n cap:Nat}{l:List Pu}(h:w.ownsRow 0 90 3 (.slice (some ⟨g,0,none⟩) n cap) n (Ba l))(i j:Nat)(Y:i<l.length)(O:j<l.length)(z:i≠j)(x y:Pu)(X:l[j]'O=y):
 (∀o,(GZ w g i y).drew.frozen? ⟨g,o,none⟩=false)/\((GZ w g i y).drew.cell? ⟨g,j*3,none⟩=some (.int .i64 y.1)/\(GZ w g i y).drew.cell? ⟨g,j*3+1,none⟩=some (.int .i64 y.2.1)/\(GZ w g i y).drew.cell? ⟨g,j*3+2,none⟩=some (.int .i64 y.2.2))/\
 (GZ (GZ w g i y).drew g j x).ownsRow 0 90 3 (.slice (some ⟨g,0,none⟩) n cap) n (Ba ((l.set i y).set j x))/\∀I,A5 (One g) I w->A5 (One g) I (GZ (GZ w g i y).drew g j x):=by
 have H:=AA (AZ.bp h i Y y) λ_ _=>rfl;refine⟨λo=>Ga H rfl o,AZ.bu H j (by rw[J9];exact O) y ?_,AZ.bp H j (by rw[J9];exact O) x,λI W=>RH (RH W i y).ad j x⟩;rw[A20 z];exact X
def T6{α:Type}(V:List α)(x:α)(q:Nat)(h:q<=V.length):(V.take q++x::V.drop q).length=V.length+1:=by simp;omega
def Za{a s q P:Nat}(h:q<s)(e:a+q=P):a+s-(intOf (A0 ((P:Int)+1))).toNat<a+s-(intOf (A0 (P:Int))).toNat:=by simp[intOf];omega
def O3{I J Q:Nat}(h1:I<=Q)(h2:Q<J):(intOf (A0 (J:Int))).toNat-(intOf (A0 ((Q:Int)+1))).toNat<(intOf (A0 (J:Int))).toNat-(intOf (A0 (I:Int))).toNat:=by simp[intOf];omega
def O4{I J Q:Nat}(h1:I<=Q)(h2:Q<J):(intOf (A0 (Q:Int))).toNat-(intOf (A0 (I:Int))).toNat<(intOf (A0 (J:Int))).toNat-(intOf (A0 (I:Int))).toNat:=by simp[intOf];omega
def A0K{α:Type}{A V Z:List α}{x:α}{q:Nat}(h:q<V.length):∃y,(A++(V.take q++x::V.drop q)++Z)[A.length+q]?=some x/\(A++(V.take q++x::V.drop q)++Z)[A.length+q+1]?=some y/\
 ((A++(V.take q++x::V.drop q)++Z).set (A.length+q) y).set (A.length+q+1) x=A++(V.take (q+1)++x::V.drop (q+1))++Z:=by
 have H:(A++V.take q).length=A.length+q:=by simp;omega
 have O:(A++V.take q++[V[q]'h]).length=A.length+q+1:=by simp;omega
 have z:A++(V.take q++x::V.drop q)++Z=(A++V.take q)++x::(V[q]'h::(V.drop (q+1)++Z)):=by rw[Fy h];simp only[C6,Fb]
 have W:A++(V.take (q+1)++x::V.drop (q+1))++Z=(A++V.take q++[V[q]'h])++x::(V.drop (q+1)++Z):=by rw[Dz h];simp
 have I:∀u,(A++V.take q)++u::(V[q]'h::(V.drop (q+1)++Z))=(A++V.take q++[u])++V[q]'h::(V.drop (q+1)++Z):=λu=>by simp
 refine⟨V[q]'h,?_,?_,?_⟩
 ·rw[z,<-H];simp
 ·rw[z,I,Ht (by simp;omega)];have:A.length+q+1-(A++V.take q++[x]).length=0:=by simp;omega
  rw[this];rfl
 ·rw[z,W,<-H,Jq,I,H,<-O,Jq]
def A17{α:Type}{A U Z:List α}{y:α}{q:Nat}(h:q<U.length):∃u,(A++(U.take (q+1)++y::U.drop (q+1))++Z)[A.length+q+1]?=some y/\(A++(U.take (q+1)++y::U.drop (q+1))++Z)[A.length+q]?=some u/\
 ((A++(U.take (q+1)++y::U.drop (q+1))++Z).set (A.length+q+1) u).set (A.length+q) y=A++(U.take q++y::U.drop q)++Z:=by
 have I:(A++U.take q).length=A.length+q:=by simp;omega
 have O:∀u:α,(A++U.take q++[u]).length=A.length+q+1:=λu=>by simp;omega
 have z:A++(U.take (q+1)++y::U.drop (q+1))++Z=(A++U.take q++[U[q]'h])++y::(U.drop (q+1)++Z):=by rw[Dz h];simp
 have W:A++(U.take q++y::U.drop q)++Z=(A++U.take q)++y::(U[q]'h::(U.drop (q+1)++Z)):=by rw[Fy h];simp only[C6,Fb]
 have H:∀u v:α,(A++U.take q++[u])++v::(U.drop (q+1)++Z)=(A++U.take q)++u::(v::(U.drop (q+1)++Z)):=λu v=>by simp
 refine⟨U[q]'h,?_,?_,?_⟩
 ·rw[z,<-O (U[q]'h)];simp
 ·rw[z,H,<-I];simp
 ·rw[z,W,<-O (U[q]'h),Jq,H,<-I,Jq]
section
variable{w w':World}{g cap n:Nat}
def W5(w:World)(g cap n wb:Nat)(len:Int)(A V Z:List Pu)(x:Pu)(_hv:V≠[])(hn:n=(A++x::(V++Z)).length)(h:w.ownsRow 0 90 3 (AN g n cap) n (Ba (A++x::(V++Z))))(hT:∀p∈x::V,AY p.2.1)(hA:B3 (AE len) V)(hl:1<=len/\len<=4611686018427387904)(hw:Aa w wb 0 (A0 len))(a3:wb≠g)(aJ:n<=4294967296):
 Aj 194 #[AN g n cap,A0 A.length,A0 ((A.length+1:Nat):Int),A0 ((A.length+1+V.length:Nat):Int),.func (Fn.func 103) #[] #[A7 wb]] w (Au (.tuple #[]) λw'=>
  ∃M,w'.ownsRow 0 90 3 (AN g n cap) n (Ba (A++M++Z))/\M.length=V.length+1/\B3 (AE len) M/\Bg (AE len) (x::V) M/\A5 (One g) w w'):=by
 have KW:=FY len;obtain⟨a,ha⟩:∃a,A.length=a:=⟨_,rfl⟩;obtain⟨m,hm⟩:∃m,a+1=m:=⟨_,rfl⟩;obtain⟨L,hL⟩:∃L,V.length=L:=⟨_,rfl⟩;obtain⟨b,hb⟩:∃b,m+L=b:=⟨_,rfl⟩;have aW:b<=n:=by rw[hn];simp;omega
 have bJ:a<n:=by omega
 have aS:Hid (∀s r,s<r->r<=L->_):=λs r h hr=>SQ (m:=m) aJ h hr (hb ▸ aW);have bP:Hid (∀H,A5 Ab w H->∀q (W:q<V.length),Aa H g ((m+q)*3) (A0 (V[q]'W).1)/\Aa H g ((m+q)*3+1) (A0 (V[q]'W).2.1)/\Aa H g ((m+q)*3+2) (A0 (V[q]'W).2.2)):=λH hx q W=>by
  have e:(A++x::(V++Z))[m+q]'(by rw[<-hn];omega)=V[q]'W:=by
   rw[Gl (by omega)];(have:m+q-A.length=q+1:=by omega);simp only[this,Pm];exact F9 W
  have⟨y1,y2,y3⟩:=AZ.bu h (m+q) (by rw[<-hn];omega) _ e;exact⟨hx.an y1,hx.an y2,hx.an y3⟩
 have bW:Hid (∀H,A5 Ab w H->Aa H g (a*3) (A0 x.1)/\Aa H g (a*3+1) (A0 x.2.1)/\Aa H g (a*3+2) (A0 x.2.2)):=λH hx=>by
  have e:(A++x::(V++Z))[a]'(by rw[<-hn];omega)=x:=by
   rw[Gl (by omega)];simp[ha]
  have⟨y1,y2,y3⟩:=AZ.bu h a (by rw[<-hn];omega) _ e;exact⟨hx.an y1,hx.an y2,hx.an y3⟩
 have e1:wrap64 ((m:Int)-(a:Int))=1:=by unfold wrap64;omega
 have e2:IntKind.i64.wrap ((m:Int)-(a:Int))=1:=by rw[show (m:Int)-(a:Int)=1 by omega];rfl
 have a0:=Cd a;have aI:(a:Int)<(n:Int):=by omega
 have aY:n<=cap/\cap<=9223372036854775807:=by
  have⟨a',c',e,h1,h2,_⟩:=Bb h;cases e;unfold maxLen at h2;omega
 obtain⟨hc1,hc2⟩:=aY;have bI:=A4 hT;have b3:=A4 hw;have bQ:=A4 hl;have HWB:=A4 a3;have bE:=A4 h;have bT:=A4 ha;have a8:Hid (∀ {H:World} (l:List Pu),H.ownsRow 0 90 3 (AN g n cap) n (Ba l)->l.length=n):=λl hl=>by
  have:=hl.1;rw[RJ]at this;omega
 have a9:Hid (n<=4294967296/\m+L<=n):=⟨aJ,by rw[hb];exact aW⟩;have bK:=A4 hA;have bX:=A4 hm;have bH:=A4 hL;have HB:=A4 hb;rw[ha,hm,hL,hb];have aR:=hb.symm;clear h hT hw hl a3 hA hm hL aW bJ aJ hn ha _hv hb
 go_enter func194,ntmps194
 go_wp2;rename_i kA kB qA a1;clear kB;go_loopw [10,11] (λiv jv wr=>∃(s r:Nat),iv=A0 ((m+s:Nat):Int)/\jv=A0 ((m+r:Nat):Int)/\Hid (s<=r/\r<=L/\A5 Ab w wr/\(∀y,(V.take s).getLast?=some y->AE len y x=true)/\(∀y,(V.drop r).head?=some y->AE len y x=false))) (λiv jv _=>(intOf jv).toNat-(intOf iv).toNat)
 ·exact⟨0,L,by go_num,by rw[aR],C8 _,Aq _,A5.C _ _,(λy hy=>by simp at hy),(λy hy=>by rw[<-bH.o,Gm]at hy;cases hy)⟩
 ·obtain⟨s,r,rfl,rfl,hI⟩:=hrel;have⟨i1,i2,i3,i4,i5⟩:=hI.o;by_cases aE:s<r
  ·have⟨n1,n2,n3,n4,n5,n6,n7⟩:=aS.o s r aE i2;have bM:=EW.2 (K3 aE m);obtain⟨q,W⟩:∃q,(s+r)/2=q:=⟨_,rfl⟩;rw[W]at n3 n4 n5 n6 n7;(have aA:q<V.length:=by rw[bH.o];exact Bm n4 i2);obtain⟨y,hy⟩:∃y,V[q]'aA=y:=⟨_,rfl⟩;have a4:Hid (∀H,A5 Ab wr H->(Aa H g ((m+q)*3) (A0 y.1)/\Aa H g ((m+q)*3+1) (A0 y.2.1)/\Aa H g ((m+q)*3+2) (A0 y.2.2))/\Aa H g (a*3) (A0 x.1)/\Aa H g (a*3+1) (A0 x.2.1)/\Aa H g (a*3+2) (A0 x.2.2)):=λH hx=>by
    have a5:=i3.tr hx;have:=bP.o H a5 q aA;rw[hy]at this;exact⟨this,bW.o H a5⟩
   have aZ:=bI.o y (Bn _ (hy ▸ BS aA));have bA:=A4 (λH bR=>Ms H wb len y x aZ (bI.o x (Bp ..)) bQ.o bR);have aM:=Mr (len:=len) (p:=y) (q:=x);obtain⟨cc,bB⟩:∃cc,GP len y x=cc:=⟨_,rfl⟩;rw[bB]at bA aM;have aO:=i3.an b3.o;have b4:Hid (cc<0->∀z,(V.take (q+1)).getLast?=some z->AE len z x=true):=λhc z hz=>by
    rw[M4 aA,hy]at hz;cases hz;exact aM.1 hc
   have bV:Hid (¬cc<0->∀z,(V.drop q).head?=some z->AE len z x=false):=λhc z hz=>by
    rw[head_drop aA,hy]at hz;cases hz;cases hk:AE len y x with
    | false=>rfl
    | true=>exact absurd (aM.2 hk) hc
   obtain⟨Q,hQ⟩:∃Q,m+q=Q:=⟨_,rfl⟩;rw[hQ]at n3 n6 n7 a4;have QI:=EW.2 n6;have Q0:=Cd Q;have tQ:=EA Q;have tA:=EA a;obtain⟨xa,xb,xc⟩:=x;obtain⟨ya,yb,yc⟩:=y;unfold DB at bA;dsimp only at bA a4;have bF:=a4.o wr.drew (A5.C _ wr).ad;have aK:=A4 (bA.o wr.drew aO);obtain⟨I,Y⟩:∃I,m+s=I:=⟨_,rfl⟩;obtain⟨J,aB⟩:∃J,m+r=J:=⟨_,rfl⟩;obtain⟨bZ,aD⟩:∃bZ,I+J=bZ:=⟨_,rfl⟩;rw[Y,aB,aD]at n1 n2;obtain⟨b0,aV⟩:∃b0,m+(q+1)=b0:=⟨_,rfl⟩;rw[aV]at n7;rw[Y,aB,aD]at n3;rw[Y,aB]at bM;have O:=A4 (And.intro i1 (And.intro i2 (And.intro i3 (And.intro i4 (And.intro i5 (And.intro n4 (And.intro n5 (And.intro hQ (And.intro aV (And.intro Y aB))))))))));rw[Y,aB];clear hI i1 i2 i3 i4 i5 n4 n5 n6 W hy aZ bB bA aO aA aE aS bP bW hQ aV Y aB aD aR aM;by_cases aX:cc<0
   ·go_wp2;clear n1 n2 n3;refine Ce (λw'=>(Aa w' g (Q*3) (A0 ya)/\Aa w' g (Q*3+1) (A0 yb)/\Aa w' g (Q*3+2) (A0 yc))/\Aa w' g (a*3) (A0 xa)/\Aa w' g (a*3+1) (A0 xb)/\Aa w' g (a*3+2) (A0 xc)) 10
     (BD [0,1,2,3,4,5,6,7,8,9] [9]) bF ?_
    iterate 9 refine Bq ?_
    refine By λK hK=>?_;go_simp;refine aK.k ?_;rintro w6 aG;have k6:=((A5.C Ab wr).ad).tr aG;refine hK _ _ (a4.o w6 k6) (λhS=>?_);have bS:=A4 k6;clear hK K hS aG k6 bF aK;refine Cc ?_;clear a1;go_wp2;go_roundw
    ·have⟨f1,f2,f3,f4,f5,f6,f7,f8,f9,f10,f11⟩:=O.o;exact⟨q+1,r,by rw[<-f8];rfl,by rw[f11],f6,f2,f3.tr bS.o,b4.o aX,f5⟩
    ·have⟨f1,f2,f3,f4,f5,f6,f7,f8,f9,f10,f11⟩:=O.o;exact O3 (by rw[<-f10,<-f8];exact Lc f7 m) (by rw[<-f11,<-f8];exact K3 f6 m)
   ·go_wp2;clear n1 n2 n3;refine Ce (λw'=>(Aa w' g (Q*3) (A0 ya)/\Aa w' g (Q*3+1) (A0 yb)/\Aa w' g (Q*3+2) (A0 yc))/\Aa w' g (a*3) (A0 xa)/\Aa w' g (a*3+1) (A0 xb)/\Aa w' g (a*3+2) (A0 xc)) 10
     (BD [0,1,2,3,4,5,6,7,8,9] [9]) bF ?_
    iterate 9 refine Bq ?_
    refine By λK hK=>?_;go_simp;refine aK.k ?_;rintro w6 aG;have k6:A5 Ab wr w6:=((A5.C Ab wr).ad).tr aG;refine hK _ _ (a4.o w6 k6) (λhS=>?_);have bS:=A4 k6;clear hK K hS aG k6 bF aK;refine Cc ?_;clear a1;go_wp2;go_roundw
    ·have⟨f1,f2,f3,f4,f5,f6,f7,f8,f9,f10,f11⟩:=O.o;exact⟨s,q,by rw[f10],by rw[f8],f7,ES (Bm f6 f2),f3.tr bS.o,f4,bV.o aX⟩
    ·have⟨f1,f2,f3,f4,f5,f6,f7,f8,f9,f10,f11⟩:=O.o;exact O4 (by rw[<-f10,<-f8];exact Lc f7 m) (by rw[<-f11,<-f8];exact K3 f6 m)
  ·obtain rfl:s=r:=K1 i1 (Iu aE);have a2:¬(((m+s:Nat):Int)<((m+s:Nat):Int)):=Lo _;have bO:=A4 (KW.eN bK.o s i4 i5);have bG:Hid (wr.ownsRow 0 90 3 (AN g n cap) n (Ba (A++(V.take 0++x::V.drop 0)++Z))):=by
    have:=AA bE.o λg' hg=>i3.Ao g' (AG bE.o hg) (λh=>h);unfold Hid;simpa using this
   have bD:Hid (A5 (One g) w wr):=i3.aZ;(have a6:s<=V.length:=by rw[bH.o];exact i2);have bL:Hid (∀q,q<=s->_):=λq W=>YL (a:=a) (q:=q) a9.o.1 (AH (by rw[bX.o];exact Lc i2 m) a9.o.2) W;have bC:=A4 a6;obtain⟨ms,aU⟩:∃ms,m+s=ms:=⟨_,rfl⟩;(have bU:Hid (ms=a+1+s):=by unfold Hid;rw[<-aU,<-bX.o]);rw[aU]at a2 ⊢;clear hI i1 i2 i3 i4 i5 aS bP bW aR e1 e2 aU aE a6;generalize wr=w3 at bG bD ⊢;go_wp2;go_loopw [13] (λkv wr=>∃q:Nat,kv=A0 ((a+q:Nat):Int)/\q<=s/\Hid (wr.ownsRow 0 90 3 (AN g n cap) n (Ba (A++(V.take q++x::V.drop q)++Z))/\A5 (One g) w wr)) (λkv _=>a+s-(intOf kv).toNat)
   ·exact⟨0,by go_num,C8 _,bG.o,bD.o⟩
   ·obtain⟨q,rfl,aL,hI⟩:=hrel;have⟨i1,i2⟩:=hI.o;have⟨z1,z2,z3,z4⟩:=bL.o q aL;rw[<-bU.o]at z1 z2;obtain⟨S,aF⟩:∃S,a+s=S:=⟨_,rfl⟩;rw[aF]at z1 z2;by_cases W:q<s
    ·have⟨y,f1,f2,f3⟩:=A0K (A:=A) (Z:=Z) (x:=x) (Bm W bC.o);rw[bT.o]at f1 f2 f3;obtain⟨P,hP⟩:∃P,a+q=P:=⟨_,rfl⟩;(have a7:a+(q+1)=P+1:=by rw[<-Ld,hP]);rw[hP]at f1 f2 f3;rw[hP,a7]at z3 z4;have⟨b1,b1'⟩:=Hs.1 f1;have⟨b2,b2'⟩:=Hs.1 f2;have hlt:((P:Nat):Int)<(S:Int):=EW.2 (by rw[<-hP,<-aF];exact K3 W a);have⟨x1,x2,x3⟩:=AZ.bu i1 P b1 x b1';have⟨y1,y2,y3⟩:=AZ.bu i1 (P+1) b2 y b2';have⟨fz7,wv,aH,hchg⟩:=QS i1 P (P+1) b1 b2 (Nat.ne_of_lt (UZ P)) x y b2';obtain⟨aQ,aT,aP⟩:=wv;have fz:∀o,wr.frozen? (Ad g o)=false:=λo=>Ga i1 rfl o;have aN:=a8.o _ i1;rw[aN]at b1 b2;have PI:(P:Int)<(n:Int):=EW.2 b1;have P1I:(P:Int)+1<(n:Int):=EW.2 b2;have P0:=Cd P;have P10:(0:Int)<=(P:Int)+1:=Gn (P+1);have tP:(P:Int).toNat=P:=EA P;have tP1:((P:Int)+1).toNat=P+1:=EA (P+1);have z3':wrap64 ((P:Int)+1)=(P:Int)+1:=z3;have z4':IntKind.i64.wrap ((P:Int)+1)=(P:Int)+1:=z4;rw[f3]at aH;have X:=A4 (And.intro aH (hchg w i2));have bY:=A4 (And.intro W hP);obtain⟨xa,xb,xc⟩:=x;obtain⟨ya,yb,yc⟩:=y;unfold GZ at fz7 aQ aT aP X;dsimp only at x1 x2 x3 y1 y2 y3 fz7 aQ aT aP X;rw[hP];clear hI i1 i2 f1 f2 f3 b1 b1' b2 b2' aH hchg W hP a7 aN aF z3 z4 aL bL bG bD bO bE bI bK;go_wp2;refine Ls 15 (λw'=>Aa w' g (P*3) (A0 xa)/\Aa w' g (P*3+1) (A0 xb)/\Aa w' g (P*3+2) (A0 xc)/\Aa w' g ((P+1)*3) (A0 ya)/\Aa w' g ((P+1)*3+1) (A0 yb)/\Aa w' g ((P+1)*3+2) (A0 yc)) 16
      [(0,1),(1,1),(5,1),(6,1),(7,1),(8,1),(9,1),(10,2),(11,2),(12,2),(13,1),(14,1),(2,2),(3,2),(4,2),(15,0)] ⟨x1,x2,x3,y1,y2,y3⟩ ?_
     iterate 7 refine I0 ?_
     iterate 3 refine I1 ?_
     iterate 2 refine I0 ?_
     iterate 3 refine I1 ?_
     refine Lu λK hK=>?_;go_simp;refine hK _ _ ?_;clear hK K;refine Lt ?_;clear x1 x2 x3 y1 y2 y3 fz;generalize (((wr.setCell (Ad g (P*3)) (A0 ya)).setCell (Ad g (P*3+1)) (A0 yb)).setCell (Ad g (P*3+2)) (A0 yc)).drew=w7 at fz7 aQ aT aP X ⊢;go_wp2;go_roundw
     ·have⟨k1,k2⟩:=bY.o;exact⟨q+1,by rw[<-k2];rfl,k1,X.o⟩
     ·have⟨k1,k2⟩:=bY.o;exact Za k1 k2
    ·obtain rfl:q=s:=K1 aL (Iu W);have a2:¬((S:Int)<(S:Int)):=Lo _;rw[aF];have X:=A4 (And.intro i1 i2);have bN:=bC.o;have b5:Hid ((V.take q++x::V.drop q).length=V.length+1):=T6 V x q bN;clear hI i1 i2 W aF z3 z4 aL bL bG bD bE bI bK;go_wp2;refine Mx (QZ rfl _ _ _) rfl ?_;exact⟨rfl,V.take q++x::V.drop q,by simpa using X.o.1,by rw[<-bH.o];exact b5.o,bO.o.1,bO.o.2,X.o.2⟩
end
def Z9{a s r L n:Nat}(I:n<=4294967296)(h:s<r)(H:r<=L)(z:a+L<=n):
 wrap64 (((a+s:Nat):Int)+((a+r:Nat):Int))=((a+s+(a+r):Nat):Int)/\IntKind.u64.wrap ((a+s+(a+r):Nat):Int)=((a+s+(a+r):Nat):Int)/\wrap64 (((a+s+(a+r):Nat):Int)/2)=((a+(s+r)/2:Nat):Int)/\
 (s+r)/2<r/\s<=(s+r)/2/\a+(s+r)/2<n/\wrap64 (((a+(s+r)/2:Nat):Int)+1)=((a+((s+r)/2+1):Nat):Int):=SQ I h H z
def Zb(P:Nat):(intOf (A0 (P:Int))).toNat<(intOf (A0 ((P:Int)+1))).toNat:=by simp[intOf]
def Zy{a s n q:Nat}(hn:n<=4294967296)(h:a+s<=n)(hq:q+1<=s):
 wrap64 (((a+q+1:Nat):Int)-1)=((a+q:Nat):Int)/\IntKind.i64.wrap (((a+q+1:Nat):Int)-1)=((a+q:Nat):Int):=by
 refine⟨by unfold wrap64;omega,?_⟩;simp[IntKind.wrap,IntKind.bits,IntKind.signed];omega
section
variable{w w':World}{g cap n:Nat}
def W8(w:World)(g cap n wb:Nat)(len:Int)(A U Z:List Pu)(x:Pu)(hu:2<=U.length)(hn:n=(A++(U++x::Z)).length)(h:w.ownsRow 0 90 3 (AN g n cap) n (Ba (A++(U++x::Z))))(hT:∀p∈x::U,AY p.2.1)(hA:B3 (AE len) U)(hl:1<=len/\len<=4611686018427387904)(hw:Aa w wb 0 (A0 len))(_hwb:wb≠g)(aI:n<=4294967296):
 Aj 194 #[AN g n cap,A0 A.length,A0 ((A.length+U.length:Nat):Int),A0 ((A.length+U.length+1:Nat):Int),.func (Fn.func 103) #[] #[A7 wb]] w (Au (.tuple #[]) λw'=>
  ∃M,w'.ownsRow 0 90 3 (AN g n cap) n (Ba (A++M++Z))/\M.length=U.length+1/\B3 (AE len) M/\Bg (AE len) (U++[x]) M/\A5 (One g) w w'):=by
 have KW:=FY len;obtain⟨a,ha⟩:∃a,A.length=a:=⟨_,rfl⟩;obtain⟨L,hL⟩:∃L,U.length=L:=⟨_,rfl⟩;obtain⟨m,hm⟩:∃m,a+L=m:=⟨_,rfl⟩;have a1:m<n:=by rw[hn];simp;omega
 have aR:Hid (∀s r,s<r->r<=L->_):=λs r h hr=>Z9 (a:=a) aI h hr (by omega);have bP:Hid (∀H,A5 Ab w H->∀q (O:q<U.length),Aa H g ((a+q)*3) (A0 (U[q]'O).1)/\Aa H g ((a+q)*3+1) (A0 (U[q]'O).2.1)/\Aa H g ((a+q)*3+2) (A0 (U[q]'O).2.2)):=λH hx q O=>by
  have e:(A++(U++x::Z))[a+q]'(by rw[<-hn];omega)=U[q]'O:=by
   rw[Gl (by omega)];(have:a+q-A.length=q:=by omega);simp only[this];exact F9 O
  obtain⟨y1,y2,y3⟩:=AZ.bu h (a+q) (by rw[<-hn];omega) _ e;exact⟨hx.an y1,hx.an y2,hx.an y3⟩
 have bV:Hid (∀H,A5 Ab w H->Aa H g (m*3) (A0 x.1)/\Aa H g (m*3+1) (A0 x.2.1)/\Aa H g (m*3+2) (A0 x.2.2)):=λH hx=>by
  have e:(A++(U++x::Z))[m]'(by rw[<-hn];omega)=x:=by
   rw[Gl (by omega),Gl (by omega)];(have:m-A.length-U.length=0:=by omega);simp only[this,Kb]
  obtain⟨y1,y2,y3⟩:=AZ.bu h m (by rw[<-hn];omega) _ e;exact⟨hx.an y1,hx.an y2,hx.an y3⟩
 have e1:wrap64 ((m:Int)-(a:Int))=(L:Int):=by unfold wrap64;omega
 have e2:IntKind.i64.wrap ((m:Int)-(a:Int))=(L:Int):=by simp[IntKind.wrap,IntKind.bits,IntKind.signed];omega
 have e3:((L:Int)=1)=False:=Mj (by omega);have e3':((L:Int)==1)=false:=by rw[Hn];omega
 obtain⟨b,hb⟩:∃b,m+1=b:=⟨_,rfl⟩;have e4:wrap64 ((b:Int)-(m:Int))=1:=by unfold wrap64;omega
 have e5:IntKind.i64.wrap ((b:Int)-(m:Int))=1:=by rw[show (b:Int)-(m:Int)=1 by omega];rfl
 have m0:=Cd m;have mI:(m:Int)<(n:Int):=by omega
 have aY:n<=cap/\cap<=9223372036854775807:=by
  obtain⟨a',c',e,h1,h2,_⟩:=Bb h;cases e;unfold maxLen at h2;omega
 obtain⟨hc1,hc2⟩:=aY;have bE:=A4 hT;have b4:=A4 hw;have bQ:=A4 hl;have bB:=A4 h;have bH:=A4 hA;have bF:=A4 hm;have aT:=A4 hL;have bT:=A4 ha;have a6:Hid (∀ {H:World} (l:List Pu),H.ownsRow 0 90 3 (AN g n cap) n (Ba l)->l.length=n):=λl hl=>by
  have:=hl.1;rw[RJ]at this;omega
 have a7:Hid (n<=4294967296/\m<n):=⟨aI,a1⟩;rw[ha,hL,hm,hb];clear h hT hw hl _hwb hA hm a1 aI hn ha hu hL hb
 go_enter func194,ntmps194
 go_wp2;rename_i kA kB qA bK;clear kB;go_loopw [14,15] (λiv jv wr=>∃(s r:Nat),iv=A0 ((a+s:Nat):Int)/\jv=A0 ((a+r:Nat):Int)/\Hid (s<=r/\r<=L/\A5 Ab w wr/\(∀y,(U.take s).getLast?=some y->AE len x y=false)/\(∀y,(U.drop r).head?=some y->AE len x y=true))) (λiv jv _=>(intOf jv).toNat-(intOf iv).toNat)
 ·exact⟨0,L,by go_num,by rw[bF.o],C8 _,Aq _,A5.C _ _,(λy hy=>by simp at hy),(λy hy=>by rw[<-aT.o,Gm]at hy;cases hy)⟩
 ·obtain⟨s,r,rfl,rfl,hI⟩:=hrel;obtain⟨i1,i2,i3,i4,i5⟩:=hI.o;by_cases aF:s<r
  ·obtain⟨n1,n2,n3,n4,n5,n6,n7⟩:=aR.o s r aF i2;have bM:((a+s:Nat):Int)<((a+r:Nat):Int):=EW.2 (K3 aF a);obtain⟨q,O⟩:∃q,(s+r)/2=q:=⟨_,rfl⟩;rw[O]at n3 n4 n5 n6 n7;(have aA:q<U.length:=by rw[aT.o];exact Bm n4 i2);obtain⟨y,hy⟩:∃y,U[q]'aA=y:=⟨_,rfl⟩;have bD:Hid (∀H,A5 Ab wr H->(Aa H g ((a+q)*3) (A0 y.1)/\Aa H g ((a+q)*3+1) (A0 y.2.1)/\Aa H g ((a+q)*3+2) (A0 y.2.2))/\Aa H g (m*3) (A0 x.1)/\Aa H g (m*3+1) (A0 x.2.1)/\Aa H g (m*3+2) (A0 x.2.2)):=λH hx=>by
    have a4:=i3.tr hx;have:=bP.o H a4 q aA;rw[hy]at this;exact⟨this,bV.o H a4⟩
   have aZ:AY y.2.1:=bE.o y (Bn _ (hy ▸ BS aA));have a8:=A4 (λH bR=>Ms H wb len x y (bE.o x (Bp ..)) aZ bQ.o bR);have aJ:=Mr (len:=len) (p:=x) (q:=y);obtain⟨cc,a9⟩:∃cc,GP len x y=cc:=⟨_,rfl⟩;rw[a9]at a8 aJ;have aM:Aa wr wb 0 (A0 len):=i3.an b4.o;have b5:Hid (¬cc<0->∀z,(U.take (q+1)).getLast?=some z->AE len x z=false):=λhc z hz=>by
    rw[M4 aA,hy]at hz;cases hz;cases hk:AE len x y with
    | false=>rfl
    | true=>exact absurd (aJ.2 hk) hc
   have bU:Hid (cc<0->∀z,(U.drop q).head?=some z->AE len x z=true):=λhc z hz=>by
    rw[head_drop aA,hy]at hz;cases hz;exact aJ.1 hc
   obtain⟨Q,hQ⟩:∃Q,a+q=Q:=⟨_,rfl⟩;rw[hQ]at n3 n6 n7 bD;have QI:(Q:Int)<(n:Int):=EW.2 n6;have Q0:=Cd Q;have tQ:(Q:Int).toNat=Q:=EA Q;have tM:(m:Int).toNat=m:=EA m;obtain⟨xa,xb,xc⟩:=x;obtain⟨ya,yb,yc⟩:=y;unfold DB at a8;dsimp only at a8 bD;have bW:=bD.o wr.drew (A5.C _ wr).ad;have aX:=A4 (a8.o wr.drew aM);obtain⟨I,Y⟩:∃I,a+s=I:=⟨_,rfl⟩;obtain⟨J,aB⟩:∃J,a+r=J:=⟨_,rfl⟩;obtain⟨bZ,aD⟩:∃bZ,I+J=bZ:=⟨_,rfl⟩;rw[Y,aB,aD]at n1 n2;obtain⟨b0,aV⟩:∃b0,a+(q+1)=b0:=⟨_,rfl⟩;rw[aV]at n7;rw[Y,aB,aD]at n3;rw[Y,aB]at bM;have aE:=A4 (And.intro i1 (And.intro i2 (And.intro i3 (And.intro i4 (And.intro i5 (And.intro n4 (And.intro n5 (And.intro hQ (And.intro aV (And.intro Y aB))))))))));rw[Y,aB];clear hI i1 i2 i3 i4 i5 n4 n5 n6 O hy aZ a9 a8 aM aA aF aR bP bV hQ aV Y aB aD aJ e1 e2 e4 e5;rcases PE (cc<0) with X|X
   focus
    have aU:¬(0<=cc):=Int.not_le.2 X;have bI:decide (cc<0)=true:=CJ X
   rotate_left
   focus
    have aU:0<=cc:=Pz.1 X;have bI:decide (cc<0)=false:=Dw X
   iterate 2
    ·go_wp2;clear n1 n2 n3;refine Ce (λw'=>(Aa w' g (Q*3) (A0 ya)/\Aa w' g (Q*3+1) (A0 yb)/\Aa w' g (Q*3+2) (A0 yc))/\Aa w' g (m*3) (A0 xa)/\Aa w' g (m*3+1) (A0 xb)/\Aa w' g (m*3+2) (A0 xc)) 10
      (BD [0,1,2,3,4,5,6,7,8,9] [9]) bW ?_
     iterate 9 refine Bq ?_
     refine By λK hK=>?_;go_simp;refine aX.k ?_;rintro w6 a2;have k6:A5 Ab wr w6:=((A5.C Ab wr).ad).tr a2;refine hK _ _ (bD.o w6 k6) (λhS=>?_);have bY:=A4 k6;clear hK K hS a2 k6 bW aX;refine Cc ?_;clear bK;go_wp2;go_roundw
     ·obtain⟨f1,f2,f3,f4,f5,f6,f7,f8,f9,f10,f11⟩:=aE.o
      first
       | exact⟨q+1,r,by rw[<-f8];rfl,by rw[f11],f6,f2,f3.tr bY.o,b5.o (by first|exact aU|exact Pz.2 aU),f5⟩
       | exact⟨s,q,by rw[f10],by rw[f8],f7,ES (Bm f6 f2),f3.tr bY.o,f4,bU.o X⟩
     ·obtain⟨f1,f2,f3,f4,f5,f6,f7,f8,f9,f10,f11⟩:=aE.o;(have g1:I<=Q:=by rw[<-f10,<-f8];exact Lc f7 a);(have g2:Q<J:=by rw[<-f11,<-f8];exact K3 f6 a)
      first
       | exact O3 g1 g2
       | exact O4 g1 g2
  ·obtain rfl:s=r:=K1 i1 (Iu aF);have a0:¬(((a+s:Nat):Int)<((a+s:Nat):Int)):=Lo _;have bO:=A4 (KW.fE bH.o s i4 i5);have bC:Hid (wr.ownsRow 0 90 3 (AN g n cap) n (Ba (A++(U.take L++x::U.drop L)++Z))):=by
    have:=AA bB.o λg' hg=>i3.Ao g' (AG bB.o hg) (λh=>h);unfold Hid;rw[<-aT.o,Cj,Gm];simpa using this
   have bA:Hid (A5 (One g) w wr):=i3.aZ;have bS:s<=L:=i2;have bL:Hid (∀q,q+1<=L->_):=λq O=>Zy (a:=a) (q:=q) (s:=L) a7.o.1 (by rw[bF.o];exact ES a7.o.2) O;obtain⟨S,hS⟩:∃S,a+s=S:=⟨_,rfl⟩;have bX:=A4 hS;rw[hS]at a0 ⊢;clear hI i1 i2 i3 i4 i5 aR bP bV e1 e2 e4 e5 hS aF;generalize wr=w3 at bC bA ⊢;go_wp2;go_loopw [17] (λkv wr=>∃q:Nat,kv=A0 ((a+q:Nat):Int)/\s<=q/\q<=L/\Hid (wr.ownsRow 0 90 3 (AN g n cap) n (Ba (A++(U.take q++x::U.drop q)++Z))/\A5 (One g) w wr)) (λkv _=>(intOf kv).toNat)
   ·exact⟨L,by rw[bF.o],bS,Aq _,bC.o,bA.o⟩
   ·obtain⟨q,rfl,aP,aG,hI⟩:=hrel;obtain⟨i1,i2⟩:=hI.o;by_cases O:s<q
    ·obtain⟨q,rfl⟩:=Nat.exists_eq_succ_of_ne_zero (Nat.ne_of_gt (Nat.lt_of_le_of_lt (C8 s) O));obtain⟨z1,z2⟩:=bL.o q aG;obtain⟨y,f1,f2,f3⟩:=A17 (A:=A) (Z:=Z) (y:=x) (U:=U) (q:=q) (by rw[aT.o];exact aG);rw[bT.o]at f1 f2 f3;obtain⟨P,hP⟩:∃P,a+q=P:=⟨_,rfl⟩;(have a5:a+(q+1)=P+1:=by rw[<-Ld,hP]);rw[hP]at f1 f2 f3 z1 z2;obtain⟨b1,a3⟩:=Hs.1 f1;obtain⟨b2,aQ⟩:=Hs.1 f2;have hlt:(S:Int)<((P:Nat):Int)+1:=EW.2 (show S<P+1 by rw[<-hP,<-bX.o];exact K3 O a);obtain⟨x1,x2,x3⟩:=AZ.bu i1 (P+1) b1 x a3;obtain⟨y1,y2,y3⟩:=AZ.bu i1 P b2 y aQ;obtain⟨aW,wv,aH,aL⟩:=QS i1 (P+1) P b1 b2 (Nat.ne_of_gt (UZ P)) x y aQ;obtain⟨aO,aS,aN⟩:=wv;have fz:∀o,wr.frozen? (Ad g o)=false:=λo=>Ga i1 rfl o;have aK:=a6.o _ i1;rw[aK]at b1 b2;have PI:(P:Int)<(n:Int):=EW.2 b2;have P1I:(P:Int)+1<(n:Int):=EW.2 b1;have P0:=Cd P;have P10:(0:Int)<=(P:Int)+1:=Gn (P+1);have tP:(P:Int).toNat=P:=EA P;have tP1:((P:Int)+1).toNat=P+1:=EA (P+1);have bG:wrap64 ((P:Int)+1-1)=(P:Int):=z1;have bJ:IntKind.i64.wrap ((P:Int)+1-1)=(P:Int):=z2;(have z3':wrap64 (P:Int)=(P:Int):=by rwa [Jg]at bG);(have z4':IntKind.i64.wrap (P:Int)=(P:Int):=by rwa [Jg]at bJ);rw[f3]at aH;have W:=A4 (And.intro aH (aL w i2));have b3:=A4 (And.intro O (And.intro hP aG));obtain⟨xa,xb,xc⟩:=x;obtain⟨ya,yb,yc⟩:=y;unfold GZ at aW aO aS aN W;dsimp only at x1 x2 x3 y1 y2 y3 aW aO aS aN W;rw[a5];clear hI i1 i2 f1 f2 f3 b1 a3 b2 aQ aH aL O hP a5 aK z1 z2 aG aP bL bC bA bO bB bE bH;go_wp2;refine Ls 15 (λw'=>Aa w' g (P*3) (A0 ya)/\Aa w' g (P*3+1) (A0 yb)/\Aa w' g (P*3+2) (A0 yc)/\Aa w' g ((P+1)*3) (A0 xa)/\Aa w' g ((P+1)*3+1) (A0 xb)/\Aa w' g ((P+1)*3+2) (A0 xc)) 16
      [(0,1),(1,1),(5,1),(6,1),(7,1),(8,1),(9,1),(10,2),(11,2),(12,2),(13,1),(14,1),(2,2),(3,2),(4,2),(15,0)] ⟨y1,y2,y3,x1,x2,x3⟩ ?_
     iterate 7 refine I0 ?_
     iterate 3 refine I1 ?_
     iterate 2 refine I0 ?_
     iterate 3 refine I1 ?_
     refine Lu λK hK=>?_;go_simp;refine hK _ _ ?_;clear hK K;refine Lt ?_;clear x1 x2 x3 y1 y2 y3 fz;generalize (((wr.setCell (Ad g ((P+1)*3)) (A0 ya)).setCell (Ad g ((P+1)*3+1)) (A0 yb)).setCell (Ad g ((P+1)*3+2)) (A0 yc)).drew=w7 at aW aO aS aN W ⊢;go_wp2;go_roundw
     ·obtain⟨k1,k2,k3⟩:=b3.o;exact⟨q,by rw[k2],A2K k1,Nat.le_of_succ_le k3,W.o⟩
     ·exact Zb P
    ·obtain rfl:s=q:=K1 aP (Iu O);have a0:¬((S:Int)<(S:Int)):=Lo _;rw[bX.o];have W:=A4 (And.intro i1 i2);have bN:=aT.o;have b6:Hid ((U.take s++x::U.drop s).length=U.length+1):=T6 U x s (by rw[aT.o];exact aG);clear hI i1 i2 O aP bL bC bA bB bE bH bN;go_wp2;refine Mx (QZ rfl _ _ _) rfl ?_;exact⟨rfl,U.take s++x::U.drop s,by simpa using W.o.1,by rw[<-aT.o];exact b6.o,bO.o.1,bO.o.2,W.o.2⟩
end
end
section
open Go.RowKit
def Z8{lt:Bs}{a b:Int}(z:0<=a/\a<=9223372036854775807)(I:0<=b/\b<=9223372036854775807)(h:E0 lt a=E0 lt b):a=b:=by
 have H:=Mz z.1 z.2 (19-(Lib.itoa a).length);have O:=Mz I.1 I.2 (19-(Lib.itoa b).length);rw[<-Lz lt a,h,Lz lt b,O]at H;cases H;rfl
def Jz{n:Int}(h:0<=n/\n<=9223372036854775807):Cv n:=by
 refine⟨h.1,h.2,?_⟩;rw[KJ h.1,Pv];exact O2 19 _ (by omega) (by omega)
def Sj{a b:Int}(z:0<=a/\a<=9223372036854775807)(H:0<=b/\b<=9223372036854775807)(h:Aw a=Aw b):a=b:=Z8 (lt:=CO 2) z H (by simpa[Aw,BJ] using h)
def SE{lt:Bs}{n:Int}(h:4611686018427387904<n/\n<=9223372036854775807):Du lt (E0 lt n)=none:=by
 unfold Du;rw[Lz,Mz (by omega) (by omega)];dsimp only
 rw[Ae (by omega)]
def Z5{n:Int}(h:4611686018427387904<n/\n<=9223372036854775807):(Bc (Af n)).1=0:=by
 have e:Du [108] (Af n)=none:=by
  have:=SE (lt:=CO 1) h;simpa[Af,BJ,CO] using this
 have z:Du [115] (Af n)=none:=by rw[HG];exact IN (by decide)
 unfold Bc Gy Gx Hg;rw[e,z];dsimp only
 rw[Ae (H0 n),Ae (IU n)]
def Z4{n:Int}(h:4611686018427387904<n/\n<=9223372036854775807):(Bc (Aw n)).1=0:=by
 have e:Du [115] (Aw n)=none:=by
  have:=SE (lt:=CO 2) h;simpa[Aw,BJ,CO] using this
 have z:Du [108] (Aw n)=none:=by rw[Hf];exact IN (by decide)
 unfold Bc Gy Gx Hg;rw[z,e];dsimp only
 rw[Ae (IF n),Ae (IG n)]
def Y7(s:Nat)(a:Int)(l:Bs):(Ew s a l).2=0\/(Ew s a l).2=7:=by
 unfold Ew;split
 ·exact .inl rfl
 ·split
  ·split
   ·exact .inl rfl
   ·exact .inr rfl
  ·exact .inr rfl
section
variable{P P':PD}{A:Ar}{ps pl:List Pu}{sg:List (Int×List Pu)}{N R:Nat}
def Ry:∀(l:List Int) (z:List Pu),(∀n∈l,P.bs (Af n)≠none)->(P.aU l z).2=0\/(P.aU l z).2=7
 | [],_,_=>.inl rfl
 | n::r,z,h=>by
  unfold PD.aU;cases hb:P.bs (Af n) with
  | none=>exact absurd hb (h n (Bp ..))
  | some c=>
   rw[IT hb];split
   ·exact(Y7 ..).imp (λh=>h) λh=>h
   ·exact Ry r _ λm H=>h m (Bn _ H)
def JF{first n:Int}(h:n∈Bv first P.Av):isNum n=true/\first<=n/\P.bs (Af n)≠none:=by
 unfold Bv at h;obtain⟨nm,O,z⟩:=HQ.1 h;split at z
 ·rename_i I;simp at z;subst z;have H:=LU I.1;refine⟨by unfold isNum;simp;exact H.1,I.2,?_⟩;rw[H.2];exact EF.1 O
 ·cases z
def Xg{n:Int}(h:n∈Em P.Av):isNum n=true:=by
 unfold Em at h;obtain⟨nm,hm,z⟩:=HQ.1 h;split at z
 ·rename_i I;simp at z;subst z;have H:=LR I;unfold isNum;simp;exact H.1
 ·cases z
def YK{n:Int}(h:Ar.aR P=.error n):n=7:=by
 cases hi:P.CV with
 | none=>rw[NR hi]at h;cases h;rfl
 | some ix=>
  cases hb:P.Av.any (λnm=>decide ((Bc nm).1=0)) with
  | true=>rw[NT hi hb]at h;cases h;rfl
  | false=>
   cases hs:P.segs ix.segs with
   | none=>rw[NO hi hb hs]at h;cases h;rfl
   | some sg=>
    by_cases z:(P.puts (Bv ix.AW P.Av)).2=0
    ·rw[NQ hi hb hs z]at h;cases h
    ·rw[NP hi hb hs z]at h;cases h;exact(Ry _ [] λm H=>(JF H).2.2).resolve_left z
structure Ec (P:PD) (A:Ar) (sg:List (Int×List Pu)) (pl:List Pu):Prop where
 CV:P.CV=some A.ix
 DZ:∀nm,P.bs nm≠none->(Bc nm).1≠0
 segs:P.segs A.ix.segs=some sg
 puts:P.puts A.j.Al=(pl,0)
 AP:A.j.AP=none
 Oc:A.j.puts=(pl.length:Int)
 Al:A.j.Al=Bv A.ix.AW P.Av
 Eh:A.j.A8=A.j.Al.getLastD (A.ix.AW-1)
 DY:A.A8=(Em P.Av).getLastD 0
 AM:∀nm∈A.AM,P.bs nm≠none
 OA:A.AM.length<=P.Av.length
def Sa(h:Ar.aR P=.ok (A,ps)):∃sg pl,Ec P A sg pl/\ps=sg.flatMap (·.2)++pl:=by
 cases hi:P.CV with
 | none=>rw[NR hi]at h;cases h
 | some ix=>
  cases hb:P.Av.any (λnm=>decide ((Bc nm).1=0)) with
  | true=>rw[NT hi hb]at h;cases h
  | false=>
   cases hs:P.segs ix.segs with
   | none=>rw[NO hi hb hs]at h;cases h
   | some sg=>
    by_cases z:(P.puts (Bv ix.AW P.Av)).2=0
    ·rw[NQ hi hb hs z]at h;simp only[Except.ok.injEq,Prod.mk.injEq]at h;obtain⟨rfl,rfl⟩:=h;refine⟨sg,_,⟨hi,λnm H=>?_,hs,Prod.ext rfl z,rfl,rfl,rfl,rfl,rfl,λnm H=>EF.1 (GF.1 H).1,MR _ _⟩,rfl⟩;have:=List.any_eq_false.1 hb nm (EF.2 H);simpa using this
    ·rw[NP hi hb hs z]at h;cases h
def TE{l:List Int}{d:Int}:l.getLastD d=d\/l.getLastD d∈l:=by
 by_cases h:l=[]
 ·subst h;exact .inl rfl
 ·obtain⟨m,x,rfl⟩:∃m x,l=m++[x]:=⟨l.dropLast,l.getLast h,(Ln h).symm⟩;exact .inr (by simp)
def Ec.bk(h:Ec P A sg pl):(1<=A.ix.AW/\A.ix.AW<=4611686018427387904)/\(A.ix.AW-1<=A.j.A8/\A.j.A8<=4611686018427387904)/\(0<=A.A8/\A.A8<=4611686018427387904)/\(∀n∈A.ix.segs,1<=n/\n<=4611686018427387904)/\∀n∈A.j.Al,1<=n/\n<=4611686018427387904:=by
 have⟨h1,h2⟩:=KP h.CV;have z:∀n∈A.j.Al,1<=n/\n<=4611686018427387904:=λn H=>Mb (JF (first:=A.ix.AW) (by rw[<-h.Al];exact H)).1;refine⟨h1,?_,?_,h2,z⟩
 ·rw[h.Eh];rcases TE (l:=A.j.Al) (d:=A.ix.AW-1) with e|e
  ·rw[e];omega
  ·have h4:=z _ e;have h5:A.ix.AW<=A.j.Al.getLastD (A.ix.AW-1):=(JF (P:=P) (first:=A.ix.AW) (by rw[<-h.Al];exact e)).2.1;omega
 ·rw[h.DY];rcases TE (l:=Em P.Av) (d:=0) with e|e
  ·rw[e];omega
  ·have:=Mb (Xg e);omega
def Ec.dU(h:Ec P A sg pl)(W:Cm P N R){n:Int}(X:A.j.A8<n/\n<=9223372036854775807):P.bs (Af n)=none:=by
 have hN:=h.bk;cases hb:P.bs (Af n) with
 | none=>rfl
 | some c=>
  exfalso;have z:P.bs (Af n)≠none:=by rw[hb];simp
  by_cases I:4611686018427387904<n
  ·exact h.DZ _ z (Z5 ⟨I,X.2⟩)
  ·(have H:isNum n=true:=by unfold isNum;simp;omega);have O:n∈A.j.Al:=by
    rw[h.Al];unfold Bv;refine HQ.2 ⟨Af n,EF.2 z,?_⟩;rw[JE H];dsimp only
    rw[Ah ⟨rfl,by omega⟩]
   have:=Kv (l:=A.j.Al) (by rw[h.Al];exact O5 _ W.up) O (A.ix.AW-1);rw[<-h.Eh]at this;omega
def Ec.eJ(h:Ec P A sg pl)(W:Cm P N R){n:Int}(X:A.A8<n/\n<=9223372036854775807):P.bs (Aw n)=none:=by
 have hN:=h.bk;cases hb:P.bs (Aw n) with
 | none=>rfl
 | some c=>
  exfalso;have z:P.bs (Aw n)≠none:=by rw[hb];simp
  by_cases I:4611686018427387904<n
  ·exact h.DZ _ z (Z4 ⟨I,X.2⟩)
  ·(have H:isNum n=true:=by unfold isNum;simp;omega);have O:n∈Em P.Av:=by
    unfold Em;refine HQ.2 ⟨Aw n,EF.2 z,?_⟩;rw[LS H];dsimp only
    rw[Ah rfl]
   have:=Kv (QL W.up) O 0;have e:=h.DY;unfold Em at e;omega
end
end
end Go.Proofs.YtodcnkbblippnabGreatDoor
