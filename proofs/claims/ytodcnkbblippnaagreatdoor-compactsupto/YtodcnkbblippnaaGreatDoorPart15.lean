/- Part 15 of a proof: walks of the program. -/
import Derived.Test.YtodcnkbblippnaaGreatDoorCards
import Derived.Test.YtodcnkbblippnaaGreatDoorTie
import Derived.ProofKit
import Derived.OpenShut
import Derived.Carry
import Derived.Deep.DeepHandedRow
import Derived.Deep.DeepWitnessRowRef
import Derived.Deep.Slices
import Derived.Lib.LaidTab
import Derived.Stop.LaidErr
import Derived.Test.YtodcnkbblippnaaGreatDoorPart14
namespace Go.Proofs.YtodcnkbblippnaaGreatDoor
set_option maxRecDepth 100000
set_option maxHeartbeats 32000000
set_option linter.defProp false
open Go.Proofs.Tryz
section
open Go.RowKit
attribute [local go_sem ↓] CL
def TF{m s r L n:Nat}(hn:n<=4294967296)(h:s<r)(hr:r<=L)(hm:m+L<=n):
 wrap64 (((m+s:Nat):Int)+((m+r:Nat):Int))=((m+s+(m+r):Nat):Int)/\IntKind.u64.wrap ((m+s+(m+r):Nat):Int)=((m+s+(m+r):Nat):Int)/\wrap64 (((m+s+(m+r):Nat):Int)/2)=((m+(s+r)/2:Nat):Int)/\
 (s+r)/2<r/\s<=(s+r)/2/\m+(s+r)/2<n/\wrap64 (((m+(s+r)/2:Nat):Int)+1)=((m+((s+r)/2+1):Nat):Int):=by
 refine⟨by unfold wrap64;omega,?_,by unfold wrap64;omega,by omega,by omega,by omega,by unfold wrap64;omega⟩;simp[IntKind.wrap,IntKind.bits,IntKind.signed];omega
def ZZ{a s n q:Nat}(hn:n<=4294967296)(h:a+1+s<=n)(hq:q<=s):
 wrap64 (((a+1+s:Nat):Int)-1)=((a+s:Nat):Int)/\IntKind.i64.wrap (((a+1+s:Nat):Int)-1)=((a+s:Nat):Int)/\wrap64 (((a+q:Nat):Int)+1)=((a+(q+1):Nat):Int)/\IntKind.i64.wrap (((a+q:Nat):Int)+1)=((a+(q+1):Nat):Int):=by
 refine⟨by unfold wrap64;omega,?_,by unfold wrap64;omega,?_⟩
 ·simp[IntKind.wrap,IntKind.bits,IntKind.signed];omega
 ·simp[IntKind.wrap,IntKind.bits,IntKind.signed];omega
def Ht(w:gx)(g k:Nat)(p:Pu):World:=((w.setCell ⟨g,k*3,none⟩ (.int .i64 p.1)).setCell ⟨g,k*3+1,none⟩ (.int .i64 p.2.1)).setCell ⟨g,k*3+2,none⟩ (.int .i64 p.2.2)
def SJ{w d:gx}{g:Nat}(h:A4 (One g) d w)(k:Nat)(p:Pu):A4 (One g) d (Ht w g k p):=((h.ao (b:=g) rfl _ _).ao (b:=g) rfl _ _).ao (b:=g) rfl _ _
def RN{w:gx}{g n cap:Nat}{l:gD Pu}(h:w.ownsRow 0 113 3 (.slice (some ⟨g,0,none⟩) n cap) n (B5 l))(i j:Nat)(W:i<l.length)(I:j<l.length)(d:i≠j)(x y:Pu)(O:l[j]'I=y):
 (∀o,(Ht w g i y).drew.frozen? ⟨g,o,none⟩=false)/\((Ht w g i y).drew.cell? ⟨g,j*3,none⟩=some (.int .i64 y.1)/\(Ht w g i y).drew.cell? ⟨g,j*3+1,none⟩=some (.int .i64 y.2.1)/\(Ht w g i y).drew.cell? ⟨g,j*3+2,none⟩=some (.int .i64 y.2.2))/\
 (Ht (Ht w g i y).drew g j x).ownsRow 0 113 3 (.slice (some ⟨g,0,none⟩) n cap) n (B5 ((l.set i y).set j x))/\∀E,A4 (One g) E w->A4 (One g) E (Ht (Ht w g i y).drew g j x):=by
 have z:=Au (B1.bx h i W y) λ_ _=>rfl;refine⟨λo=>EK z rfl o,B1.bD z j (by rw[HK];exact I) y ?_,B1.bx z j (by rw[HK];exact I) x,λE L=>SJ (SJ L i y).aa j x⟩;rw[A4F d];exact O
def TT{α:Type}(V:gD α)(x:α)(q:Nat)(h:q<=V.length):(V.take q++x::V.drop q).length=V.length+1:=by simp;omega
def A0r{a s q P:Nat}(h:q<s)(e:a+q=P):a+s-(intOf (A0 ((P:Int)+1))).toNat<a+s-(intOf (A0 (P:Int))).toNat:=by simp[intOf];omega
def OX{I J Q:Nat}(h1:I<=Q)(h2:Q<J):(intOf (A0 (J:Int))).toNat-(intOf (A0 ((Q:Int)+1))).toNat<(intOf (A0 (J:Int))).toNat-(intOf (A0 (I:Int))).toNat:=by simp[intOf];omega
def OY{I J Q:Nat}(h1:I<=Q)(h2:Q<J):(intOf (A0 (Q:Int))).toNat-(intOf (A0 (I:Int))).toNat<(intOf (A0 (J:Int))).toNat-(intOf (A0 (I:Int))).toNat:=by simp[intOf];omega
def A1Q{α:Type}{A V Z:gD α}{x:α}{q:Nat}(d:q<V.length):∃y,(A++(V.take q++x::V.drop q)++Z)[A.length+q]?=some x/\(A++(V.take q++x::V.drop q)++Z)[A.length+q+1]?=some y/\
 ((A++(V.take q++x::V.drop q)++Z).set (A.length+q) y).set (A.length+q+1) x=A++(V.take (q+1)++x::V.drop (q+1))++Z:=by
 have z:(A++V.take q).length=A.length+q:=by simp;omega
 have I:(A++V.take q++[V[q]'d]).length=A.length+q+1:=by simp;omega
 have h:A++(V.take q++x::V.drop q)++Z=(A++V.take q)++x::(V[q]'d::(V.drop (q+1)++Z)):=by rw[FK d];simp only[Ci,G2]
 have L:A++(V.take (q+1)++x::V.drop (q+1))++Z=(A++V.take q++[V[q]'d])++x::(V.drop (q+1)++Z):=by rw[Dq d];simp
 have E:∀u,(A++V.take q)++u::(V[q]'d::(V.drop (q+1)++Z))=(A++V.take q++[u])++V[q]'d::(V.drop (q+1)++Z):=λu=>by simp
 refine⟨V[q]'d,?_,?_,?_⟩
 ·rw[h,<-z];simp
 ·rw[h,E,I7 (by simp;omega)];have:A.length+q+1-(A++V.take q++[x]).length=0:=by simp;omega
  rw[this];rfl
 ·rw[h,L,<-z,K5,E,z,<-I,K5]
def A3C{α:Type}{A U Z:gD α}{y:α}{q:Nat}(d:q<U.length):∃u,(A++(U.take (q+1)++y::U.drop (q+1))++Z)[A.length+q+1]?=some y/\(A++(U.take (q+1)++y::U.drop (q+1))++Z)[A.length+q]?=some u/\
 ((A++(U.take (q+1)++y::U.drop (q+1))++Z).set (A.length+q+1) u).set (A.length+q) y=A++(U.take q++y::U.drop q)++Z:=by
 have E:(A++U.take q).length=A.length+q:=by simp;omega
 have I:∀u:α,(A++U.take q++[u]).length=A.length+q+1:=λu=>by simp;omega
 have h:A++(U.take (q+1)++y::U.drop (q+1))++Z=(A++U.take q++[U[q]'d])++y::(U.drop (q+1)++Z):=by rw[Dq d];simp
 have L:A++(U.take q++y::U.drop q)++Z=(A++U.take q)++y::(U[q]'d::(U.drop (q+1)++Z)):=by rw[FK d];simp only[Ci,G2]
 have z:∀u v:α,(A++U.take q++[u])++v::(U.drop (q+1)++Z)=(A++U.take q)++u::(v::(U.drop (q+1)++Z)):=λu v=>by simp
 refine⟨U[q]'d,?_,?_,?_⟩
 ·rw[h,<-I (U[q]'d)];simp
 ·rw[h,z,<-E];simp
 ·rw[h,L,<-I (U[q]'d),K5,z,<-E,K5]
section
variable{w w':gx}{g cap n:Nat}
def Xt(w:gx)(g cap n wb:Nat)(len:Int)(A V Z:gD Pu)(x:Pu)(_hv:V≠[])(hn:n=(A++x::(V++Z)).length)(h:w.ownsRow 0 113 3 (AA g n cap) n (B5 (A++x::(V++Z))))(hT:∀p∈x::V,Ay p.2.1)(hA:B6 (AE len) V)(hl:1<=len/\len<=4611686018427387904)(hw:A8 w wb 0 (A0 len))(a2:wb≠g)(aH:n<=4294967296):
 Ag 244 #[AA g n cap,A0 A.length,A0 ((A.length+1:Nat):Int),A0 ((A.length+1+V.length:Nat):Int),.func (Fn.func 155) #[] #[A5 wb]] w (Aj (.tuple #[]) λw'=>
  ∃M,w'.ownsRow 0 113 3 (AA g n cap) n (B5 (A++M++Z))/\M.length=V.length+1/\B6 (AE len) M/\Bt (AE len) (x::V) M/\A4 (One g) w w'):=by
 have b0:=Ga len;obtain⟨a,ha⟩:∃a,A.length=a:=⟨_,rfl⟩;obtain⟨m,hm⟩:∃m,a+1=m:=⟨_,rfl⟩;obtain⟨L,hL⟩:∃L,V.length=L:=⟨_,rfl⟩;obtain⟨b,hb⟩:∃b,m+L=b:=⟨_,rfl⟩;have aV:b<=n:=by rw[hn];simp;omega
 have bI:a<n:=by omega
 have aR:Hid (∀s r,s<r->r<=L->_):=λs r h hr=>TF (m:=m) aH h hr (hb ▸ aV);have bO:Hid (∀d,A4 Aa w d->∀q (O:q<V.length),A8 d g ((m+q)*3) (A0 (V[q]'O).1)/\A8 d g ((m+q)*3+1) (A0 (V[q]'O).2.1)/\A8 d g ((m+q)*3+2) (A0 (V[q]'O).2.2)):=λd hx q O=>by
  have e:(A++x::(V++Z))[m+q]'(by rw[<-hn];omega)=V[q]'O:=by
   rw[Gd (by omega)];(have:m+q-A.length=q+1:=by omega);simp only[this,NC];exact Fs O
  have⟨y1,y2,y3⟩:=B1.bD h (m+q) (by rw[<-hn];omega) _ e;exact⟨hx.ah y1,hx.ah y2,hx.ah y3⟩
 have bV:Hid (∀d,A4 Aa w d->A8 d g (a*3) (A0 x.1)/\A8 d g (a*3+1) (A0 x.2.1)/\A8 d g (a*3+2) (A0 x.2.2)):=λd hx=>by
  have e:(A++x::(V++Z))[a]'(by rw[<-hn];omega)=x:=by
   rw[Gd (by omega)];simp[ha]
  have⟨y1,y2,y3⟩:=B1.bD h a (by rw[<-hn];omega) _ e;exact⟨hx.ah y1,hx.ah y2,hx.ah y3⟩
 have e1:wrap64 ((m:Int)-(a:Int))=1:=by unfold wrap64;omega
 have e2:IntKind.i64.wrap ((m:Int)-(a:Int))=1:=by rw[show (m:Int)-(a:Int)=1 by omega];rfl
 have a0:=BJ a;have aI:(a:Int)<(n:Int):=by omega
 have aX:n<=cap/\cap<=9223372036854775807:=by
  have⟨a',c',e,h1,h2,_⟩:=B8 h;cases e;unfold maxLen at h2;omega
 obtain⟨hc1,hc2⟩:=aX;have bH:=A1 hT;have b3:=A1 hw;have bP:=A1 hl;have HWB:=A1 a2;have bD:=A1 h;have bS:=A1 ha;have a7:Hid (∀ {d:gx} (l:gD Pu),d.ownsRow 0 113 3 (AA g n cap) n (B5 l)->l.length=n):=λl hl=>by
  have:=hl.1;rw[SL]at this;omega
 have a8:Hid (n<=4294967296/\m+L<=n):=⟨aH,by rw[hb];exact aV⟩;have bJ:=A1 hA;have bW:=A1 hm;have bG:=A1 hL;have HB:=A1 hb;rw[ha,hm,hL,hb];have aQ:=hb.symm;clear h hT hw hl a2 hA hm hL aV bI aH hn ha _hv hb
 go_enter func244,ntmps244
 go_wp2;rename_i kA kB qA aZ;clear kB;go_loopw [10,11] (λiv jv wr=>∃(s r:Nat),iv=A0 ((m+s:Nat):Int)/\jv=A0 ((m+r:Nat):Int)/\Hid (s<=r/\r<=L/\A4 Aa w wr/\(∀y,(V.take s).getLast?=some y->AE len y x=true)/\(∀y,(V.drop r).head?=some y->AE len y x=false))) (λiv jv _=>(intOf jv).toNat-(intOf iv).toNat)
 ·exact⟨0,L,by go_num,by rw[aQ],Ch _,Ao _,A4.C _ _,(λy hy=>by simp at hy),(λy hy=>by rw[<-bG.o,GX]at hy;cases hy)⟩
 ·obtain⟨s,r,rfl,rfl,hI⟩:=hrel;have⟨i1,i2,i3,i4,i5⟩:=hI.o;by_cases aD:s<r
  ·have⟨n1,n2,n3,n4,n5,n6,n7⟩:=aR.o s r aD i2;have bL:=Fv.2 (KE aD m);obtain⟨q,O⟩:∃q,(s+r)/2=q:=⟨_,rfl⟩;rw[O]at n3 n4 n5 n6 n7;(have Y:q<V.length:=by rw[bG.o];exact Bn n4 i2);obtain⟨y,hy⟩:∃y,V[q]'Y=y:=⟨_,rfl⟩;have a3:Hid (∀d,A4 Aa wr d->(A8 d g ((m+q)*3) (A0 y.1)/\A8 d g ((m+q)*3+1) (A0 y.2.1)/\A8 d g ((m+q)*3+2) (A0 y.2.2))/\A8 d g (a*3) (A0 x.1)/\A8 d g (a*3+1) (A0 x.2.1)/\A8 d g (a*3+2) (A0 x.2.2)):=λd hx=>by
    have a4:=i3.tr hx;have:=bO.o d a4 q Y;rw[hy]at this;exact⟨this,bV.o d a4⟩
   have aY:=bH.o y (BC _ (hy ▸ BV Y));have a9:=A1 (λd bQ=>N9 d wb len y x aY (bH.o x (BI ..)) bP.o bQ);have aL:=N8 (len:=len) (p:=y) (q:=x);obtain⟨cc,bA⟩:∃cc,Hh len y x=cc:=⟨_,rfl⟩;rw[bA]at a9 aL;have aN:=i3.ah b3.o;have b4:Hid (cc<0->∀z,(V.take (q+1)).getLast?=some z->AE len z x=true):=λhc z hz=>by
    rw[MQ Y,hy]at hz;cases hz;exact aL.1 hc
   have bU:Hid (¬cc<0->∀z,(V.drop q).head?=some z->AE len z x=false):=λhc z hz=>by
    rw[head_drop Y,hy]at hz;cases hz;cases hk:AE len y x with
    | false=>rfl
    | true=>exact absurd (aL.2 hk) hc
   obtain⟨Q,hQ⟩:∃Q,m+q=Q:=⟨_,rfl⟩;rw[hQ]at n3 n6 n7 a3;have QI:=Fv.2 n6;have Q0:=BJ Q;have tQ:=ES Q;have tA:=ES a;obtain⟨xa,xb,xc⟩:=x;obtain⟨ya,yb,yc⟩:=y;unfold DK at a9;dsimp only at a9 a3;have bE:=a3.o wr.drew (A4.C _ wr).aa;have aJ:=A1 (a9.o wr.drew aN);obtain⟨I,X⟩:∃I,m+s=I:=⟨_,rfl⟩;obtain⟨J,aA⟩:∃J,m+r=J:=⟨_,rfl⟩;obtain⟨bY,aB⟩:∃bY,I+J=bY:=⟨_,rfl⟩;rw[X,aA,aB]at n1 n2;obtain⟨bZ,aU⟩:∃bZ,m+(q+1)=bZ:=⟨_,rfl⟩;rw[aU]at n7;rw[X,aA,aB]at n3;rw[X,aA]at bL;have E:=A1 (And.intro i1 (And.intro i2 (And.intro i3 (And.intro i4 (And.intro i5 (And.intro n4 (And.intro n5 (And.intro hQ (And.intro aU (And.intro X aA))))))))));rw[X,aA];clear hI i1 i2 i3 i4 i5 n4 n5 n6 O hy aY bA a9 aN Y aD aR bO bV hQ aU X aA aB aQ aL;by_cases aW:cc<0
   ·go_wp2;clear n1 n2 n3;refine Br (λw'=>(A8 w' g (Q*3) (A0 ya)/\A8 w' g (Q*3+1) (A0 yb)/\A8 w' g (Q*3+2) (A0 yc))/\A8 w' g (a*3) (A0 xa)/\A8 w' g (a*3+1) (A0 xb)/\A8 w' g (a*3+2) (A0 xc)) 10
     (Ba [0,1,2,3,4,5,6,7,8,9] [9]) bE ?_
    iterate 9 refine B4 ?_
    refine Bf λK hK=>?_;go_simp;refine aJ.k ?_;rintro w6 aF;have k6:=((A4.C Aa wr).aa).tr aF;refine hK _ _ (a3.o w6 k6) (λhS=>?_);have bR:=A1 k6;clear hK K hS aF k6 bE aJ;refine Bo ?_;clear aZ;go_wp2;go_roundw
    ·have⟨f1,f2,f3,f4,f5,f6,f7,f8,f9,f10,f11⟩:=E.o;exact⟨q+1,r,by rw[<-f8];rfl,by rw[f11],f6,f2,f3.tr bR.o,b4.o aW,f5⟩
    ·have⟨f1,f2,f3,f4,f5,f6,f7,f8,f9,f10,f11⟩:=E.o;exact OX (by rw[<-f10,<-f8];exact LV f7 m) (by rw[<-f11,<-f8];exact KE f6 m)
   ·go_wp2;clear n1 n2 n3;refine Br (λw'=>(A8 w' g (Q*3) (A0 ya)/\A8 w' g (Q*3+1) (A0 yb)/\A8 w' g (Q*3+2) (A0 yc))/\A8 w' g (a*3) (A0 xa)/\A8 w' g (a*3+1) (A0 xb)/\A8 w' g (a*3+2) (A0 xc)) 10
     (Ba [0,1,2,3,4,5,6,7,8,9] [9]) bE ?_
    iterate 9 refine B4 ?_
    refine Bf λK hK=>?_;go_simp;refine aJ.k ?_;rintro w6 aF;have k6:A4 Aa wr w6:=((A4.C Aa wr).aa).tr aF;refine hK _ _ (a3.o w6 k6) (λhS=>?_);have bR:=A1 k6;clear hK K hS aF k6 bE aJ;refine Bo ?_;clear aZ;go_wp2;go_roundw
    ·have⟨f1,f2,f3,f4,f5,f6,f7,f8,f9,f10,f11⟩:=E.o;exact⟨s,q,by rw[f10],by rw[f8],f7,Fm (Bn f6 f2),f3.tr bR.o,f4,bU.o aW⟩
    ·have⟨f1,f2,f3,f4,f5,f6,f7,f8,f9,f10,f11⟩:=E.o;exact OY (by rw[<-f10,<-f8];exact LV f7 m) (by rw[<-f11,<-f8];exact KE f6 m)
  ·obtain rfl:s=r:=LU i1 (J6 aD);have a1:¬(((m+s:Nat):Int)<((m+s:Nat):Int)):=NN _;have bN:=A1 (b0.fe bJ.o s i4 i5);have bF:Hid (wr.ownsRow 0 113 3 (AA g n cap) n (B5 (A++(V.take 0++x::V.drop 0)++Z))):=by
    have:=Au bD.o λg' hg=>i3.Al g' (Aw bD.o hg) (λh=>h);unfold Hid;simpa using this
   have bC:Hid (A4 (One g) w wr):=i3.aT;(have a5:s<=V.length:=by rw[bG.o];exact i2);have bK:Hid (∀q,q<=s->_):=λq O=>ZZ (a:=a) (q:=q) a8.o.1 (AP (by rw[bW.o];exact LV i2 m) a8.o.2) O;have bB:=A1 a5;obtain⟨ms,aT⟩:∃ms,m+s=ms:=⟨_,rfl⟩;(have bT:Hid (ms=a+1+s):=by unfold Hid;rw[<-aT,<-bW.o]);rw[aT]at a1 ⊢;clear hI i1 i2 i3 i4 i5 aR bO bV aQ e1 e2 aT aD a5;generalize wr=w3 at bF bC ⊢;go_wp2;go_loopw [13] (λkv wr=>∃q:Nat,kv=A0 ((a+q:Nat):Int)/\q<=s/\Hid (wr.ownsRow 0 113 3 (AA g n cap) n (B5 (A++(V.take q++x::V.drop q)++Z))/\A4 (One g) w wr)) (λkv _=>a+s-(intOf kv).toNat)
   ·exact⟨0,by go_num,Ch _,bF.o,bC.o⟩
   ·obtain⟨q,rfl,aK,hI⟩:=hrel;have⟨i1,i2⟩:=hI.o;have⟨z1,z2,z3,z4⟩:=bK.o q aK;rw[<-bT.o]at z1 z2;obtain⟨S,aE⟩:∃S,a+s=S:=⟨_,rfl⟩;rw[aE]at z1 z2;by_cases O:q<s
    ·have⟨y,f1,f2,f3⟩:=A1Q (A:=A) (Z:=Z) (x:=x) (Bn O bB.o);rw[bS.o]at f1 f2 f3;obtain⟨P,hP⟩:∃P,a+q=P:=⟨_,rfl⟩;(have a6:a+(q+1)=P+1:=by rw[<-LX,hP]);rw[hP]at f1 f2 f3;rw[hP,a6]at z3 z4;have⟨b1,b1'⟩:=I6.1 f1;have⟨b2,b2'⟩:=I6.1 f2;have hlt:((P:Nat):Int)<(S:Int):=Fv.2 (by rw[<-hP,<-aE];exact KE O a);have⟨x1,x2,x3⟩:=B1.bD i1 P b1 x b1';have⟨y1,y2,y3⟩:=B1.bD i1 (P+1) b2 y b2';have⟨fz7,wv,aG,hchg⟩:=RN i1 P (P+1) b1 b2 (Nat.ne_of_lt (VP P)) x y b2';obtain⟨aP,aS,aO⟩:=wv;have fz:∀o,wr.frozen? (A9 g o)=false:=λo=>EK i1 rfl o;have aM:=a7.o _ i1;rw[aM]at b1 b2;have PI:(P:Int)<(n:Int):=Fv.2 b1;have P1I:(P:Int)+1<(n:Int):=Fv.2 b2;have P0:=BJ P;have P10:(0:Int)<=(P:Int)+1:=Gu (P+1);have tP:(P:Int).toNat=P:=ES P;have tP1:((P:Int)+1).toNat=P+1:=ES (P+1);have z3':wrap64 ((P:Int)+1)=(P:Int)+1:=z3;have z4':IntKind.i64.wrap ((P:Int)+1)=(P:Int)+1:=z4;rw[f3]at aG;have W:=A1 (And.intro aG (hchg w i2));have bX:=A1 (And.intro O hP);obtain⟨xa,xb,xc⟩:=x;obtain⟨ya,yb,yc⟩:=y;unfold Ht at fz7 aP aS aO W;dsimp only at x1 x2 x3 y1 y2 y3 fz7 aP aS aO W;rw[hP];clear hI i1 i2 f1 f2 f3 b1 b1' b2 b2' aG hchg O hP a6 aM aE z3 z4 aK bK bF bC bN bD bH bJ;go_wp2;refine Mg 15 (λw'=>A8 w' g (P*3) (A0 xa)/\A8 w' g (P*3+1) (A0 xb)/\A8 w' g (P*3+2) (A0 xc)/\A8 w' g ((P+1)*3) (A0 ya)/\A8 w' g ((P+1)*3+1) (A0 yb)/\A8 w' g ((P+1)*3+2) (A0 yc)) 16
      [(0,1),(1,1),(5,1),(6,1),(7,1),(8,1),(9,1),(10,2),(11,2),(12,2),(13,1),(14,1),(2,2),(3,2),(4,2),(15,0)] ⟨x1,x2,x3,y1,y2,y3⟩ ?_
     iterate 7 refine IB ?_
     iterate 3 refine IC ?_
     iterate 2 refine IB ?_
     iterate 3 refine IC ?_
     refine Mi λK hK=>?_;go_simp;refine hK _ _ ?_;clear hK K;refine Mh ?_;clear x1 x2 x3 y1 y2 y3 fz;generalize (((wr.setCell (A9 g (P*3)) (A0 ya)).setCell (A9 g (P*3+1)) (A0 yb)).setCell (A9 g (P*3+2)) (A0 yc)).drew=w7 at fz7 aP aS aO W ⊢;go_wp2;go_roundw
     ·have⟨k1,k2⟩:=bX.o;exact⟨q+1,by rw[<-k2];rfl,k1,W.o⟩
     ·have⟨k1,k2⟩:=bX.o;exact A0r k1 k2
    ·obtain rfl:q=s:=LU aK (J6 O);have a1:¬((S:Int)<(S:Int)):=NN _;rw[aE];have W:=A1 (And.intro i1 i2);have bM:=bB.o;have b5:Hid ((V.take q++x::V.drop q).length=V.length+1):=TT V x q bM;clear hI i1 i2 O aE z3 z4 aK bK bF bC bD bH bJ;go_wp2;refine JK (Jk rfl _ _ _) rfl ?_;exact⟨rfl,V.take q++x::V.drop q,by simpa using W.o.1,by rw[<-bG.o];exact b5.o,bN.o.1,bN.o.2,W.o.2⟩
end
def A0q{a s r L n:Nat}(E:n<=4294967296)(h:s<r)(z:r<=L)(d:a+L<=n):
 wrap64 (((a+s:Nat):Int)+((a+r:Nat):Int))=((a+s+(a+r):Nat):Int)/\IntKind.u64.wrap ((a+s+(a+r):Nat):Int)=((a+s+(a+r):Nat):Int)/\wrap64 (((a+s+(a+r):Nat):Int)/2)=((a+(s+r)/2:Nat):Int)/\
 (s+r)/2<r/\s<=(s+r)/2/\a+(s+r)/2<n/\wrap64 (((a+(s+r)/2:Nat):Int)+1)=((a+((s+r)/2+1):Nat):Int):=TF E h z d
def A0s(P:Nat):(intOf (A0 (P:Int))).toNat<(intOf (A0 ((P:Int)+1))).toNat:=by simp[intOf]
def A0S{a s n q:Nat}(hn:n<=4294967296)(h:a+s<=n)(hq:q+1<=s):
 wrap64 (((a+q+1:Nat):Int)-1)=((a+q:Nat):Int)/\IntKind.i64.wrap (((a+q+1:Nat):Int)-1)=((a+q:Nat):Int):=by
 refine⟨by unfold wrap64;omega,?_⟩;simp[IntKind.wrap,IntKind.bits,IntKind.signed];omega
section
variable{w w':gx}{g cap n:Nat}
def Xv(w:gx)(g cap n wb:Nat)(len:Int)(A U Z:gD Pu)(x:Pu)(hu:2<=U.length)(hn:n=(A++(U++x::Z)).length)(h:w.ownsRow 0 113 3 (AA g n cap) n (B5 (A++(U++x::Z))))(hT:∀p∈x::U,Ay p.2.1)(hA:B6 (AE len) U)(hl:1<=len/\len<=4611686018427387904)(hw:A8 w wb 0 (A0 len))(_hwb:wb≠g)(aH:n<=4294967296):
 Ag 244 #[AA g n cap,A0 A.length,A0 ((A.length+U.length:Nat):Int),A0 ((A.length+U.length+1:Nat):Int),.func (Fn.func 155) #[] #[A5 wb]] w (Aj (.tuple #[]) λw'=>
  ∃M,w'.ownsRow 0 113 3 (AA g n cap) n (B5 (A++M++Z))/\M.length=U.length+1/\B6 (AE len) M/\Bt (AE len) (U++[x]) M/\A4 (One g) w w'):=by
 have b3:=Ga len;obtain⟨a,ha⟩:∃a,A.length=a:=⟨_,rfl⟩;obtain⟨L,hL⟩:∃L,U.length=L:=⟨_,rfl⟩;obtain⟨m,hm⟩:∃m,a+L=m:=⟨_,rfl⟩;have a0:m<n:=by rw[hn];simp;omega
 have aQ:Hid (∀s r,s<r->r<=L->_):=λs r h hr=>A0q (a:=a) aH h hr (by omega);have bO:Hid (∀d,A4 Aa w d->∀q (E:q<U.length),A8 d g ((a+q)*3) (A0 (U[q]'E).1)/\A8 d g ((a+q)*3+1) (A0 (U[q]'E).2.1)/\A8 d g ((a+q)*3+2) (A0 (U[q]'E).2.2)):=λd hx q E=>by
  have e:(A++(U++x::Z))[a+q]'(by rw[<-hn];omega)=U[q]'E:=by
   rw[Gd (by omega)];(have:a+q-A.length=q:=by omega);simp only[this];exact Fs E
  obtain⟨y1,y2,y3⟩:=B1.bD h (a+q) (by rw[<-hn];omega) _ e;exact⟨hx.ah y1,hx.ah y2,hx.ah y3⟩
 have bU:Hid (∀d,A4 Aa w d->A8 d g (m*3) (A0 x.1)/\A8 d g (m*3+1) (A0 x.2.1)/\A8 d g (m*3+2) (A0 x.2.2)):=λd hx=>by
  have e:(A++(U++x::Z))[m]'(by rw[<-hn];omega)=x:=by
   rw[Gd (by omega),Gd (by omega)];(have:m-A.length-U.length=0:=by omega);simp only[this,KM]
  obtain⟨y1,y2,y3⟩:=B1.bD h m (by rw[<-hn];omega) _ e;exact⟨hx.ah y1,hx.ah y2,hx.ah y3⟩
 have e1:wrap64 ((m:Int)-(a:Int))=(L:Int):=by unfold wrap64;omega
 have e2:IntKind.i64.wrap ((m:Int)-(a:Int))=(L:Int):=by simp[IntKind.wrap,IntKind.bits,IntKind.signed];omega
 have e3:((L:Int)=1)=False:=N1 (by omega);have e3':((L:Int)==1)=false:=by rw[HX];omega
 obtain⟨b,hb⟩:∃b,m+1=b:=⟨_,rfl⟩;have e4:wrap64 ((b:Int)-(m:Int))=1:=by unfold wrap64;omega
 have e5:IntKind.i64.wrap ((b:Int)-(m:Int))=1:=by rw[show (b:Int)-(m:Int)=1 by omega];rfl
 have m0:=BJ m;have mI:(m:Int)<(n:Int):=by omega
 have aX:n<=cap/\cap<=9223372036854775807:=by
  obtain⟨a',c',e,h1,h2,_⟩:=B8 h;cases e;unfold maxLen at h2;omega
 obtain⟨hc1,hc2⟩:=aX;have bD:=A1 hT;have b4:=A1 hw;have bP:=A1 hl;have bA:=A1 h;have bG:=A1 hA;have bE:=A1 hm;have aS:=A1 hL;have bS:=A1 ha;have a5:Hid (∀ {d:gx} (l:gD Pu),d.ownsRow 0 113 3 (AA g n cap) n (B5 l)->l.length=n):=λl hl=>by
  have:=hl.1;rw[SL]at this;omega
 have a6:Hid (n<=4294967296/\m<n):=⟨aH,a0⟩;rw[ha,hL,hm,hb];clear h hT hw hl _hwb hA hm a0 aH hn ha hu hL hb
 go_enter func244,ntmps244
 go_wp2;rename_i kA kB qA bJ;clear kB;go_loopw [14,15] (λiv jv wr=>∃(s r:Nat),iv=A0 ((a+s:Nat):Int)/\jv=A0 ((a+r:Nat):Int)/\Hid (s<=r/\r<=L/\A4 Aa w wr/\(∀y,(U.take s).getLast?=some y->AE len x y=false)/\(∀y,(U.drop r).head?=some y->AE len x y=true))) (λiv jv _=>(intOf jv).toNat-(intOf iv).toNat)
 ·exact⟨0,L,by go_num,by rw[bE.o],Ch _,Ao _,A4.C _ _,(λy hy=>by simp at hy),(λy hy=>by rw[<-aS.o,GX]at hy;cases hy)⟩
 ·obtain⟨s,r,rfl,rfl,hI⟩:=hrel;obtain⟨i1,i2,i3,i4,i5⟩:=hI.o;by_cases aE:s<r
  ·obtain⟨n1,n2,n3,n4,n5,n6,n7⟩:=aQ.o s r aE i2;have bL:((a+s:Nat):Int)<((a+r:Nat):Int):=Fv.2 (KE aE a);obtain⟨q,E⟩:∃q,(s+r)/2=q:=⟨_,rfl⟩;rw[E]at n3 n4 n5 n6 n7;(have Y:q<U.length:=by rw[aS.o];exact Bn n4 i2);obtain⟨y,hy⟩:∃y,U[q]'Y=y:=⟨_,rfl⟩;have bC:Hid (∀d,A4 Aa wr d->(A8 d g ((a+q)*3) (A0 y.1)/\A8 d g ((a+q)*3+1) (A0 y.2.1)/\A8 d g ((a+q)*3+2) (A0 y.2.2))/\A8 d g (m*3) (A0 x.1)/\A8 d g (m*3+1) (A0 x.2.1)/\A8 d g (m*3+2) (A0 x.2.2)):=λd hx=>by
    have a3:=i3.tr hx;have:=bO.o d a3 q Y;rw[hy]at this;exact⟨this,bU.o d a3⟩
   have aY:Ay y.2.1:=bD.o y (BC _ (hy ▸ BV Y));have a7:=A1 (λd bQ=>N9 d wb len x y (bD.o x (BI ..)) aY bP.o bQ);have aI:=N8 (len:=len) (p:=x) (q:=y);obtain⟨cc,a8⟩:∃cc,Hh len x y=cc:=⟨_,rfl⟩;rw[a8]at a7 aI;have aL:A8 wr wb 0 (A0 len):=i3.ah b4.o;have b5:Hid (¬cc<0->∀z,(U.take (q+1)).getLast?=some z->AE len x z=false):=λhc z hz=>by
    rw[MQ Y,hy]at hz;cases hz;cases hk:AE len x y with
    | false=>rfl
    | true=>exact absurd (aI.2 hk) hc
   have bT:Hid (cc<0->∀z,(U.drop q).head?=some z->AE len x z=true):=λhc z hz=>by
    rw[head_drop Y,hy]at hz;cases hz;exact aI.1 hc
   obtain⟨Q,hQ⟩:∃Q,a+q=Q:=⟨_,rfl⟩;rw[hQ]at n3 n6 n7 bC;have QI:(Q:Int)<(n:Int):=Fv.2 n6;have Q0:=BJ Q;have tQ:(Q:Int).toNat=Q:=ES Q;have tM:(m:Int).toNat=m:=ES m;obtain⟨xa,xb,xc⟩:=x;obtain⟨ya,yb,yc⟩:=y;unfold DK at a7;dsimp only at a7 bC;have bV:=bC.o wr.drew (A4.C _ wr).aa;have aW:=A1 (a7.o wr.drew aL);obtain⟨I,X⟩:∃I,a+s=I:=⟨_,rfl⟩;obtain⟨J,aA⟩:∃J,a+r=J:=⟨_,rfl⟩;obtain⟨bY,aB⟩:∃bY,I+J=bY:=⟨_,rfl⟩;rw[X,aA,aB]at n1 n2;obtain⟨bZ,aU⟩:∃bZ,a+(q+1)=bZ:=⟨_,rfl⟩;rw[aU]at n7;rw[X,aA,aB]at n3;rw[X,aA]at bL;have aD:=A1 (And.intro i1 (And.intro i2 (And.intro i3 (And.intro i4 (And.intro i5 (And.intro n4 (And.intro n5 (And.intro hQ (And.intro aU (And.intro X aA))))))))));rw[X,aA];clear hI i1 i2 i3 i4 i5 n4 n5 n6 E hy aY a8 a7 aL Y aE aQ bO bU hQ aU X aA aB aI e1 e2 e4 e5;rcases QC (cc<0) with W|W
   focus
    have aT:¬(0<=cc):=Int.not_le.2 W;have bH:decide (cc<0)=true:=Cu W
   rotate_left
   focus
    have aT:0<=cc:=Qz.1 W;have bH:decide (cc<0)=false:=Cv W
   iterate 2
    ·go_wp2;clear n1 n2 n3;refine Br (λw'=>(A8 w' g (Q*3) (A0 ya)/\A8 w' g (Q*3+1) (A0 yb)/\A8 w' g (Q*3+2) (A0 yc))/\A8 w' g (m*3) (A0 xa)/\A8 w' g (m*3+1) (A0 xb)/\A8 w' g (m*3+2) (A0 xc)) 10
      (Ba [0,1,2,3,4,5,6,7,8,9] [9]) bV ?_
     iterate 9 refine B4 ?_
     refine Bf λK hK=>?_;go_simp;refine aW.k ?_;rintro w6 a1;have k6:A4 Aa wr w6:=((A4.C Aa wr).aa).tr a1;refine hK _ _ (bC.o w6 k6) (λhS=>?_);have bX:=A1 k6;clear hK K hS a1 k6 bV aW;refine Bo ?_;clear bJ;go_wp2;go_roundw
     ·obtain⟨f1,f2,f3,f4,f5,f6,f7,f8,f9,f10,f11⟩:=aD.o
      first
       | exact⟨q+1,r,by rw[<-f8];rfl,by rw[f11],f6,f2,f3.tr bX.o,b5.o (by first|exact aT|exact Qz.2 aT),f5⟩
       | exact⟨s,q,by rw[f10],by rw[f8],f7,Fm (Bn f6 f2),f3.tr bX.o,f4,bT.o W⟩
     ·obtain⟨f1,f2,f3,f4,f5,f6,f7,f8,f9,f10,f11⟩:=aD.o;(have g1:I<=Q:=by rw[<-f10,<-f8];exact LV f7 a);(have g2:Q<J:=by rw[<-f11,<-f8];exact KE f6 a)
      first
       | exact OX g1 g2
       | exact OY g1 g2
  ·obtain rfl:s=r:=LU i1 (J6 aE);have aZ:¬(((a+s:Nat):Int)<((a+s:Nat):Int)):=NN _;have bN:=A1 (b3.gm bG.o s i4 i5);have bB:Hid (wr.ownsRow 0 113 3 (AA g n cap) n (B5 (A++(U.take L++x::U.drop L)++Z))):=by
    have:=Au bA.o λg' hg=>i3.Al g' (Aw bA.o hg) (λh=>h);unfold Hid;rw[<-aS.o,C5,GX];simpa using this
   have a9:Hid (A4 (One g) w wr):=i3.aT;have bR:s<=L:=i2;have bK:Hid (∀q,q+1<=L->_):=λq E=>A0S (a:=a) (q:=q) (s:=L) a6.o.1 (by rw[bE.o];exact Fm a6.o.2) E;obtain⟨S,hS⟩:∃S,a+s=S:=⟨_,rfl⟩;have bW:=A1 hS;rw[hS]at aZ ⊢;clear hI i1 i2 i3 i4 i5 aQ bO bU e1 e2 e4 e5 hS aE;generalize wr=w3 at bB a9 ⊢;go_wp2;go_loopw [17] (λkv wr=>∃q:Nat,kv=A0 ((a+q:Nat):Int)/\s<=q/\q<=L/\Hid (wr.ownsRow 0 113 3 (AA g n cap) n (B5 (A++(U.take q++x::U.drop q)++Z))/\A4 (One g) w wr)) (λkv _=>(intOf kv).toNat)
   ·exact⟨L,by rw[bE.o],bR,Ao _,bB.o,a9.o⟩
   ·obtain⟨q,rfl,aO,aF,hI⟩:=hrel;obtain⟨i1,i2⟩:=hI.o;by_cases E:s<q
    ·obtain⟨q,rfl⟩:=Nat.exists_eq_succ_of_ne_zero (Nat.ne_of_gt (Qi (Ch s) E));obtain⟨z1,z2⟩:=bK.o q aF;obtain⟨y,f1,f2,f3⟩:=A3C (A:=A) (Z:=Z) (y:=x) (U:=U) (q:=q) (by rw[aS.o];exact aF);rw[bS.o]at f1 f2 f3;obtain⟨P,hP⟩:∃P,a+q=P:=⟨_,rfl⟩;(have a4:a+(q+1)=P+1:=by rw[<-LX,hP]);rw[hP]at f1 f2 f3 z1 z2;obtain⟨b1,a2⟩:=I6.1 f1;obtain⟨b2,aP⟩:=I6.1 f2;have hlt:(S:Int)<((P:Nat):Int)+1:=Fv.2 (show S<P+1 by rw[<-hP,<-bW.o];exact KE E a);obtain⟨x1,x2,x3⟩:=B1.bD i1 (P+1) b1 x a2;obtain⟨y1,y2,y3⟩:=B1.bD i1 P b2 y aP;obtain⟨aV,wv,aG,aK⟩:=RN i1 (P+1) P b1 b2 (Nat.ne_of_gt (VP P)) x y aP;obtain⟨aN,aR,aM⟩:=wv;have fz:∀o,wr.frozen? (A9 g o)=false:=λo=>EK i1 rfl o;have aJ:=a5.o _ i1;rw[aJ]at b1 b2;have PI:(P:Int)<(n:Int):=Fv.2 b2;have P1I:(P:Int)+1<(n:Int):=Fv.2 b1;have P0:=BJ P;have P10:(0:Int)<=(P:Int)+1:=Gu (P+1);have tP:(P:Int).toNat=P:=ES P;have tP1:((P:Int)+1).toNat=P+1:=ES (P+1);have bF:wrap64 ((P:Int)+1-1)=(P:Int):=z1;have bI:IntKind.i64.wrap ((P:Int)+1-1)=(P:Int):=z2;(have z3':wrap64 (P:Int)=(P:Int):=by rwa [JW]at bF);(have z4':IntKind.i64.wrap (P:Int)=(P:Int):=by rwa [JW]at bI);rw[f3]at aG;have O:=A1 (And.intro aG (aK w i2));have b0:=A1 (And.intro E (And.intro hP aF));obtain⟨xa,xb,xc⟩:=x;obtain⟨ya,yb,yc⟩:=y;unfold Ht at aV aN aR aM O;dsimp only at x1 x2 x3 y1 y2 y3 aV aN aR aM O;rw[a4];clear hI i1 i2 f1 f2 f3 b1 a2 b2 aP aG aK E hP a4 aJ z1 z2 aF aO bK bB a9 bN bA bD bG;go_wp2;refine Mg 15 (λw'=>A8 w' g (P*3) (A0 ya)/\A8 w' g (P*3+1) (A0 yb)/\A8 w' g (P*3+2) (A0 yc)/\A8 w' g ((P+1)*3) (A0 xa)/\A8 w' g ((P+1)*3+1) (A0 xb)/\A8 w' g ((P+1)*3+2) (A0 xc)) 16
      [(0,1),(1,1),(5,1),(6,1),(7,1),(8,1),(9,1),(10,2),(11,2),(12,2),(13,1),(14,1),(2,2),(3,2),(4,2),(15,0)] ⟨y1,y2,y3,x1,x2,x3⟩ ?_
     iterate 7 refine IB ?_
     iterate 3 refine IC ?_
     iterate 2 refine IB ?_
     iterate 3 refine IC ?_
     refine Mi λK hK=>?_;go_simp;refine hK _ _ ?_;clear hK K;refine Mh ?_;clear x1 x2 x3 y1 y2 y3 fz;generalize (((wr.setCell (A9 g ((P+1)*3)) (A0 ya)).setCell (A9 g ((P+1)*3+1)) (A0 yb)).setCell (A9 g ((P+1)*3+2)) (A0 yc)).drew=w7 at aV aN aR aM O ⊢;go_wp2;go_roundw
     ·obtain⟨k1,k2,k3⟩:=b0.o;exact⟨q,by rw[k2],Qj k1,A4n k3,O.o⟩
     ·exact A0s P
    ·obtain rfl:s=q:=LU aO (J6 E);have aZ:¬((S:Int)<(S:Int)):=NN _;rw[bW.o];have O:=A1 (And.intro i1 i2);have bM:=aS.o;have b6:Hid ((U.take s++x::U.drop s).length=U.length+1):=TT U x s (by rw[aS.o];exact aF);clear hI i1 i2 E aO bK bB a9 bA bD bG bM;go_wp2;refine JK (Jk rfl _ _ _) rfl ?_;exact⟨rfl,U.take s++x::U.drop s,by simpa using O.o.1,by rw[<-aS.o];exact b6.o,bN.o.1,bN.o.2,O.o.2⟩
end
def Nr(k:Nat):Prop:=∀(w:gx) (g cap n wb:Nat) (len:Int) (A U V Z:gD Pu),U.length+V.length<=k->U≠[]->V≠[]->n=(A++U++V++Z).length->w.ownsRow 0 113 3 (.slice (some ⟨g,0,none⟩) n cap) n (B5 (A++U++V++Z))->
 (∀p∈U++V,Ay p.2.1)->B6 (AE len) U->B6 (AE len) V->(1<=len/\len<=4611686018427387904)->w.cell? ⟨wb,0,none⟩=some (.int .i64 len)->wb≠g->n<=4294967296->
 Calls Tryz.prog 244 #[.slice (some ⟨g,0,none⟩) n cap,.int .i64 A.length,.int .i64 ((A.length+U.length:Nat):Int),.int .i64 ((A.length+U.length+V.length:Nat):Int),.func (Fn.func 155) #[] #[.pointer (some ⟨wb,0,none⟩)]] w λe w'=>e=.returned (.tuple #[])/\
  ∃M,w'.ownsRow 0 113 3 (.slice (some ⟨g,0,none⟩) n cap) n (B5 (A++M++Z))/\M.length=U.length+V.length/\B6 (AE len) M/\Bt (AE len) (U++V) M/\A4 (One g) w w'
def Xq{a b n nn s0 r0 s r:Nat}(hn:n<=4294967296)(hb:b<=n)(h1:s0<=s)(h2:s<r)(h3:r<=r0)(h4:r0<b)(h5:r0<=nn)(h6:nn<=s0+b)(h7:nn<=8589934592)(h8:a<=s0)(h9:a+r0<=nn):
 wrap64 ((s:Int)+(r:Int))=((s+r:Nat):Int)/\IntKind.u64.wrap ((s+r:Nat):Int)=((s+r:Nat):Int)/\wrap64 (((s+r:Nat):Int)/2)=(((s+r)/2:Nat):Int)/\s<=(s+r)/2/\(s+r)/2<r/\(s+r)/2<n/\nn-1-(s+r)/2<n/\
 wrap64 (((nn-1:Nat):Int)-(((s+r)/2:Nat):Int))=((nn-1-(s+r)/2:Nat):Int)/\IntKind.i64.wrap (((nn-1:Nat):Int)-(((s+r)/2:Nat):Int))=((nn-1-(s+r)/2:Nat):Int)/\wrap64 ((((s+r)/2:Nat):Int)+1)=(((s+r)/2+1:Nat):Int)/\(a<=(s+r)/2/\(s+r)/2<b/\a<=nn-1-(s+r)/2/\nn-1-(s+r)/2<b):=by
 refine⟨by unfold wrap64;omega,?_,by unfold wrap64;omega,by omega,by omega,by omega,by omega,by unfold wrap64;omega,?_,by unfold wrap64;omega,by omega,by omega,by omega,by omega⟩
 ·simp[IntKind.wrap,IntKind.bits,IntKind.signed];omega
 ·simp[IntKind.wrap,IntKind.bits,IntKind.signed];omega
def GY{x:Int}{k:Nat}(h:x=(k:Int))(hk:k<=9223372036854775807):wrap64 x=(k:Int)/\IntKind.i64.wrap x=(k:Int):=by
 subst h;refine⟨by unfold wrap64;omega,?_⟩;simp[IntKind.wrap,IntKind.bits,IntKind.signed];omega
def Xs{a b m mid nn s0:Nat}(hmid:(a+b)/2=mid)(hnn:nn=mid+m)(h:mid<m)(hs:s0=nn-b)(h5:nn<=8589934592):(nn:Int)-(b:Int)=(s0:Int)/\s0<=9223372036854775807:=by omega
def Xr{a m b lu lv ab mid nn p n:Nat}(hbig:n<=4294967296)(hbn:b<=n)(hm:a+lu=m)(hb:m+lv=b)(hab:a+b=ab)(hmid:ab/2=mid)(hnn:nn=mid+m)(hp:nn-1=p)(h1:2<=lu)(h2:2<=lv):
 (wrap64 ((m:Int)-(a:Int))=(lu:Int)/\IntKind.i64.wrap ((m:Int)-(a:Int))=(lu:Int))/\(wrap64 ((b:Int)-(m:Int))=(lv:Int)/\IntKind.i64.wrap ((b:Int)-(m:Int))=(lv:Int))/\((lu:Int)==1)=false/\((lv:Int)==1)=false/\
 (wrap64 ((a:Int)+(b:Int))=(ab:Int)/\IntKind.i64.wrap ((a:Int)+(b:Int))=(ab:Int))/\IntKind.u64.wrap (ab:Int)=(ab:Int)/\(wrap64 ((ab:Int)/2)=(mid:Int)/\IntKind.i64.wrap ((ab:Int)/2)=(mid:Int))/\
 (wrap64 ((mid:Int)+(m:Int))=(nn:Int)/\IntKind.i64.wrap ((mid:Int)+(m:Int))=(nn:Int))/\(wrap64 ((nn:Int)-1)=(p:Int)/\IntKind.i64.wrap ((nn:Int)-1)=(p:Int)):=by
 refine⟨GY (by omega) (by omega),GY (by omega) (by omega),by rw[HX];omega,by rw[HX];omega,GY (by omega) (by omega),?_,GY (by omega) (by omega),GY (by omega) (by omega),GY (by omega) (by omega)⟩;simp[IntKind.wrap,IntKind.bits,IntKind.signed];omega
section
variable{w w' wr:gx}{g cap n k wb a s m e b mid:Nat}{len:Int}{A U1 U2 V1 V2 Z:gD Pu}
def Xp(hk:Nr k)(aJ:(U1++U2).length+(V1++V2).length<=k+1)(hn:n=(A++(U1++U2)++(V1++V2)++Z).length)(h:wr.ownsRow 0 113 3 (.slice (some ⟨g,0,none⟩) n cap) n (B5 (A++(U1++U2)++(V1++V2)++Z)))(hc:A4 (One g) w wr)(hT:∀p∈(U1++U2)++(V1++V2),Ay p.2.1)(aE:B6 (AE len) (U1++U2))(aG:B6 (AE len) (V1++V2))(hl:1<=len/\len<=4611686018427387904)(hw:w.cell? ⟨wb,0,none⟩=some (.int .i64 len))(Y:wb≠g)(W:n<=4294967296)(h1:∀x y,U1.getLast?=some x->V2.head?=some y->AE len y x=false)(h2:∀x y,V1.getLast?=some y->U2.head?=some x->AE len y x=true)(ea:A.length=a)(es:a+U1.length=s)(em:s+U2.length=m)(ee:m+V1.length=e)(eb:e+V2.length=b)(aD:s+V1.length=mid)(lm1:a<mid)(lm2:mid<b):
 ∃aI aH:gx->Prop,((U2=[]\/V1=[])->aI wr)/\
  (U2≠[]->V1≠[]->∀cv,Calls Tryz.prog 263 #[.slice (some ⟨g,0,none⟩) n cap,.int .i64 s,.int .i64 m,.int .i64 e,cv] wr λx w'=>x=.returned (.tuple #[])/\aI w')/\
  (∀w',aI w'->(U1=[]\/V1=[])->aH w')/\
  (∀w',aI w'->U1≠[]->V1≠[]->Calls Tryz.prog 244 #[.slice (some ⟨g,0,none⟩) n cap,.int .i64 a,.int .i64 s,.int .i64 mid,.func (Fn.func 155) #[] #[.pointer (some ⟨wb,0,none⟩)]] w' λx z=>x=.returned (.tuple #[])/\aH z)/\
  (∀w',aH w'->(U2=[]\/V2=[])->∃M,w'.ownsRow 0 113 3 (.slice (some ⟨g,0,none⟩) n cap) n (B5 (A++M++Z))/\M.length=(U1++U2).length+(V1++V2).length/\B6 (AE len) M/\Bt (AE len) ((U1++U2)++(V1++V2)) M/\A4 (One g) w w')/\
  (∀w',aH w'->U2≠[]->V2≠[]->Calls Tryz.prog 244 #[.slice (some ⟨g,0,none⟩) n cap,.int .i64 mid,.int .i64 e,.int .i64 b,.func (Fn.func 155) #[] #[.pointer (some ⟨wb,0,none⟩)]] w' λx z=>x=.returned (.tuple #[])/\
   ∃M,z.ownsRow 0 113 3 (.slice (some ⟨g,0,none⟩) n cap) n (B5 (A++M++Z))/\M.length=(U1++U2).length+(V1++V2).length/\B6 (AE len) M/\Bt (AE len) ((U1++U2)++(V1++V2)) M/\A4 (One g) w z):=by
 have aL:=Ga len;obtain⟨u1,u2,-⟩:=B6.av aE;obtain⟨v1,v2,-⟩:=B6.av aG;have aA:n=A.length+U1.length+U2.length+V1.length+V2.length+Z.length:=by rw[hn];simp;omega
 have L:∀w',A4 (One g) w w'->w'.cell? ⟨wb,0,none⟩=some (.int .i64 len):=λw' aK=>aK.bJ hw λe=>Y e;have hUV':U1.length+U2.length+(V1.length+V2.length)<=k+1:=by simpa using aJ
 have aF:∀(w':gx) (d aB:gD Pu),w'.ownsRow 0 113 3 (.slice (some ⟨g,0,none⟩) n cap) n (B5 (A++(d++aB)++Z))->d.length=U1.length+V1.length->aB.length=U2.length+V2.length->B6 (AE len) d->B6 (AE len) aB->Bt (AE len) (U1++V1) d->Bt (AE len) (U2++V2) aB->A4 (One g) w w'->
  ∃M,w'.ownsRow 0 113 3 (.slice (some ⟨g,0,none⟩) n cap) n (B5 (A++M++Z))/\M.length=(U1++U2).length+(V1++V2).length/\B6 (AE len) M/\Bt (AE len) ((U1++U2)++(V1++V2)) M/\A4 (One g) w w':=λw' d aB q0 q1 q2 q3 q4 q5 q6 q7=>by
  have⟨j1,j2⟩:=aL.fo aE aG (aL.cN u1 v2 h1) (aL.dH v1 u2 h2) q3 q4 q5 q6;exact⟨d++aB,q0,by simp;omega,j1,j2,q7⟩
 refine⟨λw'=>w'.ownsRow 0 113 3 (.slice (some ⟨g,0,none⟩) n cap) n (B5 (A++(U1++V1)++(U2++(V2++Z))))/\A4 (One g) w w',
  λw'=>∃d,w'.ownsRow 0 113 3 (.slice (some ⟨g,0,none⟩) n cap) n (B5 (A++d++(U2++(V2++Z))))/\d.length=U1.length+V1.length/\B6 (AE len) d/\Bt (AE len) (U1++V1) d/\A4 (One g) w w',
  λI=>⟨?_,hc⟩,λI hy cv=>?_,λw' O I=>?_,λw' O I hy=>?_,λw' O I=>?_,λw' O I hy=>?_⟩
 ·have e:A++(U1++U2)++(V1++V2)++Z=A++(U1++V1)++(U2++(V2++Z)):=by rcases I with rfl|rfl<;>simp
  rwa [e]at h
 ·have e:A++(U1++U2)++(V1++V2)++Z=(A++U1)++U2++V1++(V2++Z):=by simp
  rw[e]at h;have:=Yv wr g cap n (A++U1) U2 V1 (V2++Z) cv I hy (by rw[aA,B3,B3,B3,B3,B3];omega) h;have l1:(A++U1).length=s:=by rw[B3];omega
  rw[l1,em,ee]at this;refine this.mono ?_;rintro x w'⟨rfl,X,r2⟩;refine⟨rfl,?_,hc.AH r2 λ_ h _=>h⟩;have e:(A++U1)++V1++U2++(V2++Z)=A++(U1++V1)++(U2++(V2++Z)):=by simp
  rwa [e]at X
 ·refine⟨U1++V1,O.1,by simp,?_,Bt.C _,O.2⟩;rcases I with rfl|rfl
  ·simpa using v1
  ·simpa using u1
 ·have:=hk w' g cap n wb len A U1 V1 (U2++(V2++Z)) (by omega) I hy (by rw[aA];simp only[B3];omega) (by have:=O.1;rwa [<-Ci A U1 V1]at this) (λp E=>hT p (by simp at E ⊢;rcases E with E|E<;>simp[E])) u1 v1 hl (L w' O.2) Y W;rw[ea,es,aD]at this;refine this.mono ?_;rintro x z⟨rfl,M,X,r2,r3,r4,r5⟩;exact⟨rfl,M,X,r2,r3,r4,O.2.AH r5 λ_ h _=>h⟩
 ·obtain⟨d,X,r2,r3,r4,r5⟩:=O;refine aF w' d (U2++V2) ?_ r2 (by simp) r3 ?_ r4 (Bt.C _) r5
  ·(have e:A++(d++(U2++V2))++Z=A++d++(U2++(V2++Z)):=by simp);rw[e];exact X
  ·rcases I with rfl|rfl
   ·simpa using v2
   ·simpa using u2
 ·obtain⟨d,X,r2,r3,r4,r5⟩:=O;have lM:(A++d).length=mid:=by rw[B3];omega
  have:=hk w' g cap n wb len (A++d) U2 V2 Z (by omega) I hy (by rw[aA];simp only[B3];omega) (by have e:A++d++U2++V2++Z=A++d++(U2++(V2++Z)):=(by simp);rw[e];exact X) (λp E=>hT p (by simp at E ⊢;rcases E with E|E<;>simp[E])) u2 v2 hl (L w' r5) Y W;rw[lM,show mid+U2.length=e by omega,eb]at this;refine this.mono ?_;rintro x z⟨rfl,M,q1,q2,q3,q4,q5⟩;refine⟨rfl,aF z d M ?_ r2 q2 r3 q3 r4 q4 (r5.AH q5 λ_ h _=>h)⟩;rw[<-Ci A d M];exact q1
end
section
variable{w wr:gx}{g cap n k wb a m b mid nn s0 r0 s:Nat}{len:Int}{A U V Z D:gD Pu}
def Xo(hk:Nr k)(aK:U.length+V.length<=k+1)(aO:2<=U.length)(aQ:2<=V.length)(hn:n=(A++U++V++Z).length)(hD:D=A++U++V++Z)(h:wr.ownsRow 0 113 3 (.slice (some ⟨g,0,none⟩) n cap) n (B5 D))(aR:A4 (λ_=>False) w wr)(hT:∀p∈U++V,Ay p.2.1)(aL:B6 (AE len) U)(aN:B6 (AE len) V)(hl:1<=len/\len<=4611686018427387904)(hw:w.cell? ⟨wb,0,none⟩=some (.int .i64 len))(aM:wb≠g)(aI:n<=4294967296)(ha:A.length=a)(hm:a+U.length=m)(hb:m+V.length=b)(W:(a+b)/2=mid)(aP:nn=mid+m)(aH:if mid<m then s0=nn-b/\r0=mid else s0=a/\r0=m)(hs:Gv (AE len) D nn s0 r0 s s):
 ∃(e:Nat) (u1 I O v2:Bool) (aF aE:gx->Prop),(wrap64 ((nn:Int)-(s:Int))=(e:Int)/\IntKind.i64.wrap ((nn:Int)-(s:Int))=(e:Int))/\
  (decide (s<m)=I/\decide (m<e)=O/\decide (a<s)=u1/\decide (s<mid)=O/\decide (mid<e)=I/\decide (e<b)=v2)/\((u1=true\/I=true)/\(O=true\/v2=true))/\
  ((I=false\/O=false)->aF wr)/\
  (I=true->O=true->∀cv,Calls Tryz.prog 263 #[.slice (some ⟨g,0,none⟩) n cap,.int .i64 s,.int .i64 m,.int .i64 e,cv] wr λx w'=>x=.returned (.tuple #[])/\aF w')/\
  (∀w',aF w'->(u1=false\/O=false)->aE w')/\
  (∀w',aF w'->u1=true->O=true->Calls Tryz.prog 244 #[.slice (some ⟨g,0,none⟩) n cap,.int .i64 a,.int .i64 s,.int .i64 mid,.func (Fn.func 155) #[] #[.pointer (some ⟨wb,0,none⟩)]] w' λx aA=>x=.returned (.tuple #[])/\aE aA)/\
  (∀w',aE w'->(I=false\/v2=false)->∃M,w'.ownsRow 0 113 3 (.slice (some ⟨g,0,none⟩) n cap) n (B5 (A++M++Z))/\M.length=U.length+V.length/\B6 (AE len) M/\Bt (AE len) (U++V) M/\A4 (One g) w w')/\
  (∀w',aE w'->I=true->v2=true->Calls Tryz.prog 244 #[.slice (some ⟨g,0,none⟩) n cap,.int .i64 mid,.int .i64 e,.int .i64 b,.func (Fn.func 155) #[] #[.pointer (some ⟨wb,0,none⟩)]] w' λx aA=>x=.returned (.tuple #[])/\
   ∃M,aA.ownsRow 0 113 3 (.slice (some ⟨g,0,none⟩) n cap) n (B5 (A++M++Z))/\M.length=U.length+V.length/\B6 (AE len) M/\Bt (AE len) (U++V) M/\A4 (One g) w aA):=by
 have hbn:b<=n:=by rw[hn];simp;omega
 have hs3:=hs.2.2.1;have hg:r0<=nn/\nn<=8589934592/\a<mid/\mid<b:=by split at aH<;>omega
 obtain⟨g3,g5,g6,g7⟩:=hg;have⟨U1,U2,V1,V2,hU,hV,c1,c2,c3,c4,c5⟩:=A2n hD aO aQ (by rw[ha,hm,hb,W];exact aP) (by rw[ha,hm,hb,W];exact aH) hs;rw[ha,hm,hb,W]at c3;rw[ha]at c1;rw[ha,hm]at c2;generalize he:nn-s=e at c2;have lU:U.length=U1.length+U2.length:=by rw[hU,B3]
 have lV:V.length=V1.length+V2.length:=by rw[hV,B3]
 have aJ:=@List.length_pos_iff _ U1;have aB:=@List.length_pos_iff _ U2;have aD:=@List.length_pos_iff _ V1;have aG:=@List.length_pos_iff _ V2;have⟨aF,aE,p1,p2,p3,p4,p5,p6⟩:=Xp (w:=w) (wr:=wr) (g:=g) (cap:=cap) (n:=n) (wb:=wb) (a:=a) (s:=s) (m:=m) (e:=e) (b:=b) (mid:=mid) (len:=len) (A:=A) (U1:=U1) (U2:=U2) (V1:=V1) (V2:=V2) (Z:=Z) hk (by rw[<-hU,<-hV];exact aK) (by rw[<-hU,<-hV];exact hn)
  (by rw[<-hU,<-hV,<-hD];exact h) (aR.ai λ_ _ h=>h.elim) (by rw[<-hU,<-hV];exact hT) (by rw[<-hU];exact aL) (by rw[<-hV];exact aN) hl hw aM aI c4 c5 ha c1 (by omega) (by omega) (by omega) (by omega) g6 g7
 rw[<-hU,<-hV]at p5 p6;obtain⟨u1,X⟩:∃u1,decide (U1≠[])=u1:=⟨_,rfl⟩;obtain⟨I,z⟩:∃I,decide (U2≠[])=I:=⟨_,rfl⟩;obtain⟨O,d⟩:∃O,decide (V1≠[])=O:=⟨_,rfl⟩;obtain⟨v2,Y⟩:∃v2,decide (V2≠[])=v2:=⟨_,rfl⟩;have E:∀ {L:gD Pu} {x:Bool},decide (L≠[])=x->(x=true->L≠[])/\(x=false->L=[]):=λh=>by
  subst h;exact⟨λh=>by simpa using h,λh=>by simpa using h⟩
 refine⟨e,u1,I,O,v2,aF,aE,GY (by omega) (by omega),⟨z ▸ LB.2 (by rw[<-aB];omega),d ▸ LB.2 (by rw[<-aD];omega),X ▸ LB.2 (by rw[<-aJ];omega),d ▸ LB.2 (by rw[<-aD];omega),z ▸ LB.2 (by rw[<-aB];omega),Y ▸ LB.2 (by rw[<-aG];omega)⟩,⟨?_,?_⟩,
  λh=>p1 (h.imp (E z).2 (E d).2),λh h'=>p2 ((E z).1 h) ((E d).1 h'),λw' q h=>p3 w' q (h.imp (E X).2 (E d).2),λw' q h h'=>p4 w' q ((E X).1 h) ((E d).1 h'),λw' q h=>p5 w' q (h.imp (E z).2 (E Y).2),λw' q h h'=>p6 w' q ((E z).1 h) ((E Y).1 h')⟩
 ·rw[<-X,<-z];simp only[E2,<-aJ,<-aB];omega
 ·rw[<-d,<-Y];simp only[E2,<-aD,<-aG];omega
end
section
variable{w w':gx}{g cap n:Nat}
def Xu{k:Nat}(hk:Nr k)(w:gx)(g cap n wb:Nat)(len:Int)(A U V Z:gD Pu)(aZ:U.length+V.length<=k+1)(hU:2<=U.length)(hV:2<=V.length)(hn:n=(A++U++V++Z).length)(h:w.ownsRow 0 113 3 (AA g n cap) n (B5 (A++U++V++Z)))(hT:∀p∈U++V,Ay p.2.1)(aR:B6 (AE len) U)(a3:B6 (AE len) V)(hl:1<=len/\len<=4611686018427387904)(hw:A8 w wb 0 (A0 len))(aV:wb≠g)(L:n<=4294967296):
 Ag 244 #[AA g n cap,A0 A.length,A0 ((A.length+U.length:Nat):Int),A0 ((A.length+U.length+V.length:Nat):Int),.func (Fn.func 155) #[] #[A5 wb]] w (Aj (.tuple #[]) λw'=>
  ∃M,w'.ownsRow 0 113 3 (AA g n cap) n (B5 (A++M++Z))/\M.length=U.length+V.length/\B6 (AE len) M/\Bt (AE len) (U++V) M/\A4 (One g) w w'):=by
 obtain⟨D,hD⟩:∃D,D=A++U++V++Z:=⟨_,rfl⟩;obtain⟨a,ha⟩:∃a,A.length=a:=⟨_,rfl⟩;obtain⟨m,hm⟩:∃m,a+U.length=m:=⟨_,rfl⟩;obtain⟨b,hb⟩:∃b,m+V.length=b:=⟨_,rfl⟩;obtain⟨mid,I⟩:∃mid,(a+b)/2=mid:=⟨_,rfl⟩;obtain⟨nn,aG⟩:∃nn,nn=mid+m:=⟨_,rfl⟩;obtain⟨s0,r0,E⟩:∃s0 r0,if mid<m then s0=nn-b/\r0=mid else s0=a/\r0=m:=by
  split
  ·exact⟨_,_,rfl,rfl⟩
  ·exact⟨_,_,rfl,rfl⟩
 have aO:b<=n:=by rw[hn];simp;omega
 have a9:s0<r0/\r0<b/\r0<=nn/\nn<=s0+b/\nn<=8589934592/\a<mid/\mid<b/\a<=s0/\a+r0<=nn:=by split at E<;>omega
 obtain⟨g1,g2,g3,g4,g5,g6,g7,g8,g9⟩:=a9;have aD:Hid (∀s r,s0<=s->s<r->r<=r0->_):=λs r q1 q2 q3=>Xq (a:=a) (nn:=nn) L aO q1 q2 q3 g2 g3 g4 g5 g8 g9;rw[<-hD]at h;have aA:Hid (∀wr s,A4 Aa w wr->Gv (AE len) D nn s0 r0 s s->_):=λwr s q1 q2=>Xo hk aZ hU hV hn hD (Au h λg' hg=>q1.Al g' (Aw h hg) (λh=>h)) q1 hT aR a3 hl hw aV L ha hm hb I aG E q2;have a5:Hid (∀z,A4 Aa w z->∀q (hq:q<n) x,D[q]?=some x->A8 z g (q*3) (A0 x.1)/\A8 z g (q*3+1) (A0 x.2.1)/\A8 z g (q*3+2) (A0 x.2.2)):=λz hx q hq x bI=>by
  have⟨e1,e2⟩:=I6.1 bI;have⟨y1,y2,y3⟩:=B1.bD h q e1 x e2;exact⟨hx.ah y1,hx.ah y2,hx.ah y3⟩
 have aF:Hid (∀q,a<=q->q<b->∃x,D[q]?=some x/\Ay x.2.1):=λq hq1 hq2=>by
  obtain⟨j,rfl⟩:∃j,q=A.length+j:=⟨q-A.length,by omega⟩;have hj:j<(U++V).length:=by simp;omega
  have e:D[A.length+j]?=some ((U++V)[j]'hj):=by
   rw[hD,Ci A U V,Jb (by simp at hj ⊢;omega),I7 (by omega)];simp only[A4q];exact Dz hj
  exact⟨_,e,hT _ (BV hj)⟩
 obtain⟨lu,aK⟩:∃lu,U.length=lu:=⟨_,rfl⟩;obtain⟨lv,aP⟩:∃lv,V.length=lv:=⟨_,rfl⟩;obtain⟨ab,aM⟩:∃ab,a+b=ab:=⟨_,rfl⟩;obtain⟨p,hp⟩:∃p,nn-1=p:=⟨_,rfl⟩;have⟨⟨w1,w1'⟩,⟨w2,w2'⟩,f1,f2,⟨w3,w3'⟩,w4,⟨w5,w5'⟩,⟨w6,w6'⟩,⟨w7,w7'⟩⟩:=Xr (lu:=lu) (lv:=lv) L aO (by rw[<-aK];exact hm) (by rw[<-aP];exact hb) aM (by rw[<-aM];exact I) aG hp (by rw[<-aK];exact hU) (by rw[<-aP];exact hV);have bL:=N1 (HX.1 f1);have bE:=N1 (HX.1 f2);rw[hp]at aD;have W:Hid (if mid<m then (wrap64 ((nn:Int)-(b:Int))=(s0:Int)/\IntKind.i64.wrap ((nn:Int)-(b:Int))=(s0:Int))/\r0=mid else s0=a/\r0=m):=by
  unfold Hid;split at E
  ·rename_i aB;rw[Ai aB];have⟨q1,q2⟩:=Xs I aG aB E.1 g5;exact⟨GY q1 q2,E.2⟩
  ·rename_i aB;rw[Af aB];exact E
 have aS:n<=cap/\cap<=9223372036854775807:=by
  have⟨a',c',e,h1,h2,_⟩:=B8 h;cases e;unfold maxLen at h2;omega
 obtain⟨hc1,hc2⟩:=aS;have bS:=A1 hw;have a0:=A1 hl;have bW:=A1 hp;have a2:=A1 <| Fm g1;rw[ha,hm,hb];clear h hT hw hl aV hk L hn ha hm hb I aG E g1 g2 g3 g4 g5 g6 g7 g8 g9 aM aK aP aZ hU hV aR a3 hD aO hp;by_cases aE:mid<m
 all_goals
  have a4:=W.o
  first
   | rw[Ai aE]at a4
   | rw[Af aE]at a4
 focus
  obtain⟨⟨x1,x2⟩,hr⟩:=a4;have bJ:=A1 hr;have bD:Hid (∀_:Nat,s0=s0):=λ_=>rfl;have bF:=Fv.2 aE;clear hr
 rotate_left
 focus
  obtain⟨hs,hr⟩:=a4;have bJ:=A1 hr;have bD:Hid (∀_:Nat,s0=a):=λ_=>hs;have bF:=N1 (by omega);clear hr hs
 all_goals
  clear W aE
  go_enter func244,ntmps244
  go_wp2;go_loopw [20,21] (λiv jv wr=>∃(s r:Nat),iv=A0 (s:Int)/\jv=A0 (r:Int)/\Hid (Gv (AE len) D nn s0 r0 s r/\A4 Aa w wr)) (λiv jv _=>(intOf jv).toNat-(intOf iv).toNat)
  case atStart=>exact⟨s0,r0,by first|go_num|rw[bD.o 0],by rw[bJ.o],Gv.fJ D nn a2.o,A4.C _ _⟩
  case round=>
   obtain⟨s,r,rfl,rfl,hI⟩:=hrel;have⟨i1,i2⟩:=hI.o;by_cases Y:s<r
   ·have⟨n1,n2,n3,n4,n5,n6,n7,n8,n9,n10,l1,l2,l3,l4⟩:=aD.o s r i1.1 Y i1.2.2.1;generalize hc:(s+r)/2=c at n3 n4 n5 n6 n7 n8 n9 n10 l1 l2 l3 l4;generalize hd:p-c=d at n7 n8 n9 l3 l4;generalize aT:s+r=sr at n1 n2 n3;have hp:=bW.o;have⟨x,hx,hxT⟩:=aF.o c l1 l2;have⟨y,hy,hyT⟩:=aF.o d l3 l4;(have aN:D[nn-1-c]?=some y:=by rw[hp,hd];exact hy);have bC:Hid (∀z,A4 Aa wr z->(A8 z g (d*3) (A0 y.1)/\A8 z g (d*3+1) (A0 y.2.1)/\A8 z g (d*3+2) (A0 y.2.2))/\A8 z g (c*3) (A0 x.1)/\A8 z g (c*3+1) (A0 x.2.1)/\A8 z g (c*3+2) (A0 x.2.2)):=λz aJ=>by
     have aY:=i2.tr aJ;exact⟨a5.o z aY d n7 y hy,a5.o z aY c n6 x hx⟩
    have a1:=A1 (λz aJ=>N9 z wb len y x hyT hxT a0.o aJ);have aH:=N8 (len:=len) (p:=y) (q:=x);generalize bH:Hh len y x=cc at a1 aH;have aI:=i2.ah bS.o
    have bX:Hid (¬cc<0->Gv (AE len) D nn s0 r0 (c+1) r):=λhc=>i1.up ⟨n4,n5⟩ hx aN (by
     cases hk:AE len y x with
     | false=>rfl
     | true=>exact absurd (aH.2 hk) hc)
    have bK:Hid (cc<0->Gv (AE len) D nn s0 r0 s c):=λhc=>i1.e2 ⟨n4,n5⟩ hx aN (aH.1 hc);have DI:=Fv.2 n7;have CI:=Fv.2 n6;have D0:=BJ d;have C0:=BJ c;have tD:=ES d;have tC:=ES c;have hsrI:=Fv.2 Y;obtain⟨xa,xb,xc⟩:=x;obtain⟨ya,yb,yc⟩:=y;unfold DK at a1;dsimp only at a1 bC;have bO:=bC.o wr.drew (A4.C _ wr).aa;have aQ:=A1 (a1.o wr.drew aI);have X:=A1 (And.intro i2 (And.intro n4 n5));clear hI i1 i2 n4 n5 n6 n7 hc hd aT hx hy aN hxT hyT bH a1 aI Y aD a5 aF aH hp aA l1 l2 l3 l4;rcases QC (cc<0) with O|O
    focus
     have aL:=Int.not_le.2 O;have a8:=Cu O
    rotate_left
    focus
     have aL:=Qz.1 O;have a8:=Cv O
    all_goals
     go_wp2;clear n1 n2 n3;refine Br (λw'=>(A8 w' g (d*3) (A0 ya)/\A8 w' g (d*3+1) (A0 yb)/\A8 w' g (d*3+2) (A0 yc))/\A8 w' g (c*3) (A0 xa)/\A8 w' g (c*3+1) (A0 xb)/\A8 w' g (c*3+2) (A0 xc)) 12
      (Ba [0,1,2,3,4,5,6,7,8,9,10,11] [11]) bO ?_
     iterate 11 refine B4 ?_
     refine Bf λK hK=>?_;go_simp;refine aQ.m ?_;rintro e w6⟨rfl,aX⟩;have k6:=((A4.C Aa wr).aa).tr aX;refine hK _ _ (bC.o w6 k6) (λhS=>?_);have bT:=A1 k6;clear hK K hS aX k6 bO aQ;refine Bo ?_;go_wp2;go_roundw
     case rel=>
      have⟨f1,f2,f3⟩:=X.o
      first
       | exact⟨c+1,r,rfl,rfl,bX.o (by first|exact aL|exact Qz.2 aL),f1.tr bT.o⟩
       | exact⟨s,c,rfl,rfl,bK.o O,f1.tr bT.o⟩
     case measure=>
      have⟨f1,f2,f3⟩:=X.o
      first
       | exact OX f2 f3
       | exact OY f2 f3
   ·obtain rfl:s=r:=LU i1.2.1 (J6 Y);have⟨e,u1,u2,v1,v2,R1,R2,⟨y1,y2⟩,⟨D1,D2,D3,D4,D5,D6⟩,⟨ou,ov⟩,p1,p2,p3,p4,p5,p6⟩:=aA.o wr s i2 i1;have bB:=A1 p1;have bR:=A1 p2;have bA:=A1 p3;have bP:=A1 p4;have bG:=A1 p5;have bU:=A1 p6;have bQ:=A1 ou;have bN:=A1 ov;have hno:¬((s:Int)<(s:Int)):=NN _;clear hI i1 i2 Y aD a5 aF aA p1 p2 p3 p4 p5 p6 ou ov a0 bS bJ bD bW a2 w1 w1' w2 w2' f1 bL f2 bE w3 w3' w4 w5 w5' w6 w6' w7 w7';cases u1<;>cases u2<;>cases v1<;>cases v2
    all_goals first
     | (exfalso;have:=bQ.o;revert this;decide)
     | (exfalso;have:=bN.o;revert this;decide)
     | skip
    all_goals
     simp only[E2,A2g]at D1 D2 D3 D4 D5 D6
    all_goals first
     | have bV:=A1 (bR.o rfl rfl (.func (Fn.func 155) #[] #[A5 wb]))
     | have a6:=A1 (bB.o (.inl rfl))
     | have a6:=A1 (bB.o (.inr rfl))
    all_goals first
     | have aU:=A1 (λw' q=>bP.o w' q rfl rfl)
     | have aU:=A1 (λw' q=>bA.o w' q (.inl rfl))
     | have aU:=A1 (λw' q=>bA.o w' q (.inr rfl))
    all_goals first
     | have aW:=A1 (λw' q=>bU.o w' q rfl rfl)
     | have aW:=A1 (λw' q=>bG.o w' q (.inl rfl))
     | have aW:=A1 (λw' q=>bG.o w' q (.inr rfl))
    all_goals clear bB bR bA bP bG bU bQ bN
    all_goals go_wp2_with (fail)
    all_goals try
     (go_at_call 263;refine bV.m ?_;rintro x w4⟨rfl,hR⟩;have a6:=A1 hR;clear hR bV;go_wp2_with (fail))
    all_goals first
     | (go_at_call 244;refine(aU.o _ a6.o).mono ?_;rintro x w5⟨rfl,hR⟩;have bM:=A1 hR;clear hR aU;go_wp2_with (fail))
     | have bM:=A1 (aU.o _ a6.o)
    all_goals first
     | (go_at_call 244;refine(aW.o _ bM.o).mono ?_;rintro x w6⟨rfl,hR⟩;have a7:=A1 hR;clear hR aW;go_wp2_with (fail))
     | have a7:=A1 (aW.o _ bM.o)
    all_goals go_end0
    all_goals first
     | exact⟨rfl,a7.o⟩
     | exact⟨rfl,by simpa only[Ci] using a7.o⟩
end
def Ro:∀k,Nr k
 | 0=>λw g cap n wb len A U V Z hk hu hv=>by
  have:=J9.2 hu;omega
 | k+1=>λw g cap n wb len A U V Z hk hu hv O h W E L Y X z d=>by
  have lu:=J9.2 hu;have lv:=J9.2 hv;by_cases h1:U.length=1
  ·obtain⟨x,rfl⟩:=A4D.1 h1;(have e:A++[x]++V++Z=A++x::(V++Z):=by simp);rw[e]at O h;have:=Xt w g cap n wb len A V Z x hv O h (by simpa using W) L Y X z d;simp only[VY]at this ⊢;refine this.mono ?_;rintro x' w'⟨rfl,M,q1,q2,q3,q4,q5⟩;exact⟨rfl,M,q1,by rw[q2];omega,q3,by simpa using q4,q5⟩
  ·by_cases h2:V.length=1
   ·obtain⟨x,rfl⟩:=A4D.1 h2;(have e:A++U++[x]++Z=A++(U++x::Z):=by simp);rw[e]at O h;have:=Xv w g cap n wb len A U Z x (by omega) O h (λp I=>W p (by simp at I ⊢;rcases I with I|I<;>simp[I])) E Y X z d;simp only[VY]at this ⊢;exact this
   ·exact Xu (Ro k) w g cap n wb len A U V Z hk (by omega) (by omega) O h W E L Y X z d
section
variable{α:Type}{lt:α->α->Bool}
def GU(lt:α->α->Bool)(a b:Nat)(l l':gD α):Prop:=l'.length=l.length/\B6 lt ((l'.drop a).take (b-a))/\∀p q,p+q<=a\/b<=p->(l'.drop p).take q=(l.drop p).take q
def Tq{A M M' Z:gD α}(h:M'.length=M.length)(d:B6 lt M'):GU lt A.length (A.length+M.length) (A++M++Z) (A++M'++Z):=by
 refine⟨by simp[h],?_,λp q hp=>?_⟩
 ·rw[A2p rfl (by omega) (λhx=>by omega)];exact d
 ·exact(A2o h p q (by omega))
def ET.ba{l l':gD α}{C j b:Nat}(h:ET lt C (λi=>i<j) l)(z:GU lt (j*C) b l l')(I:b=j*C+C\/(b=l.length/\l.length<=j*C+C))(hj:j*C<=l.length):ET lt C (λi=>i<j+1) l':=λi d=>by
 rcases Nat.lt_or_eq_of_le (Qj d) with d|rfl
 ·rw[z.2.2 _ _ (.inl ?_)]
  ·exact h i d
  ·have:=I4 C (show i+1<=j from d);rw[I5]at this;omega
 ·have E:=z.2.1;rcases I with rfl|⟨rfl,I⟩
  ·rwa [A4q]at E
  ·have e:(l'.drop (i*C)).take C=(l'.drop (i*C)).take (l.length-i*C):=by
    rw[El (by rw[Cz,z.1];omega),El (by rw[Cz,z.1];omega)]
   rw[e];exact E
def ET.gi{l l':gD α}{B a b j:Nat}(h:ET lt B (λi=>j<=i) l)(E:GU lt a b l l')(z:b<=j*B):ET lt B (λi=>j<=i) l':=λi d=>by
 rw[E.2.2 _ _ (.inr (AP z (I4 B d)))];exact h i d
def ET.eb{l:gD α}{C j:Nat}(h:ET lt C (λi=>i<j) l)(z:l.length<=j*C):ET lt C (λ_=>True) l:=λi _=>by
 rcases F9 i j with d|d
 ·exact h i d
 ·rw[NI (AP z (I4 C d)),List.take_nil];exact List.Pairwise.nil
def GU.aw{l:gD α}{a b:Nat}(h:B6 lt ((l.drop a).take (b-a))):GU lt a b l l:=⟨rfl,h,λ_ _ _=>rfl⟩
def LG{l:gD α}{a q r:Nat}(h:B6 lt ((l.drop a).take q))(d:r<=q):B6 lt ((l.drop a).take r):=by
 have:=h.cb r
 rwa [KF,JN d]at this
end
def XQ{n B C:Nat}(hn:n<=4294967296)(hB:B<=n)(hC:2*B=C):
 wrap64 (2*(B:Int))=(C:Int)/\IntKind.i64.wrap (2*(B:Int))=(C:Int)/\wrap64 ((B:Int)*2)=(C:Int)/\IntKind.i64.wrap ((B:Int)*2)=(C:Int):=by
 have d:=GY (x:=2*(B:Int)) (k:=C) (by omega) (by omega);have h:=GY (x:=(B:Int)*2) (k:=C) (by omega) (by omega);exact⟨d.1,d.2,h.1,h.2⟩
def A0u{n b c:Nat}(h:b<=n)(hc:b+20=c):n+21-(intOf (A0 (c:Int))).toNat<n+21-(intOf (A0 (b:Int))).toNat:=by simp[intOf];omega
def A0t{n b c C:Nat}(h:b<=n)(hC:20<=C)(hc:b+C=c):n+C+1-(intOf (A0 (c:Int))).toNat<n+C+1-(intOf (A0 (b:Int))).toNat:=by simp[intOf];omega
def TG{n B C:Nat}(h:B<n)(hB:20<=B)(hC:2*B=C):n-(intOf (A0 (C:Int))).toNat<n-(intOf (A0 (B:Int))).toNat:=by simp[intOf];omega
def A3x(a:Nat){B:Nat}(h:20<=B):a<a+B/\a+B<a+2*B/\a+B-a<=B/\a+2*B-(a+B)<=B/\20<=2*B:=by omega
def A17{a B n:Nat}(h:¬a+2*B<=n):n<=a+2*B/\n-(a+B)<=B/\(¬a+B<n->n-a<=B):=by omega
section
variable{w w':gx}{g cap n wb:Nat}{len:Int}{l:gD Pu}
def Way(g cap n:Nat)(len:Int)(l:gD Pu)(w h:gx)(d:gD Pu):Prop:=h.ownsRow 0 113 3 (.slice (some ⟨g,0,none⟩) n cap) n (B5 d)/\d.length=n/\Bt (AE len) l d/\A4 (One g) w h
def WT(hT:∀p∈l,Ay p.2.1)(hl:1<=len/\len<=4611686018427387904)(hw:A8 w wb 0 (A0 len))(L:wb≠g)(O:n<=4294967296)(Y:gx)(d:gD Pu)(a b:Nat)(I:a<b)(hb:b<=n)(h:Way g cap n len l w Y d):
 Ag 243 #[AA g n cap,A0 a,A0 b,.func (Fn.func 155) #[] #[A5 wb]] Y (Aj (.tuple #[]) λw'=>∃E,Way g cap n len l w w' E/\GU (AE len) a b d E):=by
 obtain⟨h1,h2,h3,h4⟩:=h;subst h2;refine(Ub Y g cap wb len d a b I hb h1 (λp hp=>hT p (h3.bI.DD (Ga len) hp)) hl (h4.bJ hw λe=>L e) L O).k ?_;rintro w'⟨m,X,q2,q3,q4,q5⟩;have hM:((d.drop a).take (b-a)).length=b-a:=by rw[BK,Cz];omega
 have aA:(d.take a).length=a:=by rw[BK];omega
 have W:d=d.take a++(d.drop a).take (b-a)++d.drop b:=by
  have:=Ry d (Fm I) (Ao b);simpa using this
 have hN:=Tq (lt:=AE len) (A:=d.take a) (Z:=d.drop b) (q2.trans hM.symm) q4;rw[<-W,aA,hM,show a+(b-a)=b by omega]at hN;have z:=hN.1;refine⟨rfl,d.take a++m++d.drop b,⟨?_,z,?_,h4.tr q5⟩,hN⟩
 ·unfold B1 at X;rw[z]at X;exact X
 ·refine h3.AH ?_;have e:(d.take b).drop a=(d.drop a).take (b-a):=List.drop_take ..;rw[e]at q3;have:=((Bt.C (lt:=AE len) (d.take a)).av q3).av (Bt.C (d.drop b))
  rwa [<-W]at this
def WS(hT:∀p∈l,Ay p.2.1)(hl:1<=len/\len<=4611686018427387904)(hw:A8 w wb 0 (A0 len))(L:wb≠g)(W:n<=4294967296)(wx:gx)(d:gD Pu)(a m b:Nat)(aA:a<m)(aD:m<b)(hb:b<=n)(h:Way g cap n len l w wx d)(s1:B6 (AE len) ((d.drop a).take (m-a)))(s2:B6 (AE len) ((d.drop m).take (b-m))):
 Ag 244 #[AA g n cap,A0 a,A0 m,A0 b,.func (Fn.func 155) #[] #[A5 wb]] wx (Aj (.tuple #[]) λw'=>∃z,Way g cap n len l w w' z/\GU (AE len) a b d z):=by
 obtain⟨h1,h2,h3,h4⟩:=h;have X:=Ry d (Fm aA) (Fm aD);have lA:(d.take a).length=a:=by rw[BK];omega
 have E:((d.drop a).take (m-a)).length=m-a:=by rw[BK,Cz];omega
 have I:((d.drop m).take (b-m)).length=b-m:=by rw[BK,Cz];omega
 obtain⟨A,hA⟩:∃A,d.take a=A:=⟨_,rfl⟩;obtain⟨U,hU⟩:∃U,(d.drop a).take (m-a)=U:=⟨_,rfl⟩;obtain⟨V,hV⟩:∃V,(d.drop m).take (b-m)=V:=⟨_,rfl⟩;obtain⟨Z,hZ⟩:∃Z,d.drop b=Z:=⟨_,rfl⟩;rw[hA,hU,hV,hZ]at X;rw[hA]at lA;rw[hU]at E s1;rw[hV]at I s2;subst X;have aB:U≠[]:=λe=>by rw[e]at E;simp at E;omega
 have Y:V≠[]:=λe=>by rw[e]at I;simp at I;omega
 have:=Ro _ wx g cap n wb len A U V Z (Ao _) aB Y h2.symm h1 (λp O=>hT p (h3.bI.DD (Ga len) (by simp at O ⊢;rcases O with O|O<;>simp[O]))) s1 s2 hl (h4.bJ hw λe=>L e) L W;rw[lA,E,I,show a+(m-a)=m by omega,show m+(b-m)=b by omega]at this;refine this.k ?_;rintro w'⟨M,q1,q2,q3,q4,q5⟩;have hN:=Tq (lt:=AE len) (A:=A) (M:=U++V) (M':=M) (Z:=Z) (by rw[B3,E,I];exact q2) q3;have ee:A++(U++V)++Z=A++U++V++Z:=by simp
 rw[ee,lA,B3,E,I,show a+(m-a+(b-m))=b by omega]at hN;refine⟨rfl,A++M++Z,⟨q1,hN.1.trans h2,h3.AH ?_,h4.tr q5⟩,hN⟩;have:=((Bt.C (lt:=AE len) A).av q4).av (Bt.C Z)
 rwa [ee]at this
def XP(w:gx)(g cap wb:Nat)(len:Int)(l:gD Pu)(Y:l.length<=4294967296)(h:B1 w (AA g l.length cap) l)(hT:∀p∈l,Ay p.2.1)(hl:1<=len/\len<=4611686018427387904)(hw:A8 w wb 0 (A0 len))(aM:wb≠g):
 Ag 202 #[AA g l.length cap,A0 l.length,.func (Fn.func 155) #[] #[A5 wb]] w (Aj (.tuple #[]) λw'=>B1 w' (AA g l.length cap) (Em (AE len) l)/\A4 (One g) w w'):=by
 obtain⟨n,hn⟩:∃n,l.length=n:=⟨_,rfl⟩;have h0:Hid (Way g cap n len l w w l):=by unfold B1 at h;rw[hn]at h;exact⟨h,hn,Bt.C _,A4.C _ _⟩
 rw[hn]at Y ⊢;have aS:Hid (∀wx z a b,a<b->b<=n->Way g cap n len l w wx z->_):=λwx z a b q1 q2 q3=>WT hT hl hw aM Y wx z a b q1 q2 q3;have aL:Hid (∀wx z a m b,a<m->m<b->b<=n->Way g cap n len l w wx z->_->_->_):=λwx z a m b q1 q2 q3 q4 q5 q6=>WS hT hl hw aM Y wx z a m b q1 q2 q3 q4 q5 q6;have aV:Hid (∀wx,Ag 243 #[AA g n cap,A0 n,A0 n,.func (Fn.func 155) #[] #[A5 wb]] wx (Aj (.tuple #[]) λw'=>wx=w')):=λwx=>Ua wx _ _ n n (by omega) (by omega);have a5:Hid (∀B C,B<=n->2*B=C->_):=λB C q1 q2=>XQ (B:=B) (C:=C) Y q1 q2;have a7:Hid (∀a b c m B C:Nat,a<=n->B<=n->2*B=C->a+C=b->b+C=c->a+B=m->(wrap64 ((a:Int)+(B:Int))=(m:Int)/\IntKind.i64.wrap ((a:Int)+(B:Int))=(m:Int))/\(wrap64 ((b:Int)+(C:Int))=(c:Int)/\IntKind.i64.wrap ((b:Int)+(C:Int))=(c:Int))):=λa b c m B C q1 q2 q3 q4 q5 q6=>⟨GY (by omega) (by omega),GY (by omega) (by omega)⟩
 have a0:Hid (∀a b c:Nat,a<=n->a+20=b->b+20=c->wrap64 ((b:Int)+20)=(c:Int)/\IntKind.i64.wrap ((b:Int)+20)=(c:Int)):=λa b c O X hc=>GY (by omega) (by omega);have aY:Hid (∀w' z,Way g cap n len l w w' z->B6 (AE len) z->B1 w' (AA g n cap) (Em (AE len) l)/\A4 (One g) w w'):=λw' z q1 q2=>by
  obtain⟨a1,a2,a3,a4⟩:=q1;have e1:=(Ga len).eN q2 a3;refine⟨?_,a4⟩;unfold B1;rw[<-e1,a2];exact a1
 go_enter func202,ntmps202
 go_wp2;go_loopw [7,8] (λav bv wr=>∃(j:Nat) (z:gD Pu),av=A0 ((j*20:Nat):Int)/\bv=A0 ((j*20+20:Nat):Int)/\Hid (j*20<=n/\Way g cap n len l w wr z/\ET (AE len) 20 (λi=>i<j) z)) (λ_ bv _=>n+21-(intOf bv).toNat)
 ·exact⟨0,l,by go_num,by go_num,Ch _,h0.o,λi hi=>absurd hi (KC i)⟩
 ·obtain⟨j,z,rfl,rfl,hI⟩:=hrel;have⟨i1,i2,i3⟩:=hI.o;obtain⟨a,O⟩:∃a,j*20=a:=⟨_,rfl⟩;obtain⟨b,X⟩:∃b,a+20=b:=⟨_,rfl⟩;obtain⟨c,hc⟩:∃c,b+20=c:=⟨_,rfl⟩;have aA:(j+1)*20=b:=by rw[I5,O];exact X
  have aD:=A1 (And.intro O (And.intro aA hc));rw[O]at i1 ⊢;rw[X];have⟨z1,z2⟩:=a0.o a b c i1 X hc;have E:=i2.2.1;by_cases I:b<=n
  ·have aI:=Qy.2 I;have aZ:=A1 (aS.o wr z a b (by rw[<-X];exact Nat.lt_add_of_pos_right (by decide)) I i2);have K:Hid (∀d,GU (AE len) a b z d->ET (AE len) 20 (λi=>i<j+1) d):=λd W=>i3.ba (by rw[O];exact W) (.inl (by rw[O];exact X.symm)) (by rw[O,E];exact i1);have aR:=A1 I;go_wp2_with (go_at_call 243;refine aZ.k ?_;rintro w2⟨d,hW,W⟩;have aG:=A1 hW;have L:=A1 (K.o d W));go_roundw
   ·exact⟨j+1,d,by rw[aD.o.2.1],by rw[aD.o.2.1,aD.o.2.2],by rw[aD.o.2.1];exact aR.o,aG.o,L.o⟩
   ·exact A0u aR.o aD.o.2.2
  ·have aI:¬((b:Int)<=(n:Int)):=λh=>I (Qy.1 h);have K:Hid (∀d,GU (AE len) a n z d->ET (AE len) 20 (λ_=>True) d):=λd W=>(i3.ba (by rw[O];exact W) (.inr ⟨E.symm,by rw[O,E];rw[X];exact Fm (Nat.lt_of_not_le I)⟩) (by rw[O,E];exact i1)).eb (by rw[W.1,aA,E];exact Fm (Nat.lt_of_not_le I))
   have aZ:Hid (Ag 243 #[AA g n cap,A0 a,A0 n,.func (Fn.func 155) #[] #[A5 wb]] wr (Aj (.tuple #[]) λw'=>∃d,Way g cap n len l w w' d/\GU (AE len) a n z d)):=by
    by_cases aK:a<n
    ·exact aS.o wr z a n aK (Ao _) i2
    ·obtain rfl:a=n:=LU i1 (J6 aK);refine(aV.o wr).k ?_;rintro w' rfl;exact⟨rfl,z,i2,GU.aw (by rw[Nx,Fp];exact List.Pairwise.nil)⟩
   go_wp2_with (go_at_call 243;refine aZ.k ?_;rintro w2⟨d,hW,W⟩;have aG:=A1 hW;have L:=A1 (K.o d W));go_loopw [6] (λbv wr=>∃(B:Nat) (z:gD Pu),bv=A0 (B:Int)/\Hid (20<=B/\Way g cap n len l w wr z/\ET (AE len) B (λ_=>True) z)) (λbv _=>n-(intOf bv).toNat)
   ·exact⟨20,d,by go_num,Ao _,aG.o,L.o⟩
   ·obtain⟨B,aH,rfl,hI⟩:=hrel;have⟨i1,i2,i3⟩:=hI.o;by_cases aE:B<n
    ·have aU:=Fv.2 aE;obtain⟨C,hC⟩:∃C,2*B=C:=⟨_,rfl⟩;have⟨z1,z2,z3,z4⟩:=a5.o B C (Fm aE) hC;have aN:=A1 (And.intro i1 (And.intro i2 i3));have aJ:=A1 aE;have a6:=A1 hC;generalize wr=w3 at aN ⊢;go_wp2;go_loopw [7,8] (λav bv wr=>∃(j:Nat) (z:gD Pu),av=A0 ((j*C:Nat):Int)/\bv=A0 ((j*C+C:Nat):Int)/\Hid (j*C<=n/\Way g cap n len l w wr z/\ET (AE len) C (λi=>i<j) z/\ET (AE len) B (λi=>2*j<=i) z)) (λ_ bv _=>n+C+1-(intOf bv).toNat)
     ·exact⟨0,aH,by simp,by simp,by simp,aN.o.2.1,λi hi=>absurd hi (KC i),λi _=>aN.o.2.2 i trivial⟩
     ·obtain⟨j,z,rfl,rfl,hI⟩:=hrel;have⟨i1,i2,i3,i4⟩:=hI.o;obtain⟨a,O⟩:∃a,j*C=a:=⟨_,rfl⟩;obtain⟨b,X⟩:∃b,a+C=b:=⟨_,rfl⟩;obtain⟨c,hc⟩:∃c,b+C=c:=⟨_,rfl⟩;obtain⟨m,aF⟩:∃m,a+B=m:=⟨_,rfl⟩;have hC:=a6.o;(have aA:(j+1)*C=b:=by rw[I5,O,VL];exact X);(have aP:2*j*B=a:=by rw[<-O,<-hC,LS 2 j,Qg]);(have aQ:(2*j+1)*B=m:=by rw[I5,aP,VL];exact aF);(have aO:2*(j+1)*B=b:=by rw[<-aA,<-hC,LS 2 (j+1),Qg]);rw[O]at i1 ⊢;rw[X];have⟨⟨y1,y2⟩,y3,y4⟩:=a7.o a b c m B C i1 (Fm aJ.o) hC X hc aF;have s1:=i4 (2*j) (Ao _);have s2:=i4 (2*j+1) (ER _);rw[aP]at s1;rw[aQ]at s2;have E:=i2.2.1;have⟨k1,k2,k3,k4,k5⟩:=A3x a aN.o.1;rw[aF]at k1 k2 k3 k4;rw[hC]at k2 k4 k5;rw[X]at k2 k4;have aD:=A1 (And.intro aA (And.intro hc k5));by_cases I:b<=n
      ·have aI:=Qy.2 I;have aT:=A1 (aL.o wr z a m b k1 k2 I i2 (LG s1 k3) (LG s2 k4));have K:Hid (∀d,GU (AE len) a b z d->ET (AE len) C (λi=>i<j+1) d/\ET (AE len) B (λi=>2*(j+1)<=i) d):=λd W=>
        ⟨i3.ba (by rw[O];exact W) (.inl (by rw[O];exact X.symm)) (by rw[O,E];exact i1),ET.gi (λi hi=>i4 i (AP (Nat.mul_le_mul_left 2 (ER j)) hi)) W (by rw[aO];exact Ao _)⟩
       have aR:=A1 I;go_wp2_with (go_at_call 244;refine aT.k ?_;rintro w4⟨d,hW,W⟩;have aG:=A1 hW;have L:=A1 (K.o d W));go_roundw
       ·exact⟨j+1,d,by rw[aD.o.1],by rw[aD.o.1,aD.o.2.1],by rw[aD.o.1];exact aR.o,aG.o,L.o.1,L.o.2⟩
       ·exact A0t aR.o aD.o.2.2 aD.o.2.1
      ·have aI:¬((b:Int)<=(n:Int)):=λh=>I (Qy.1 h);have⟨e1,e2,e3⟩:=A17 (a:=a) (B:=B) (n:=n) (by rw[hC,X];exact I);rw[hC,X]at e1;rw[aF]at e2 e3;have K:Hid (∀d,GU (AE len) a n z d->ET (AE len) C (λ_=>True) d):=λd W=>(i3.ba (by rw[O];exact W) (.inr ⟨E.symm,by rw[O,E,X];exact e1⟩) (by rw[O,E];exact i1)).eb (by rw[W.1,aA,E];exact e1)
       have aB:=A1 (And.intro k5 (And.intro hC aN.o.1));by_cases hm:m<n
       ·have aX:=Fv.2 hm;have aT:=A1 (aL.o wr z a m n k1 hm (Ao _) i2 (LG s1 k3) (LG s2 e2));go_wp2_with (go_at_call 244;refine aT.k ?_;rintro w4⟨d,hW,W⟩;have aG:=A1 hW;have L:=A1 (K.o d W));go_roundw
        ·exact⟨C,d,rfl,aB.o.1,aG.o,L.o⟩
        ·exact TG aJ.o aB.o.2.2 aB.o.2.1
       ·have aX:¬((m:Int)<(n:Int)):=λh=>hm (Fv.1 h);have L:=A1 (K.o z (GU.aw (LG s1 (e3 hm))));have aG:=A1 i2;go_wp2;go_roundw
        ·exact⟨C,z,rfl,aB.o.1,aG.o,L.o⟩
        ·exact TG aJ.o aB.o.2.2 aB.o.2.1
    ·have aU:¬((B:Int)<(n:Int)):=λh=>aE (Fv.1 h);have aW:=A1 (aY.o wr aH i2 (i3.Cy (by rw[i2.2.1];exact J6 aE)));go_wp2;go_end0;exact⟨rfl,aW.o⟩
end
def XX(N:Nat)(hN:N<=4294967296):Gc N:=by
 intro w v wb len l hn h z I E d;have ST:Hid (Ag 202 #[v,A0 l.length,.func (Fn.func 155) #[] #[A5 wb]] w (Aj (.tuple #[]) λw'=>B1 w' v (Em (AE len) l)/\A4 (λk=>v.oB k) w w')):=by
  by_cases O:l.length<=19
  ·exact XR w v wb len l O h z I E d
  ·obtain⟨av,cap,rfl,X,L,h3,-,-⟩:=B8 h;obtain⟨g,rfl⟩:=h3 (by omega);refine(XP w g cap wb len l (by omega) h z I E (d g rfl)).k ?_;rintro w'⟨Y,q2⟩;exact⟨rfl,Y,q2.ai λk _ W=>by have e:=W;subst e;rfl⟩
 obtain⟨av,cap,rfl,X,L,-⟩:=B8 h
 go_enter func154,ntmps154
 go_wp2_with (go_at_call 202;refine ST.k ?_;rintro w2⟨hp,hc⟩;have aB:=A1 hp;have aA:=A1 hc);go_end0;exact⟨rfl,aB.o,aA.o⟩
end
section
open Go.ChangeAt Go.ChangeShapes Go.RowKit Go.WideShapes
def Tryz.own:ownKnob Tryz.prog.godebug=none:=by kernel_rfl
def Tryz.dZ:Tryz.prog.globalNamed "tides/files.letters" = some 0:=by kernel_rfl
def Tryz.dV:Tryz.prog.globalNamed "internal/strconv.uint64pow10" = some 3:=by kernel_rfl
def Tryz.eh:Tryz.prog.globalNamed "strconv.ErrRange" = some 2:=by kernel_rfl
def Tryz.eE:Tryz.prog.globalNamed "strconv.ErrSyntax" = some 1:=by kernel_rfl
def Tryz.fq:(Tryz.prog.globals[0]?).map (·.type)=some 201:=by kernel_rfl
def Tryz.e4:(Tryz.prog.globals[3]?).map (·.type)=some 333:=by kernel_rfl
def Tryz.eZ:(Tryz.prog.globals[2]?).map (·.type)=some 197:=by kernel_rfl
def Tryz.ft:(Tryz.prog.globals[1]?).map (·.type)=some 197:=by kernel_rfl
def Tryz.e5:Tryz.prog.cellsOf 201=5:=by kernel_rfl
def Tryz.dL:Tryz.prog.cellsOf 9=1:=by kernel_rfl
def Tryz.fN:Tryz.prog.cellsOf 333=20:=by kernel_rfl
def Tryz.fD:Tryz.prog.cellsOf 275=1:=by kernel_rfl
def Tryz.dN:Tryz.prog.cellsOf 3=1:=by kernel_rfl
def Tryz.ed:Tryz.prog.cellsOf 325=1:=by kernel_rfl
def Tryz.laidOut:laidOutB Tryz.prog=true:=by kernel_rfl
def Tryz.star: "*" ++ "errors.errorString" = "*errors.errorString":=by decide
def Tryz.eJ(u:TypeId)(h:Tryz.prog.typeName? 3 u=some "*errors.errorString"):u=323:=
 typeName_ptr_named (nm:= "errors.errorString") (by rw[Tryz.star];kernel_rfl) (by kernel_rfl) (by decide) u (by rw[Tryz.star];exact h)
def A0K{d:Nat}{w:gx}{cs:gD gy}{s:gD (gD UInt8)}{p:gD MemPlace}(h:DataW.trod (λ_=>()) Tryz.prog w 0 (λ_=>true) false d 201 cs=some (.agg (s.map λx=>.lit (.string x)),p))(k:Nat)(I:k<5)(x:gD UInt8)(W:s[k]?=some x):cs[k]?=some (.string ⟨x.toArray⟩):=by
 cases d with
 | zero=>simp[DataW.trod]at h
 | succ d=>
  simp only[DataW.trod,underlying201,Tryz.dL,Tryz.e5,Qf]at h;split at h
  ·have⟨xs,hm,hq⟩:=A4j.1 h;have E:xs.map (·.1)=s.map λx=>DataW.lit (.string x):=by
    have:=Ep Prod.fst hq;simpa using this
   have⟨b,hb,hf⟩:=Lib.mapM_at hm k k (by simp[I]);obtain⟨s',O,rfl,_⟩:=DataW.trod_string GQ hf;have L:cs[k]?=some (.string s'):=by
    have:=Ep (·[0]?) O;simpa[List.getElem?_take,List.getElem?_drop] using this
   (have z:(xs.map (·.1))[k]?=some (DataW.lit (.string s'.data.toList)):=by simp[hb]);rw[E]at z;simp[W]at z;rw[L,z]
  ·cases h
def A0W{W:gx}(h:laidMetH Tryz.prog Rows.writesUptoRow.laid W):Lets W.heap.size W:=by
 have h0:=h;have h3:laidMet Tryz.prog (("internal/strconv.uint64pow10",Lib.tabData .u64 Lib.pow10Tab):: [("strconv.ErrRange",Rows.laid_strconv_ErrRange),("strconv.ErrSyntax",Rows.laid_strconv_ErrSyntax),("tides/files.letters",Rows.laid_tides_files_letters)]) W:=laidMet.tail (laidMet.tail h0);have X:Lib.TabIs Tryz.prog W "internal/strconv.uint64pow10" .u64 Lib.pow10Tab:=Lib.tabIs_of_head Tryz.dV Tryz.e4 underlying333 underlying275 Tryz.fD Tryz.fN h3;have h6:=laidMet.tail (laidMet.tail (laidMet.tail h3));obtain⟨ps,⟨g',t',cs,fuel,p,q,L,O,d,hd,_,_⟩,_⟩:=h6;obtain rfl:=Qb (Tryz.dZ.symm.trans L);obtain rfl:=Qb (Tryz.fq.symm.trans O);have E:=A0K (s:=[[],[108],[115],[105],[100]]) hd;have z:∀k:Nat,1<=k->k<=4->W.cell? ⟨0,k,none⟩=some (.string ⟨(Dh k).toArray⟩):=λk h1 h2=>by
  rw[VC Tryz.dZ d k];have:k=1\/k=2\/k=3\/k=4:=by omega
  rcases this with rfl|rfl|rfl|rfl
  ·simpa[Dh] using E 1 (by omega) _ rfl
  ·simpa[Dh] using E 2 (by omega) _ rfl
  ·simpa[Dh] using E 3 (by omega) _ rfl
  ·simpa[Dh] using E 4 (by omega) _ rfl
 have aA:=GO W _ (z 1 (by omega) (by omega));have Y:=X.cell Tryz.dV 0 (by decide);have I:=GO W _ Y;refine⟨Ao _,λw' hb=>⟨λk h1 h2=>?_,?_⟩⟩
 ·rw[<-z k h1 h2];exact hb.cell aA
 ·unfold Lib.TabIs at X ⊢;rw[<-X];unfold World.var?;rw[Tryz.dV];simp only[Option.bind_some];rw[hb.block _ I]
def A0X{W:gx}(h:laidMetH Tryz.prog Rows.writesUptoRow.laid W):Iy W:=by
 have E:=h;have d:=laidMet.tail (laidMet.tail (laidMet.tail E));have z:=laidMet.tail d;have⟨a0,_,hva,_⟩:=laid_sentinel d Tryz.eh Tryz.eZ underlying197 Tryz.eJ underlying323 underlying325 rfl rfl GQ Tryz.ed Tryz.dL;have⟨b0,_,hvb,_⟩:=laid_sentinel z Tryz.eE Tryz.ft underlying197 Tryz.eJ underlying323 underlying325 rfl rfl GQ Tryz.ed Tryz.dL;exact⟨⟨_,by simpa using VC Tryz.eE hvb 0,.inr ⟨_,_,rfl⟩⟩,_,by simpa using VC Tryz.eh hva 0,.inr ⟨_,_,rfl⟩⟩
def JX{z:Int}(h:(Lit.int .i64 z).wf=true):Ay z:=by
 simp[Lit.wf]at h;have e:IntKind.i64.min = -9223372036854775808:=rfl;rw[e]at h;exact h
abbrev Xn:ByteArray:={data:=#[105,110,118,97,108,105,100,32,115,121,110,116,97,120]}
abbrev YF:ByteArray:={data:=#[118,97,108,117,101,32,111,117,116,32,111,102,32,114,97,110,103,101]}
def Kd(v:Array gy):Obj->Obj
 | .cells _ t frozen=>.cells v t frozen
 | o=>o
def Iu(os:Os)(W:gx):Prop:=W =
 let w0:=World.holding Tryz.prog os ⟨#[.cells #[.string Xn] 325,.cells #[.string YF] 325],#[],[]⟩
 let h0:=w0.heap
 let h1:=h0.modify 0 (Kd #[.string ⟨#[]⟩,.string ⟨#[108]⟩,.string ⟨#[115]⟩,.string ⟨#[105]⟩,.string ⟨#[100]⟩])
 let h2:=h1.modify 1 (Kd #[.iface 323 (A5 ((World.holding Tryz.prog default ⟨#[],#[],[]⟩).heap.size))])
 let h3:=h2.modify 2 (Kd #[.iface 323 (A5 ((World.holding Tryz.prog default ⟨#[],#[],[]⟩).heap.size+1))])
 let h4:=h3.modify 3 (Kd #[.int .u64 1,.int .u64 10,.int .u64 100,.int .u64 1000,.int .u64 10000,.int .u64 100000,.int .u64 1000000,.int .u64 10000000,.int .u64 100000000,.int .u64 1000000000,.int .u64 10000000000,.int .u64 100000000000,.int .u64 1000000000000,.int .u64 10000000000000,.int .u64 100000000000000,.int .u64 1000000000000000,.int .u64 10000000000000000,.int .u64 100000000000000000,.int .u64 1000000000000000000,.int .u64 10000000000000000000])
 let h5:=h4.modify 5 (Kd #[.int .u8 0,.int .u8 1,.int .u8 28,.int .u8 2,.int .u8 29,.int .u8 14,.int .u8 24,.int .u8 3,.int .u8 30,.int .u8 22,.int .u8 20,.int .u8 15,.int .u8 25,.int .u8 17,.int .u8 4,.int .u8 8,.int .u8 31,.int .u8 27,.int .u8 13,.int .u8 23,.int .u8 21,.int .u8 19,.int .u8 16,.int .u8 7,.int .u8 26,.int .u8 12,.int .u8 18,.int .u8 6,.int .u8 11,.int .u8 5,.int .u8 10,.int .u8 9])
 let h6:=h5.modify 6 (Kd #[.int .u8 0,.int .u8 1,.int .u8 56,.int .u8 2,.int .u8 57,.int .u8 49,.int .u8 28,.int .u8 3,.int .u8 61,.int .u8 58,.int .u8 42,.int .u8 50,.int .u8 38,.int .u8 29,.int .u8 17,.int .u8 4,.int .u8 62,.int .u8 47,.int .u8 59,.int .u8 36,.int .u8 45,.int .u8 43,.int .u8 51,.int .u8 22,.int .u8 53,.int .u8 39,.int .u8 33,.int .u8 30,.int .u8 24,.int .u8 18,.int .u8 12,.int .u8 5,.int .u8 63,.int .u8 55,.int .u8 48,.int .u8 27,.int .u8 60,.int .u8 41,.int .u8 37,.int .u8 16,.int .u8 46,.int .u8 35,.int .u8 44,.int .u8 21,.int .u8 52,.int .u8 32,.int .u8 23,.int .u8 11,.int .u8 54,.int .u8 26,.int .u8 40,.int .u8 15,.int .u8 34,.int .u8 20,.int .u8 31,.int .u8 10,.int .u8 25,.int .u8 14,.int .u8 19,.int .u8 9,.int .u8 13,.int .u8 8,.int .u8 7,.int .u8 6])
 {w0 with heap:=h6}
def A0V(os:Os)(W:gx)(h:Iu os W)(args:Array gy):laidMet Tryz.prog Rows.writesUptoRow.laid (W.forCall (λ_ _=>0) ⟨#[],args,[]⟩).memory:=by
 unfold Iu at h;subst h;exact laidMet_of_run' 8 (by kernel_rfl) (by kernel_rfl)
def Tryz.eo:Tryz.prog.cellsOf 34=5:=by kernel_rfl
def Tryz.fc:Tryz.prog.cellsOf 23=4:=by kernel_rfl
def A0Y{W:gx}(h:laidMetH Tryz.prog Rows.writesUptoRow.laid W):Env W.heap.size W:=by
 have X:=A0W h;have E:=A0X h;obtain⟨⟨L,d,I⟩,Y,z,O⟩:=E;exact⟨X,⟨⟨L,d,I⟩,Y,z,O⟩,GO W _ d,GO W _ z⟩
def A3p{H:Type}(l:gD (DataW H)):l.length<=Rows.uptoBulkAll l:=by
 induction l with
 | nil=>simp
 | cons x r ih=>
  have:1<=Rows.uptoBulk x:=by
   cases x with
   | lit l=>cases l<;>simp[Rows.uptoBulk]
   | nil=>simp[Rows.uptoBulk]
   | ptr d=>simp[Rows.uptoBulk]
   | slice elems spare=>simp[Rows.uptoBulk]
   | agg parts=>simp[Rows.uptoBulk]
   | iface t d=>simp[Rows.uptoBulk]
   | map entries=>simp[Rows.uptoBulk]
   | held h=>simp[Rows.uptoBulk]
  simp only[Rows.uptoBulkAll,CA];omega
section
variable{H:Type}{enc:TypeId×gy->H}{W:gx}{sp:Nat->Bool}{aA:Nat}
def A3o(l:gD (DataW H))(h:∀x∈l,6<=Rows.uptoBulk x):l.length*6<=Rows.uptoBulkAll l:=by
 induction l with
 | nil=>simp
 | cons x r ih=>
  have h1:=h x (BI ..);have h2:=ih λy d=>h y (BC _ d);simp only[Rows.uptoBulkAll,CA];omega
end
def Tryz.fP:Tryz.prog.cellsOf 26=1:=by kernel_rfl
section
variable{H:Type}{enc:TypeId×gy->H}{W:gx}{sp:Nat->Bool}{aA:Nat}
def Xd{c:gy}{x:DataW H×gD MemPlace}(h:DataW.trod enc Tryz.prog W 0 sp true aA 26 [c]=some x):EA W.heap.size W c:=by
 rcases Deep.open_slice Hk h with⟨I,-⟩|⟨a,len,cap,m,n,E,Pl,I,-,hlc,Y,hm,-,X⟩
 ·obtain rfl:c=.slice none 0 0:=(HM I).1;exact EA.bU _ _ ⟨none,0,rfl,by simp,λj O=>by simp at O⟩
 ·obtain rfl:c=.slice (some a) len cap:=(HM I).1;rw[Tryz.dN]at X;by_cases h0:len=0
  ·subst h0;exact⟨[],⟨some a,cap,rfl,by simp,λj O=>by simp at O⟩,by simp,λad n c x hn e _=>absurd (by cases e;rfl) hn⟩
  ·have key:∀i,i<len->∃k,W.cell? (a.add (i*1))=some (.int .i64 k)/\Ay k:=λi L=>by
    have⟨cs',hc,ht⟩:=X i (by rw[hm];split<;>omega);obtain⟨k,e1,-,w1⟩:=Jd HZ ht;obtain⟨hl,-,z⟩:=World.cells?_some hc;obtain rfl:cs'=[.int .i64 k]:=e1;have:=z 0 (by decide);exact⟨k,by simpa[Addr.add] using this,JX w1⟩
   obtain⟨g,o,spot⟩:=a;obtain⟨k0,d,-⟩:=key 0 (by omega);have aB:spot=none:=by
    cases spot with
    | none=>rfl
    | some s=>
     simp[Addr.add,World.cell?]at d;split at d<;>cases d
   subst aB;have hg:g<W.heap.size:=by
    have:=GO W _ d;simpa[Addr.add] using this
   have ha:∀i,(⟨g,o,none⟩:Addr).add (i*1)=⟨g,o+i,none⟩:=λi=>by
    unfold Addr.add;by_cases h1:i=0<;>simp[h1]
   obtain⟨f,hf⟩:∃f:Nat->Int,∀i,i<len->W.cell? ⟨g,o+i,none⟩=some (.int .i64 (f i))/\Ay (f i):=by
    refine⟨λi=>if L:i<len then (key i L).choose else 0,λi L=>?_⟩;have h2:=(key i L).choose_spec;simp only[L,PM];exact⟨by rw[<-ha];exact h2.1,h2.2⟩
   (have hl:((List.range len).map f).length=len:=by simp);refine⟨(List.range len).map f,⟨some ⟨g,o,none⟩,cap,by rw[hl],by rw[hl];unfold maxLen at Y;omega,λj O=>⟨g,o,rfl,hg,?_⟩⟩,λt ht=>?_,λad n c x _ e1 e2=>by cases e1;cases e2;exact hg⟩
   ·rw[hl]at O;simpa using(hf j O).1
   ·obtain⟨i,L,rfl⟩:=Cl.1 ht;exact(hf i (KH.1 L)).2
def Tb{cs:gD gy}{x:DataW H×gD MemPlace}(h:DataW.trod enc Tryz.prog W 0 sp true aA 34 cs=some x):
 ∃z a b c tv,cs=[.int .i64 z,.int .i64 a,.int .i64 b,.int .i64 c,tv]/\Ay a/\Ay b/\Ay c/\6<=Rows.uptoBulk x.1/\EA W.heap.size W tv:=by
 obtain⟨xs,n,rfl,I,L,hx,E⟩:=DataW.trod_struct underlying34 h;rw[Tryz.eo]at L;have hx5:xs.length=5:=hx;have d:6<=Rows.uptoBulk x.1:=by
  have h5:=A3p (xs.map (·.1));rw[Fq]at h5;rw[I];simp only[Rows.uptoBulk];omega
 match cs,L with
 | [c0,c1,c2,c3,c4],_=>
 have f0:DataW.trod enc Tryz.prog W 0 sp true n 3 (([c0,c1,c2,c3,c4].drop 0).take (Tryz.prog.cellsOf 3))=xs[0]?:=E 0 _ rfl;have f1:DataW.trod enc Tryz.prog W 0 sp true n 3 (([c0,c1,c2,c3,c4].drop 1).take (Tryz.prog.cellsOf 3))=xs[1]?:=E 1 _ rfl;have f2:DataW.trod enc Tryz.prog W 0 sp true n 3 (([c0,c1,c2,c3,c4].drop 2).take (Tryz.prog.cellsOf 3))=xs[2]?:=E 2 _ rfl;have f3:DataW.trod enc Tryz.prog W 0 sp true n 3 (([c0,c1,c2,c3,c4].drop 3).take (Tryz.prog.cellsOf 3))=xs[3]?:=E 3 _ rfl;have f4:DataW.trod enc Tryz.prog W 0 sp true n 26 (([c0,c1,c2,c3,c4].drop 4).take (Tryz.prog.cellsOf 26))=xs[4]?:=E 4 _ rfl;rw[Tryz.fP]at f4;rw[Tryz.dN]at f0 f1 f2 f3;rw[Dz (by omega)]at f0 f1 f2 f3 f4;obtain⟨z,O,-,-⟩:=Jd HZ f0;obtain⟨a,e1,-,X⟩:=Jd HZ f1;obtain⟨b,e2,-,w2⟩:=Jd HZ f2;obtain⟨c,e3,-,Y⟩:=Jd HZ f3;obtain rfl:c0=.int .i64 z:=(HM (show [c0]=[.int .i64 z] from O)).1;obtain rfl:c1=.int .i64 a:=(HM (show [c1]=[.int .i64 a] from e1)).1;obtain rfl:c2=.int .i64 b:=(HM (show [c2]=[.int .i64 b] from e2)).1;obtain rfl:c3=.int .i64 c:=(HM (show [c3]=[.int .i64 c] from e3)).1;exact⟨z,a,b,c,c4,rfl,JX X,JX w2,JX Y,d,Xd f4⟩
def Ya{cs:gD gy}{x:DataW H×gD MemPlace}(h:DataW.trod enc Tryz.prog W 0 sp true aA 23 cs=some x):
 ∃ld wa room A7,cs=[.int .i64 ld,.int .i64 wa,.int .i64 room,.int .i64 A7]/\Ay A7/\Ay room:=by
 obtain⟨xs,n,rfl,-,E,X,z⟩:=DataW.trod_struct underlying23 h;rw[Tryz.fc]at E;have hx4:xs.length=4:=X
 match cs,E with
 | [c0,c1,c2,c3],_=>
 have f0:DataW.trod enc Tryz.prog W 0 sp true n 3 (([c0,c1,c2,c3].drop 0).take (Tryz.prog.cellsOf 3))=xs[0]?:=z 0 _ rfl;have f1:DataW.trod enc Tryz.prog W 0 sp true n 3 (([c0,c1,c2,c3].drop 1).take (Tryz.prog.cellsOf 3))=xs[1]?:=z 1 _ rfl;have f2:DataW.trod enc Tryz.prog W 0 sp true n 3 (([c0,c1,c2,c3].drop 2).take (Tryz.prog.cellsOf 3))=xs[2]?:=z 2 _ rfl;have f3:DataW.trod enc Tryz.prog W 0 sp true n 3 (([c0,c1,c2,c3].drop 3).take (Tryz.prog.cellsOf 3))=xs[3]?:=z 3 _ rfl;rw[Tryz.dN]at f0 f1 f2 f3;rw[Dz (by omega)]at f0 f1 f2 f3;obtain⟨a,I,-,-⟩:=Jd HZ f0;obtain⟨b,Y,-,w1⟩:=Jd HZ f1;obtain⟨c,O,-,w2⟩:=Jd HZ f2;obtain⟨d,e3,-,L⟩:=Jd HZ f3;obtain rfl:c0=.int .i64 a:=(HM (show [c0]=[.int .i64 a] from I)).1;obtain rfl:c1=.int .i64 b:=(HM (show [c1]=[.int .i64 b] from Y)).1;obtain rfl:c2=.int .i64 c:=(HM (show [c2]=[.int .i64 c] from O)).1;obtain rfl:c3=.int .i64 d:=(HM (show [c3]=[.int .i64 d] from e3)).1;exact⟨a,b,c,d,rfl,JX L,JX w2⟩
def Yp{v:gy}{d:DataW H}{ps:gD MemPlace}(hv:∃a len cap,v=.slice a len cap)(h:DataW.Trod enc Tryz.prog W 0 (λ_=>true) true 24 v d ps)(hd:Rows.uptoBulk d<=1048576):
 ∃g o n cap,Q8 W g o n/\n<=180000/\(n≠0->g<W.heap.size)/\(v=.slice (some ⟨g,o,none⟩) n cap\/(n=0/\∃x,v=.slice x 0 cap)):=by
 obtain⟨ad,X,cp,rfl⟩:=hv;obtain⟨aA,h⟩:=h;rcases Deep.open_slice underlying24 h with⟨L,-⟩|⟨a,len,cap,m,n,E,Pl,L,-,hlc,-,hm,hx,aB⟩
 ·simp[Value.cells]at L;obtain⟨rfl,rfl,rfl⟩:=L;exact⟨0,0,0,0,λi O=>absurd O (KC _),by decide,λh=>absurd rfl h,.inr ⟨rfl,none,rfl⟩⟩
 ·simp[Value.cells]at L;obtain⟨rfl,rfl,rfl⟩:=L;rw[Tryz.eo]at aB;have aD:X<=180000:=by
   have e:d=.slice ((List.range X).map E) ((List.range (m-X)).map λj=>E (X+j)):=Ep Prod.fst hx;rw[e]at hd;simp only[Rows.uptoBulk]at hd;have:=A3o ((List.range X).map E) λx hx=>by
    obtain⟨i,O,rfl⟩:=Cl.1 hx;have hi':=KH.1 O;have⟨cs',hc,ht⟩:=aB i (by rw[hm];split<;>omega);obtain⟨_,_,_,_,_,-,-,-,-,h6,-⟩:=Tb ht;exact h6
   simp only[Fq,A4A]at this;omega
  by_cases h0:X=0
  ·subst h0;exact⟨0,0,0,cp,λi O=>absurd O (KC _),by decide,λh=>absurd rfl h,.inr ⟨rfl,some a,rfl⟩⟩
  ·have key:∀i,i<X->∃kd x y z tv,Ay x/\Ay y/\Ay z/\W.cell? ((a.add (i*5)).add 0)=some (.int .i64 kd)/\W.cell? ((a.add (i*5)).add 1)=some (.int .i64 x)/\W.cell? ((a.add (i*5)).add 2)=some (.int .i64 y)/\W.cell? ((a.add (i*5)).add 3)=some (.int .i64 z)/\W.cell? ((a.add (i*5)).add 4)=some tv/\EA W.heap.size W tv:=λi O=>by
    have⟨cs',hc,ht⟩:=aB i (by rw[hm];split<;>omega);obtain⟨-,-,I⟩:=World.cells?_some hc;obtain⟨kd,x,y,z,tv,rfl,ix,iy,iz,-,Y⟩:=Tb ht;exact⟨kd,x,y,z,tv,ix,iy,iz,I 0 (by decide),I 1 (by decide),I 2 (by decide),I 3 (by decide),I 4 (by decide),Y⟩
   obtain⟨g,o,spot⟩:=a;obtain⟨kd,_,_,_,_,-,-,-,k0,-⟩:=key 0 (by omega);have aE:spot=none:=by
    cases spot with
    | none=>rfl
    | some s=>
     simp[Addr.add,World.cell?]at k0;split at k0<;>cases k0
   subst aE;have hg:g<W.heap.size:=by
    have:=GO W _ k0;simpa[Addr.add] using this
   refine⟨g,o,X,cp,λi O=>?_,aD,λ_=>hg,.inl rfl⟩;have⟨kd,x,y,z,tv,ix,iy,iz,s0,s1,s2,s3,s4,Y⟩:=key i O;have ha:∀j,((⟨g,o,none⟩:Addr).add (i*5)).add j=⟨g,o+i*5+j,none⟩:=λj=>by
    unfold Addr.add;by_cases h1:i*5=0<;>by_cases h2:j=0<;>simp[h1,h2]
   rw[ha]at s0 s1 s2 s3 s4;exact⟨kd,x,y,z,tv,ix,iy,iz,s0,s1,s2,s3,s4,Y⟩
end
end
end Go.Proofs.YtodcnkbblippnaaGreatDoor
