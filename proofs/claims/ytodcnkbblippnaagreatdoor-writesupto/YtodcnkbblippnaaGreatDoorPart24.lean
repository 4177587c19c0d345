/- Part 24 of a proof: walks of the program. -/
import Derived.Test.YtodcnkbblippnaaGreatDoorPart23
namespace Go.Proofs.YtodcnkbblippnaaGreatDoor
set_option maxRecDepth 100000
set_option maxHeartbeats 32000000
set_option linter.defProp false
open Go.Proofs.Tryz
section
open Go.RowKit
attribute [local go_sem ↓] Cw
def Sr{m s r L n:Nat}(hn:n<=4294967296)(h:s<r)(hr:r<=L)(hm:m+L<=n):
 wrap64 (((m+s:Nat):Int)+((m+r:Nat):Int))=((m+s+(m+r):Nat):Int)/\IntKind.u64.wrap ((m+s+(m+r):Nat):Int)=((m+s+(m+r):Nat):Int)/\wrap64 (((m+s+(m+r):Nat):Int)/2)=((m+(s+r)/2:Nat):Int)/\
 (s+r)/2<r/\s<=(s+r)/2/\m+(s+r)/2<n/\wrap64 (((m+(s+r)/2:Nat):Int)+1)=((m+((s+r)/2+1):Nat):Int):=by
 refine⟨by unfold wrap64;omega,?_,by unfold wrap64;omega,by omega,by omega,by omega,by unfold wrap64;omega⟩;simp[IntKind.wrap,IntKind.bits,IntKind.signed];omega
def Zf{a s n q:Nat}(hn:n<=4294967296)(h:a+1+s<=n)(hq:q<=s):
 wrap64 (((a+1+s:Nat):Int)-1)=((a+s:Nat):Int)/\IntKind.i64.wrap (((a+1+s:Nat):Int)-1)=((a+s:Nat):Int)/\wrap64 (((a+q:Nat):Int)+1)=((a+(q+1):Nat):Int)/\IntKind.i64.wrap (((a+q:Nat):Int)+1)=((a+(q+1):Nat):Int):=by
 refine⟨by unfold wrap64;omega,?_,by unfold wrap64;omega,?_⟩
 ·simp[IntKind.wrap,IntKind.bits,IntKind.signed];omega
 ·simp[IntKind.wrap,IntKind.bits,IntKind.signed];omega
def GQ(w:World)(g k:Nat)(p:Pu):World:=((w.setCell ⟨g,k*3,none⟩ (.int .i64 p.1)).setCell ⟨g,k*3+1,none⟩ (.int .i64 p.2.1)).setCell ⟨g,k*3+2,none⟩ (.int .i64 p.2.2)
def Ry{w d:World}{g:Nat}(h:A4 (One g) d w)(k:Nat)(p:Pu):A4 (One g) d (GQ w g k p):=((h.aj (b:=g) rfl _ _).aj (b:=g) rfl _ _).aj (b:=g) rfl _ _
def QM{w:World}{g n cap:Nat}{l:List Pu}(h:w.ownsRow 0 113 3 (.slice (some ⟨g,0,none⟩) n cap) n (AZ l))(i j:Nat)(W:i<l.length)(I:j<l.length)(d:i≠j)(x y:Pu)(O:l[j]'I=y):
 (∀o,(GQ w g i y).drew.frozen? ⟨g,o,none⟩=false)/\((GQ w g i y).drew.cell? ⟨g,j*3,none⟩=some (.int .i64 y.1)/\(GQ w g i y).drew.cell? ⟨g,j*3+1,none⟩=some (.int .i64 y.2.1)/\(GQ w g i y).drew.cell? ⟨g,j*3+2,none⟩=some (.int .i64 y.2.2))/\
 (GQ (GQ w g i y).drew g j x).ownsRow 0 113 3 (.slice (some ⟨g,0,none⟩) n cap) n (AZ ((l.set i y).set j x))/\∀E,A4 (One g) E w->A4 (One g) E (GQ (GQ w g i y).drew g j x):=by
 have z:(GQ w g i y).drew.ownsRow 0 113 3 (.slice (some ⟨g,0,none⟩) n cap) n (AZ (l.set i y)):=Aw (B5.bq h i W y) λ_ _=>rfl;refine⟨λo=>Ez z rfl o,B5.bw z j (by rw[Hi];exact I) y ?_,B5.bq z j (by rw[Hi];exact I) x,λE L=>Ry (Ry L i y).aa j x⟩;rw[A3P d];exact O
def SK{α:Type}(V:List α)(x:α)(q:Nat)(h:q<=V.length):(V.take q++x::V.drop q).length=V.length+1:=by simp;omega
def Zx{a s q P:Nat}(h:q<s)(e:a+q=P):a+s-(intOf (A0 ((P:Int)+1))).toNat<a+s-(intOf (A0 (P:Int))).toNat:=by simp[intOf];omega
def Ob{I J Q:Nat}(h1:I<=Q)(h2:Q<J):(intOf (A0 (J:Int))).toNat-(intOf (A0 ((Q:Int)+1))).toNat<(intOf (A0 (J:Int))).toNat-(intOf (A0 (I:Int))).toNat:=by simp[intOf];omega
def Oc{I J Q:Nat}(h1:I<=Q)(h2:Q<J):(intOf (A0 (Q:Int))).toNat-(intOf (A0 (I:Int))).toNat<(intOf (A0 (J:Int))).toNat-(intOf (A0 (I:Int))).toNat:=by simp[intOf];omega
def A03{α:Type}{A V Z:List α}{x:α}{q:Nat}(d:q<V.length):∃y,(A++(V.take q++x::V.drop q)++Z)[A.length+q]?=some x/\(A++(V.take q++x::V.drop q)++Z)[A.length+q+1]?=some y/\
 ((A++(V.take q++x::V.drop q)++Z).set (A.length+q) y).set (A.length+q+1) x=A++(V.take (q+1)++x::V.drop (q+1))++Z:=by
 have z:(A++V.take q).length=A.length+q:=by simp;omega
 have I:(A++V.take q++[V[q]'d]).length=A.length+q+1:=by simp;omega
 have h:A++(V.take q++x::V.drop q)++Z=(A++V.take q)++x::(V[q]'d::(V.drop (q+1)++Z)):=by rw[FW d];simp only[C8,FL]
 have L:A++(V.take (q+1)++x::V.drop (q+1))++Z=(A++V.take q++[V[q]'d])++x::(V.drop (q+1)++Z):=by rw[DL d];simp
 have E:∀u,(A++V.take q)++u::(V[q]'d::(V.drop (q+1)++Z))=(A++V.take q++[u])++V[q]'d::(V.drop (q+1)++Z):=λu=>by simp
 refine⟨V[q]'d,?_,?_,?_⟩
 ·rw[h,<-z];simp
 ·rw[h,E,HF (by simp;omega)];have:A.length+q+1-(A++V.take q++[x]).length=0:=by simp;omega
  rw[this];rfl
 ·rw[h,L,<-z,Ju,E,z,<-I,Ju]
def A2K{α:Type}{A U Z:List α}{y:α}{q:Nat}(d:q<U.length):∃u,(A++(U.take (q+1)++y::U.drop (q+1))++Z)[A.length+q+1]?=some y/\(A++(U.take (q+1)++y::U.drop (q+1))++Z)[A.length+q]?=some u/\
 ((A++(U.take (q+1)++y::U.drop (q+1))++Z).set (A.length+q+1) u).set (A.length+q) y=A++(U.take q++y::U.drop q)++Z:=by
 have E:(A++U.take q).length=A.length+q:=by simp;omega
 have I:∀u:α,(A++U.take q++[u]).length=A.length+q+1:=λu=>by simp;omega
 have h:A++(U.take (q+1)++y::U.drop (q+1))++Z=(A++U.take q++[U[q]'d])++y::(U.drop (q+1)++Z):=by rw[DL d];simp
 have L:A++(U.take q++y::U.drop q)++Z=(A++U.take q)++y::(U[q]'d::(U.drop (q+1)++Z)):=by rw[FW d];simp only[C8,FL]
 have z:∀u v:α,(A++U.take q++[u])++v::(U.drop (q+1)++Z)=(A++U.take q)++u::(v::(U.drop (q+1)++Z)):=λu v=>by simp
 refine⟨U[q]'d,?_,?_,?_⟩
 ·rw[h,<-I (U[q]'d)];simp
 ·rw[h,z,<-E];simp
 ·rw[h,L,<-I (U[q]'d),Ju,z,<-E,Ju]
section
variable {w w':World} {g cap n:Nat}
def Wl(w:World)(g cap n wb:Nat)(len:Int)(A V Z:List Pu)(x:Pu)(_hv:V≠[])(hn:n=(A++x::(V++Z)).length)(h:w.ownsRow 0 113 3 (AB g n cap) n (AZ (A++x::(V++Z))))(hT:∀p∈x::V,Ax p.2.1)(hA:B2 (AH len) V)(hl:1<=len/\len<=4611686018427387904)(hw:A8 w wb 0 (A0 len))(a5:wb≠g)(aH:n<=4294967296):
 Ag 244 #[AB g n cap,A0 A.length,A0 ((A.length+1:Nat):Int),A0 ((A.length+1+V.length:Nat):Int),.func (Fn.func 155) #[] #[A6 wb]] w (Aj (.tuple #[]) λw'=>
  ∃M,w'.ownsRow 0 113 3 (AB g n cap) n (AZ (A++M++Z))/\M.length=V.length+1/\B2 (AH len) M/\Br (AH len) (x::V) M/\A4 (One g) w w'):=by
 have b6:=GI len;obtain⟨a,ha⟩:∃a,A.length=a:=⟨_,rfl⟩;obtain⟨m,hm⟩:∃m,a+1=m:=⟨_,rfl⟩;obtain⟨L,hL⟩:∃L,V.length=L:=⟨_,rfl⟩;obtain⟨b,hb⟩:∃b,m+L=b:=⟨_,rfl⟩;have aX:b<=n:=by rw[hn];simp;omega
 have bM:a<n:=by omega
 have aT:Hid (∀s r,s<r->r<=L->_):=λs r h hr=>Sr (m:=m) aH h hr (hb ▸ aX);have bS:Hid (∀d,A4 Aa w d->∀q (O:q<V.length),A8 d g ((m+q)*3) (A0 (V[q]'O).1)/\A8 d g ((m+q)*3+1) (A0 (V[q]'O).2.1)/\A8 d g ((m+q)*3+2) (A0 (V[q]'O).2.2)):=λd hx q O=>by
  have e:(A++x::(V++Z))[m+q]'(by rw[<-hn];omega)=V[q]'O:=by
   rw[FV (by omega)];(have:m+q-A.length=q+1:=by omega);simp only[this,MW];exact FK O
  obtain⟨y1,y2,y3⟩:=B5.bw h (m+q) (by rw[<-hn];omega) _ e;exact⟨hx.ag y1,hx.ag y2,hx.ag y3⟩
 have bZ:Hid (∀d,A4 Aa w d->A8 d g (a*3) (A0 x.1)/\A8 d g (a*3+1) (A0 x.2.1)/\A8 d g (a*3+2) (A0 x.2.2)):=λd hx=>by
  have e:(A++x::(V++Z))[a]'(by rw[<-hn];omega)=x:=by
   rw[FV (by omega)];simp[ha]
  obtain⟨y1,y2,y3⟩:=B5.bw h a (by rw[<-hn];omega) _ e;exact⟨hx.ag y1,hx.ag y2,hx.ag y3⟩
 have e1:wrap64 ((m:Int)-(a:Int))=1:=by unfold wrap64;omega
 have e2:IntKind.i64.wrap ((m:Int)-(a:Int))=1:=by rw[show (m:Int)-(a:Int)=1 by omega];rfl
 have a0:=BR a;have aI:(a:Int)<(n:Int):=by omega
 have a1:n<=cap/\cap<=9223372036854775807:=by
  obtain⟨a',c',e,h1,h2,_⟩:=Bk h;cases e;unfold maxLen at h2;omega
 obtain⟨hc1,hc2⟩:=a1;have bL:=A1 hT;have b7:=A1 hw;have bT:=A1 hl;have HWB:=A1 a5;have bH:=A1 h;have bW:=A1 ha;have bB:Hid (∀ {d:World} (l:List Pu),d.ownsRow 0 113 3 (AB g n cap) n (AZ l)->l.length=n):=λl hl=>by
  have:=hl.1;rw[RA]at this;omega
 have bC:Hid (n<=4294967296/\m+L<=n):=⟨aH,by rw[hb];exact aX⟩;have bN:=A1 hA;have b0:=A1 hm;have bK:=A1 hL;have HB:=A1 hb;rw[ha,hm,hL,hb];have aR:b=m+L:=hb.symm;clear h hT hw hl a5 hA hm hL aX bM aH hn ha _hv hb
 go_enter func244,ntmps244
 go_wp2;rename_i kA kB qA a3;clear kB;go_loopw [10,11] (λiv jv wr=>∃(s r:Nat),iv=A0 ((m+s:Nat):Int)/\jv=A0 ((m+r:Nat):Int)/\Hid (s<=r/\r<=L/\A4 Aa w wr/\(∀y,(V.take s).getLast?=some y->AH len y x=true)/\(∀y,(V.drop r).head?=some y->AH len y x=false))) (λiv jv _=>(intOf jv).toNat-(intOf iv).toNat)
 case atStart=>exact⟨0,L,by go_num,by rw[aR],Ce _,Ao _,A4.C _ _,(λy hy=>by simp at hy),(λy hy=>by rw[<-bK.o,GN]at hy;cases hy)⟩
 case round=>
  obtain⟨s,r,rfl,rfl,hI⟩:=hrel;obtain⟨i1,i2,i3,i4,i5⟩:=hI.o;by_cases aD:s<r
  ·obtain⟨n1,n2,n3,n4,n5,n6,n7⟩:=aT.o s r aD i2;have bP:((m+s:Nat):Int)<((m+r:Nat):Int):=Ff.2 (JZ aD m);obtain⟨q,O⟩:∃q,(s+r)/2=q:=⟨_,rfl⟩;rw[O]at n3 n4 n5 n6 n7;(have Y:q<V.length:=by rw[bK.o];exact Bi n4 i2);obtain⟨y,hy⟩:∃y,V[q]'Y=y:=⟨_,rfl⟩;have a6:Hid (∀d,A4 Aa wr d->(A8 d g ((m+q)*3) (A0 y.1)/\A8 d g ((m+q)*3+1) (A0 y.2.1)/\A8 d g ((m+q)*3+2) (A0 y.2.2))/\A8 d g (a*3) (A0 x.1)/\A8 d g (a*3+1) (A0 x.2.1)/\A8 d g (a*3+2) (A0 x.2.2)):=λd hx=>by
    have a8:=i3.tr hx;have:=bS.o d a8 q Y;rw[hy]at this;exact⟨this,bZ.o d a8⟩
   have a2:Ax y.2.1:=bL.o y (BW _ (hy ▸ BT Y));have bD:=A1 (λd bU=>Mv d wb len y x a2 (bL.o x (BQ ..)) bT.o bU);have aL:=Mu (len:=len) (p:=y) (q:=x);obtain⟨cc,bE⟩:∃cc,GV len y x=cc:=⟨_,rfl⟩;rw[bE]at bD aL;have aO:A8 wr wb 0 (A0 len):=i3.ag b7.o;have b8:Hid (cc<0->∀z,(V.take (q+1)).getLast?=some z->AH len z x=true):=λhc z hz=>by
    rw[M7 Y,hy]at hz;cases hz;exact aL.1 hc
   have bY:Hid (¬cc<0->∀z,(V.drop q).head?=some z->AH len z x=false):=λhc z hz=>by
    rw[head_drop Y,hy]at hz;cases hz;cases hk:AH len y x with
    | false=>rfl
    | true=>exact absurd (aL.2 hk) hc
   obtain⟨Q,hQ⟩:∃Q,m+q=Q:=⟨_,rfl⟩;rw[hQ]at n3 n6 n7 a6;have QI:(Q:Int)<(n:Int):=Ff.2 n6;have Q0:=BR Q;have tQ:(Q:Int).toNat=Q:=EG Q;have tA:(a:Int).toNat=a:=EG a;obtain⟨xa,xb,xc⟩:=x;obtain⟨ya,yb,yc⟩:=y;unfold DV at bD;dsimp only at bD a6;have bI:=a6.o wr.drew (A4.C _ wr).aa;have aJ:=A1 (bD.o wr.drew aO);obtain⟨I,X⟩:∃I,m+s=I:=⟨_,rfl⟩;obtain⟨J,aA⟩:∃J,m+r=J:=⟨_,rfl⟩;obtain⟨b4,aB⟩:∃b4,I+J=b4:=⟨_,rfl⟩;rw[X,aA,aB]at n1 n2;obtain⟨b5,aW⟩:∃b5,m+(q+1)=b5:=⟨_,rfl⟩;rw[aW]at n7;rw[X,aA,aB]at n3;rw[X,aA]at bP;have E:=A1 (And.intro i1 (And.intro i2 (And.intro i3 (And.intro i4 (And.intro i5 (And.intro n4 (And.intro n5 (And.intro hQ (And.intro aW (And.intro X aA))))))))));rw[X,aA];clear hI i1 i2 i3 i4 i5 n4 n5 n6 O hy a2 bE bD aO Y aD aT bS bZ hQ aW X aA aB aR aL;by_cases aZ:cc<0
   ·go_wp2;clear n1 n2 n3;refine Bt (λw'=>(A8 w' g (Q*3) (A0 ya)/\A8 w' g (Q*3+1) (A0 yb)/\A8 w' g (Q*3+2) (A0 yc))/\A8 w' g (a*3) (A0 xa)/\A8 w' g (a*3+1) (A0 xb)/\A8 w' g (a*3+2) (A0 xc)) 10
     (Bb [0,1,2,3,4,5,6,7,8,9] [9]) bI ?_
    iterate 9 (refine B1 ?_;(try simp only[Ak]))
    refine Bd λK hK=>?_;go_simp;refine aJ.m ?_;rintro e w6⟨rfl,aF⟩;have k6:A4 Aa wr w6:=((A4.C Aa wr).aa).tr aF;refine hK _ _ (a6.o w6 k6) (λhS=>?_);have bV:=A1 k6;clear hK K hS aF k6 bI aJ
    (try simp only[Ak])
    refine B4 ?_;simp only[Bm,Bl];clear a3;go_wp2;go_roundw
    case rel=>
     obtain⟨f1,f2,f3,f4,f5,f6,f7,f8,f9,f10,f11⟩:=E.o;exact⟨q+1,r,by rw[<-f8];rfl,by rw[f11],f6,f2,f3.tr bV.o,b8.o aZ,f5⟩
    case measure=>
     obtain⟨f1,f2,f3,f4,f5,f6,f7,f8,f9,f10,f11⟩:=E.o;exact Ob (by rw[<-f10,<-f8];exact L8 f7 m) (by rw[<-f11,<-f8];exact JZ f6 m)
   ·go_wp2;clear n1 n2 n3;refine Bt (λw'=>(A8 w' g (Q*3) (A0 ya)/\A8 w' g (Q*3+1) (A0 yb)/\A8 w' g (Q*3+2) (A0 yc))/\A8 w' g (a*3) (A0 xa)/\A8 w' g (a*3+1) (A0 xb)/\A8 w' g (a*3+2) (A0 xc)) 10
     (Bb [0,1,2,3,4,5,6,7,8,9] [9]) bI ?_
    iterate 9 (refine B1 ?_;(try simp only[Ak]))
    refine Bd λK hK=>?_;go_simp;refine aJ.m ?_;rintro e w6⟨rfl,aF⟩;have k6:A4 Aa wr w6:=((A4.C Aa wr).aa).tr aF;refine hK _ _ (a6.o w6 k6) (λhS=>?_);have bV:=A1 k6;clear hK K hS aF k6 bI aJ
    (try simp only[Ak])
    refine B4 ?_;simp only[Bm,Bl];clear a3;go_wp2;go_roundw
    case rel=>
     obtain⟨f1,f2,f3,f4,f5,f6,f7,f8,f9,f10,f11⟩:=E.o;exact⟨s,q,by rw[f10],by rw[f8],f7,Fb (Bi f6 f2),f3.tr bV.o,f4,bY.o aZ⟩
    case measure=>
     obtain⟨f1,f2,f3,f4,f5,f6,f7,f8,f9,f10,f11⟩:=E.o;exact Oc (by rw[<-f10,<-f8];exact L8 f7 m) (by rw[<-f11,<-f8];exact JZ f6 m)
  ·obtain rfl:s=r:=L7 i1 (IA aD);have a4:¬(((m+s:Nat):Int)<((m+s:Nat):Int)):=N6 _;have bR:=A1 (b6.e0 bN.o s i4 i5);have bJ:Hid (wr.ownsRow 0 113 3 (AB g n cap) n (AZ (A++(V.take 0++x::V.drop 0)++Z))):=by
    have:=Aw bH.o λg' hg=>i3.Am g' (Ay bH.o hg) (λh=>h);unfold Hid;simpa using this
   have bG:Hid (A4 (One g) w wr):=i3.ad λ_ _ h=>h.elim;(have a9:s<=V.length:=by rw[bK.o];exact i2);have bO:Hid (∀q,q<=s->_):=λq O=>Zf (a:=a) (q:=q) bC.o.1 (AQ (by rw[b0.o];exact L8 i2 m) bC.o.2) O;have bF:=A1 a9;obtain⟨ms,aV⟩:∃ms,m+s=ms:=⟨_,rfl⟩;(have bX:Hid (ms=a+1+s):=by unfold Hid;rw[<-aV,<-b0.o]);rw[aV]at a4 ⊢;clear hI i1 i2 i3 i4 i5 aT bS bZ aR e1 e2 aV aD a9;generalize wr=w3 at bJ bG ⊢;go_wp2;go_loopw [13] (λkv wr=>∃q:Nat,kv=A0 ((a+q:Nat):Int)/\q<=s/\Hid (wr.ownsRow 0 113 3 (AB g n cap) n (AZ (A++(V.take q++x::V.drop q)++Z))/\A4 (One g) w wr)) (λkv _=>a+s-(intOf kv).toNat)
   case atStart=>exact⟨0,by go_num,Ce _,bJ.o,bG.o⟩
   case round=>
    obtain⟨q,rfl,aK,hI⟩:=hrel;obtain⟨i1,i2⟩:=hI.o;obtain⟨z1,z2,z3,z4⟩:=bO.o q aK;rw[<-bX.o]at z1 z2;obtain⟨S,aE⟩:∃S,a+s=S:=⟨_,rfl⟩;rw[aE]at z1 z2;by_cases O:q<s
    ·obtain⟨y,f1,f2,f3⟩:=A03 (A:=A) (Z:=Z) (x:=x) (Bi O bF.o);rw[bW.o]at f1 f2 f3;obtain⟨P,hP⟩:∃P,a+q=P:=⟨_,rfl⟩;(have bA:a+(q+1)=P+1:=by rw[<-L9,hP]);rw[hP]at f1 f2 f3;rw[hP,bA]at z3 z4;obtain⟨b1,a7⟩:=HE.1 f1;obtain⟨b2,aS⟩:=HE.1 f2;have hlt:((P:Nat):Int)<(S:Int):=Ff.2 (by rw[<-hP,<-aE];exact JZ O a);obtain⟨x1,x2,x3⟩:=B5.bw i1 P b1 x a7;obtain⟨y1,y2,y3⟩:=B5.bw i1 (P+1) b2 y aS;obtain⟨aY,wv,aG,aN⟩:=QM i1 P (P+1) b1 b2 (Nat.ne_of_lt (UC P)) x y aS;obtain⟨aQ,aU,aP⟩:=wv;have fz:∀o,wr.frozen? (A9 g o)=false:=λo=>Ez i1 rfl o;have aM:=bB.o _ i1;rw[aM]at b1 b2;have PI:(P:Int)<(n:Int):=Ff.2 b1;have P1I:(P:Int)+1<(n:Int):=Ff.2 b2;have P0:=BR P;have P10:(0:Int)<=(P:Int)+1:=Ge (P+1);have tP:(P:Int).toNat=P:=EG P;have tP1:((P:Int)+1).toNat=P+1:=EG (P+1);have z3':wrap64 ((P:Int)+1)=(P:Int)+1:=z3;have z4':IntKind.i64.wrap ((P:Int)+1)=(P:Int)+1:=z4;rw[f3]at aG;have W:=A1 (And.intro aG (aN w i2));have b3:=A1 (And.intro O hP);obtain⟨xa,xb,xc⟩:=x;obtain⟨ya,yb,yc⟩:=y;unfold GQ at aY aQ aU aP W;dsimp only at x1 x2 x3 y1 y2 y3 aY aQ aU aP W;rw[hP];clear hI i1 i2 f1 f2 f3 b1 a7 b2 aS aG aN O hP bA aM aE z3 z4 aK bO bJ bG bR bH bL bN;go_wp2;refine Lr 15 (λw'=>A8 w' g (P*3) (A0 xa)/\A8 w' g (P*3+1) (A0 xb)/\A8 w' g (P*3+2) (A0 xc)/\A8 w' g ((P+1)*3) (A0 ya)/\A8 w' g ((P+1)*3+1) (A0 yb)/\A8 w' g ((P+1)*3+2) (A0 yc)) 16
      [(0,1),(1,1),(5,1),(6,1),(7,1),(8,1),(9,1),(10,2),(11,2),(12,2),(13,1),(14,1),(2,2),(3,2),(4,2),(15,0)] ⟨x1,x2,x3,y1,y2,y3⟩ ?_
     iterate 7 (refine I6 ?_;(try simp only[Ak]))
     iterate 3 (refine I7 ?_;(try simp only[Ak]))
     iterate 2 (refine I6 ?_;(try simp only[Ak]))
     iterate 3 (refine I7 ?_;(try simp only[Ak]))
     refine Lt λK hK=>?_;go_simp;refine hK _ _ ?_;clear hK K
     (try simp only[Ak])
     refine Ls ?_;simp only[Bm,Bl];clear x1 x2 x3 y1 y2 y3 fz;generalize (((wr.setCell (A9 g (P*3)) (A0 ya)).setCell (A9 g (P*3+1)) (A0 yb)).setCell (A9 g (P*3+2)) (A0 yc)).drew=w7 at aY aQ aU aP W ⊢;go_wp2;go_roundw
     case rel=>
      obtain⟨k1,k2⟩:=b3.o;exact⟨q+1,by rw[<-k2];rfl,k1,W.o⟩
     case measure=>
      obtain⟨k1,k2⟩:=b3.o;exact Zx k1 k2
    ·obtain rfl:q=s:=L7 aK (IA O);have a4:¬((S:Int)<(S:Int)):=N6 _;rw[aE];have W:=A1 (And.intro i1 i2);have bQ:=bF.o;have b9:Hid ((V.take q++x::V.drop q).length=V.length+1):=SK V x q bQ;clear hI i1 i2 O aE z3 z4 aK bO bJ bG bH bL bN;go_wp2;refine Jb (IL rfl _ _ _) rfl ?_;exact⟨rfl,V.take q++x::V.drop q,by simpa using W.o.1,by rw[<-bK.o];exact b9.o,bR.o.1,bR.o.2,W.o.2⟩
end
def Zw{a s r L n:Nat}(E:n<=4294967296)(h:s<r)(z:r<=L)(d:a+L<=n):
 wrap64 (((a+s:Nat):Int)+((a+r:Nat):Int))=((a+s+(a+r):Nat):Int)/\IntKind.u64.wrap ((a+s+(a+r):Nat):Int)=((a+s+(a+r):Nat):Int)/\wrap64 (((a+s+(a+r):Nat):Int)/2)=((a+(s+r)/2:Nat):Int)/\
 (s+r)/2<r/\s<=(s+r)/2/\a+(s+r)/2<n/\wrap64 (((a+(s+r)/2:Nat):Int)+1)=((a+((s+r)/2+1):Nat):Int):=Sr E h z d
def Zy(P:Nat):(intOf (A0 (P:Int))).toNat<(intOf (A0 ((P:Int)+1))).toNat:=by simp[intOf]
def A0a{a s n q:Nat}(hn:n<=4294967296)(h:a+s<=n)(hq:q+1<=s):
 wrap64 (((a+q+1:Nat):Int)-1)=((a+q:Nat):Int)/\IntKind.i64.wrap (((a+q+1:Nat):Int)-1)=((a+q:Nat):Int):=by
 refine⟨by unfold wrap64;omega,?_⟩;simp[IntKind.wrap,IntKind.bits,IntKind.signed];omega
section
variable {w w':World} {g cap n:Nat}
def Wn(w:World)(g cap n wb:Nat)(len:Int)(A U Z:List Pu)(x:Pu)(hu:2<=U.length)(hn:n=(A++(U++x::Z)).length)(h:w.ownsRow 0 113 3 (AB g n cap) n (AZ (A++(U++x::Z))))(hT:∀p∈x::U,Ax p.2.1)(hA:B2 (AH len) U)(hl:1<=len/\len<=4611686018427387904)(hw:A8 w wb 0 (A0 len))(_hwb:wb≠g)(aH:n<=4294967296):
 Ag 244 #[AB g n cap,A0 A.length,A0 ((A.length+U.length:Nat):Int),A0 ((A.length+U.length+1:Nat):Int),.func (Fn.func 155) #[] #[A6 wb]] w (Aj (.tuple #[]) λw'=>
  ∃M,w'.ownsRow 0 113 3 (AB g n cap) n (AZ (A++M++Z))/\M.length=U.length+1/\B2 (AH len) M/\Br (AH len) (U++[x]) M/\A4 (One g) w w'):=by
 have b3:=GI len;obtain⟨a,ha⟩:∃a,A.length=a:=⟨_,rfl⟩;obtain⟨L,hL⟩:∃L,U.length=L:=⟨_,rfl⟩;obtain⟨m,hm⟩:∃m,a+L=m:=⟨_,rfl⟩;have a0:m<n:=by rw[hn];simp;omega
 have aQ:Hid (∀s r,s<r->r<=L->_):=λs r h hr=>Zw (a:=a) aH h hr (by omega);have bO:Hid (∀d,A4 Aa w d->∀q (E:q<U.length),A8 d g ((a+q)*3) (A0 (U[q]'E).1)/\A8 d g ((a+q)*3+1) (A0 (U[q]'E).2.1)/\A8 d g ((a+q)*3+2) (A0 (U[q]'E).2.2)):=λd hx q E=>by
  have e:(A++(U++x::Z))[a+q]'(by rw[<-hn];omega)=U[q]'E:=by
   rw[FV (by omega)];(have:a+q-A.length=q:=by omega);simp only[this];exact FK E
  obtain⟨y1,y2,y3⟩:=B5.bw h (a+q) (by rw[<-hn];omega) _ e;exact⟨hx.ag y1,hx.ag y2,hx.ag y3⟩
 have bU:Hid (∀d,A4 Aa w d->A8 d g (m*3) (A0 x.1)/\A8 d g (m*3+1) (A0 x.2.1)/\A8 d g (m*3+2) (A0 x.2.2)):=λd hx=>by
  have e:(A++(U++x::Z))[m]'(by rw[<-hn];omega)=x:=by
   rw[FV (by omega),FV (by omega)];(have:m-A.length-U.length=0:=by omega);simp only[this,K3]
  obtain⟨y1,y2,y3⟩:=B5.bw h m (by rw[<-hn];omega) _ e;exact⟨hx.ag y1,hx.ag y2,hx.ag y3⟩
 have e1:wrap64 ((m:Int)-(a:Int))=(L:Int):=by unfold wrap64;omega
 have e2:IntKind.i64.wrap ((m:Int)-(a:Int))=(L:Int):=by simp[IntKind.wrap,IntKind.bits,IntKind.signed];omega
 have e3:((L:Int)=1)=False:=Mn (by omega);have e3':((L:Int)==1)=false:=by rw[Hu];omega
 obtain⟨b,hb⟩:∃b,m+1=b:=⟨_,rfl⟩;have e4:wrap64 ((b:Int)-(m:Int))=1:=by unfold wrap64;omega
 have e5:IntKind.i64.wrap ((b:Int)-(m:Int))=1:=by rw[show (b:Int)-(m:Int)=1 by omega];rfl
 have m0:=BR m;have mI:(m:Int)<(n:Int):=by omega
 have aX:n<=cap/\cap<=9223372036854775807:=by
  obtain⟨a',c',e,h1,h2,_⟩:=Bk h;cases e;unfold maxLen at h2;omega
 obtain⟨hc1,hc2⟩:=aX;have bD:=A1 hT;have b4:=A1 hw;have bP:=A1 hl;have bA:=A1 h;have bG:=A1 hA;have bE:=A1 hm;have aS:=A1 hL;have bS:=A1 ha;have a5:Hid (∀ {d:World} (l:List Pu),d.ownsRow 0 113 3 (AB g n cap) n (AZ l)->l.length=n):=λl hl=>by
  have:=hl.1;rw[RA]at this;omega
 have a6:Hid (n<=4294967296/\m<n):=⟨aH,a0⟩;rw[ha,hL,hm,hb];clear h hT hw hl _hwb hA hm a0 aH hn ha hu hL hb
 go_enter func244,ntmps244
 go_wp2;rename_i kA kB qA bJ;clear kB;go_loopw [14,15] (λiv jv wr=>∃(s r:Nat),iv=A0 ((a+s:Nat):Int)/\jv=A0 ((a+r:Nat):Int)/\Hid (s<=r/\r<=L/\A4 Aa w wr/\(∀y,(U.take s).getLast?=some y->AH len x y=false)/\(∀y,(U.drop r).head?=some y->AH len x y=true))) (λiv jv _=>(intOf jv).toNat-(intOf iv).toNat)
 case atStart=>exact⟨0,L,by go_num,by rw[bE.o],Ce _,Ao _,A4.C _ _,(λy hy=>by simp at hy),(λy hy=>by rw[<-aS.o,GN]at hy;cases hy)⟩
 case round=>
  obtain⟨s,r,rfl,rfl,hI⟩:=hrel;obtain⟨i1,i2,i3,i4,i5⟩:=hI.o;by_cases aE:s<r
  ·obtain⟨n1,n2,n3,n4,n5,n6,n7⟩:=aQ.o s r aE i2;have bL:((a+s:Nat):Int)<((a+r:Nat):Int):=Ff.2 (JZ aE a);obtain⟨q,E⟩:∃q,(s+r)/2=q:=⟨_,rfl⟩;rw[E]at n3 n4 n5 n6 n7;(have Y:q<U.length:=by rw[aS.o];exact Bi n4 i2);obtain⟨y,hy⟩:∃y,U[q]'Y=y:=⟨_,rfl⟩;have bC:Hid (∀d,A4 Aa wr d->(A8 d g ((a+q)*3) (A0 y.1)/\A8 d g ((a+q)*3+1) (A0 y.2.1)/\A8 d g ((a+q)*3+2) (A0 y.2.2))/\A8 d g (m*3) (A0 x.1)/\A8 d g (m*3+1) (A0 x.2.1)/\A8 d g (m*3+2) (A0 x.2.2)):=λd hx=>by
    have a3:=i3.tr hx;have:=bO.o d a3 q Y;rw[hy]at this;exact⟨this,bU.o d a3⟩
   have aY:Ax y.2.1:=bD.o y (BW _ (hy ▸ BT Y));have a7:=A1 (λd bQ=>Mv d wb len x y (bD.o x (BQ ..)) aY bP.o bQ);have aI:=Mu (len:=len) (p:=x) (q:=y);obtain⟨cc,a8⟩:∃cc,GV len x y=cc:=⟨_,rfl⟩;rw[a8]at a7 aI;have aL:A8 wr wb 0 (A0 len):=i3.ag b4.o;have b5:Hid (¬cc<0->∀z,(U.take (q+1)).getLast?=some z->AH len x z=false):=λhc z hz=>by
    rw[M7 Y,hy]at hz;cases hz;cases hk:AH len x y with
    | false=>rfl
    | true=>exact absurd (aI.2 hk) hc
   have bT:Hid (cc<0->∀z,(U.drop q).head?=some z->AH len x z=true):=λhc z hz=>by
    rw[head_drop Y,hy]at hz;cases hz;exact aI.1 hc
   obtain⟨Q,hQ⟩:∃Q,a+q=Q:=⟨_,rfl⟩;rw[hQ]at n3 n6 n7 bC;have QI:(Q:Int)<(n:Int):=Ff.2 n6;have Q0:=BR Q;have tQ:(Q:Int).toNat=Q:=EG Q;have tM:(m:Int).toNat=m:=EG m;obtain⟨xa,xb,xc⟩:=x;obtain⟨ya,yb,yc⟩:=y;unfold DV at a7;dsimp only at a7 bC;have bV:=bC.o wr.drew (A4.C _ wr).aa;have aW:=A1 (a7.o wr.drew aL);obtain⟨I,X⟩:∃I,a+s=I:=⟨_,rfl⟩;obtain⟨J,aA⟩:∃J,a+r=J:=⟨_,rfl⟩;obtain⟨bY,aB⟩:∃bY,I+J=bY:=⟨_,rfl⟩;rw[X,aA,aB]at n1 n2;obtain⟨bZ,aU⟩:∃bZ,a+(q+1)=bZ:=⟨_,rfl⟩;rw[aU]at n7;rw[X,aA,aB]at n3;rw[X,aA]at bL;have aD:=A1 (And.intro i1 (And.intro i2 (And.intro i3 (And.intro i4 (And.intro i5 (And.intro n4 (And.intro n5 (And.intro hQ (And.intro aU (And.intro X aA))))))))));rw[X,aA];clear hI i1 i2 i3 i4 i5 n4 n5 n6 E hy aY a8 a7 aL Y aE aQ bO bU hQ aU X aA aB aI e1 e2 e4 e5;rcases PE (cc<0) with W|W
   focus
    have aT:¬(0<=cc):=Int.not_le.2 W;have bH:decide (cc<0)=true:=Ct W
   rotate_left
   focus
    have aT:0<=cc:=Pz.1 W;have bH:decide (cc<0)=false:=Cu W
   iterate 2
    ·go_wp2;clear n1 n2 n3;refine Bt (λw'=>(A8 w' g (Q*3) (A0 ya)/\A8 w' g (Q*3+1) (A0 yb)/\A8 w' g (Q*3+2) (A0 yc))/\A8 w' g (m*3) (A0 xa)/\A8 w' g (m*3+1) (A0 xb)/\A8 w' g (m*3+2) (A0 xc)) 10
      (Bb [0,1,2,3,4,5,6,7,8,9] [9]) bV ?_
     iterate 9 (refine B1 ?_;(try simp only[Ak]))
     refine Bd λK hK=>?_;go_simp;refine aW.m ?_;rintro e w6⟨rfl,a1⟩;have k6:A4 Aa wr w6:=((A4.C Aa wr).aa).tr a1;refine hK _ _ (bC.o w6 k6) (λhS=>?_);have bX:=A1 k6;clear hK K hS a1 k6 bV aW
     (try simp only[Ak])
     refine B4 ?_;simp only[Bm,Bl];clear bJ;go_wp2;go_roundw
     case rel=>
      obtain⟨f1,f2,f3,f4,f5,f6,f7,f8,f9,f10,f11⟩:=aD.o
      first
       | exact⟨q+1,r,by rw[<-f8];rfl,by rw[f11],f6,f2,f3.tr bX.o,b5.o (by first|exact aT|exact Pz.2 aT),f5⟩
       | exact⟨s,q,by rw[f10],by rw[f8],f7,Fb (Bi f6 f2),f3.tr bX.o,f4,bT.o W⟩
     case measure=>
      obtain⟨f1,f2,f3,f4,f5,f6,f7,f8,f9,f10,f11⟩:=aD.o;(have g1:I<=Q:=by rw[<-f10,<-f8];exact L8 f7 a);(have g2:Q<J:=by rw[<-f11,<-f8];exact JZ f6 a)
      first
       | exact Ob g1 g2
       | exact Oc g1 g2
  ·obtain rfl:s=r:=L7 i1 (IA aE);have aZ:¬(((a+s:Nat):Int)<((a+s:Nat):Int)):=N6 _;have bN:=A1 (b3.fY bG.o s i4 i5);have bB:Hid (wr.ownsRow 0 113 3 (AB g n cap) n (AZ (A++(U.take L++x::U.drop L)++Z))):=by
    have:=Aw bA.o λg' hg=>i3.Am g' (Ay bA.o hg) (λh=>h);unfold Hid;rw[<-aS.o,Cc,GN];simpa using this
   have a9:Hid (A4 (One g) w wr):=i3.ad λ_ _ h=>h.elim;have bR:s<=L:=i2;have bK:Hid (∀q,q+1<=L->_):=λq E=>A0a (a:=a) (q:=q) (s:=L) a6.o.1 (by rw[bE.o];exact Fb a6.o.2) E;obtain⟨S,hS⟩:∃S,a+s=S:=⟨_,rfl⟩;have bW:=A1 hS;rw[hS]at aZ ⊢;clear hI i1 i2 i3 i4 i5 aQ bO bU e1 e2 e4 e5 hS aE;generalize wr=w3 at bB a9 ⊢;go_wp2;go_loopw [17] (λkv wr=>∃q:Nat,kv=A0 ((a+q:Nat):Int)/\s<=q/\q<=L/\Hid (wr.ownsRow 0 113 3 (AB g n cap) n (AZ (A++(U.take q++x::U.drop q)++Z))/\A4 (One g) w wr)) (λkv _=>(intOf kv).toNat)
   case atStart=>exact⟨L,by rw[bE.o],bR,Ao _,bB.o,a9.o⟩
   case round=>
    obtain⟨q,rfl,aO,aF,hI⟩:=hrel;obtain⟨i1,i2⟩:=hI.o;by_cases E:s<q
    ·obtain⟨q,rfl⟩:=Nat.exists_eq_succ_of_ne_zero (Nat.ne_of_gt (Pk (Ce s) E));obtain⟨z1,z2⟩:=bK.o q aF;obtain⟨y,f1,f2,f3⟩:=A2K (A:=A) (Z:=Z) (y:=x) (U:=U) (q:=q) (by rw[aS.o];exact aF);rw[bS.o]at f1 f2 f3;obtain⟨P,hP⟩:∃P,a+q=P:=⟨_,rfl⟩;(have a4:a+(q+1)=P+1:=by rw[<-L9,hP]);rw[hP]at f1 f2 f3 z1 z2;obtain⟨b1,a2⟩:=HE.1 f1;obtain⟨b2,aP⟩:=HE.1 f2;have hlt:(S:Int)<((P:Nat):Int)+1:=Ff.2 (show S<P+1 by rw[<-hP,<-bW.o];exact JZ E a);obtain⟨x1,x2,x3⟩:=B5.bw i1 (P+1) b1 x a2;obtain⟨y1,y2,y3⟩:=B5.bw i1 P b2 y aP;obtain⟨aV,wv,aG,aK⟩:=QM i1 (P+1) P b1 b2 (Nat.ne_of_gt (UC P)) x y aP;obtain⟨aN,aR,aM⟩:=wv;have fz:∀o,wr.frozen? (A9 g o)=false:=λo=>Ez i1 rfl o;have aJ:=a5.o _ i1;rw[aJ]at b1 b2;have PI:(P:Int)<(n:Int):=Ff.2 b2;have P1I:(P:Int)+1<(n:Int):=Ff.2 b1;have P0:=BR P;have P10:(0:Int)<=(P:Int)+1:=Ge (P+1);have tP:(P:Int).toNat=P:=EG P;have tP1:((P:Int)+1).toNat=P+1:=EG (P+1);have bF:wrap64 ((P:Int)+1-1)=(P:Int):=z1;have bI:IntKind.i64.wrap ((P:Int)+1-1)=(P:Int):=z2;(have z3':wrap64 (P:Int)=(P:Int):=by rwa [Jk]at bF);(have z4':IntKind.i64.wrap (P:Int)=(P:Int):=by rwa [Jk]at bI);rw[f3]at aG;have O:=A1 (And.intro aG (aK w i2));have b0:=A1 (And.intro E (And.intro hP aF));obtain⟨xa,xb,xc⟩:=x;obtain⟨ya,yb,yc⟩:=y;unfold GQ at aV aN aR aM O;dsimp only at x1 x2 x3 y1 y2 y3 aV aN aR aM O;rw[a4];clear hI i1 i2 f1 f2 f3 b1 a2 b2 aP aG aK E hP a4 aJ z1 z2 aF aO bK bB a9 bN bA bD bG;go_wp2;refine Lr 15 (λw'=>A8 w' g (P*3) (A0 ya)/\A8 w' g (P*3+1) (A0 yb)/\A8 w' g (P*3+2) (A0 yc)/\A8 w' g ((P+1)*3) (A0 xa)/\A8 w' g ((P+1)*3+1) (A0 xb)/\A8 w' g ((P+1)*3+2) (A0 xc)) 16
      [(0,1),(1,1),(5,1),(6,1),(7,1),(8,1),(9,1),(10,2),(11,2),(12,2),(13,1),(14,1),(2,2),(3,2),(4,2),(15,0)] ⟨y1,y2,y3,x1,x2,x3⟩ ?_
     iterate 7 (refine I6 ?_;(try simp only[Ak]))
     iterate 3 (refine I7 ?_;(try simp only[Ak]))
     iterate 2 (refine I6 ?_;(try simp only[Ak]))
     iterate 3 (refine I7 ?_;(try simp only[Ak]))
     refine Lt λK hK=>?_;go_simp;refine hK _ _ ?_;clear hK K
     (try simp only[Ak])
     refine Ls ?_;simp only[Bm,Bl];clear x1 x2 x3 y1 y2 y3 fz;generalize (((wr.setCell (A9 g ((P+1)*3)) (A0 ya)).setCell (A9 g ((P+1)*3+1)) (A0 yb)).setCell (A9 g ((P+1)*3+2)) (A0 yc)).drew=w7 at aV aN aR aM O ⊢;go_wp2;go_roundw
     case rel=>
      obtain⟨k1,k2,k3⟩:=b0.o;exact⟨q,by rw[k2],Pm k1,A3y k3,O.o⟩
     case measure=>exact Zy P
    ·obtain rfl:s=q:=L7 aO (IA E);have aZ:¬((S:Int)<(S:Int)):=N6 _;rw[bW.o];have O:=A1 (And.intro i1 i2);have bM:=aS.o;have b6:Hid ((U.take s++x::U.drop s).length=U.length+1):=SK U x s (by rw[aS.o];exact aF);clear hI i1 i2 E aO bK bB a9 bA bD bG bM;go_wp2;refine Jb (IL rfl _ _ _) rfl ?_;exact⟨rfl,U.take s++x::U.drop s,by simpa using O.o.1,by rw[<-aS.o];exact b6.o,bN.o.1,bN.o.2,O.o.2⟩
end
def MJ(k:Nat):Prop:=∀(w:World) (g cap n wb:Nat) (len:Int) (A U V Z:List Pu),U.length+V.length<=k->U≠[]->V≠[]->n=(A++U++V++Z).length->w.ownsRow 0 113 3 (.slice (some ⟨g,0,none⟩) n cap) n (AZ (A++U++V++Z))->
 (∀p∈U++V,Ax p.2.1)->B2 (AH len) U->B2 (AH len) V->(1<=len/\len<=4611686018427387904)->w.cell? ⟨wb,0,none⟩=some (.int .i64 len)->wb≠g->n<=4294967296->
 Calls Tryz.prog 244 #[.slice (some ⟨g,0,none⟩) n cap,.int .i64 A.length,.int .i64 ((A.length+U.length:Nat):Int),.int .i64 ((A.length+U.length+V.length:Nat):Int),.func (Fn.func 155) #[] #[.pointer (some ⟨wb,0,none⟩)]] w λe w'=>e=.returned (.tuple #[])/\
  ∃M,w'.ownsRow 0 113 3 (.slice (some ⟨g,0,none⟩) n cap) n (AZ (A++M++Z))/\M.length=U.length+V.length/\B2 (AH len) M/\Br (AH len) (U++V) M/\A4 (One g) w w'
def Wi{a b n nn s0 r0 s r:Nat}(hn:n<=4294967296)(hb:b<=n)(h1:s0<=s)(h2:s<r)(h3:r<=r0)(h4:r0<b)(h5:r0<=nn)(h6:nn<=s0+b)(h7:nn<=8589934592)(h8:a<=s0)(h9:a+r0<=nn):
 wrap64 ((s:Int)+(r:Int))=((s+r:Nat):Int)/\IntKind.u64.wrap ((s+r:Nat):Int)=((s+r:Nat):Int)/\wrap64 (((s+r:Nat):Int)/2)=(((s+r)/2:Nat):Int)/\s<=(s+r)/2/\(s+r)/2<r/\(s+r)/2<n/\nn-1-(s+r)/2<n/\
 wrap64 (((nn-1:Nat):Int)-(((s+r)/2:Nat):Int))=((nn-1-(s+r)/2:Nat):Int)/\IntKind.i64.wrap (((nn-1:Nat):Int)-(((s+r)/2:Nat):Int))=((nn-1-(s+r)/2:Nat):Int)/\wrap64 ((((s+r)/2:Nat):Int)+1)=(((s+r)/2+1:Nat):Int)/\(a<=(s+r)/2/\(s+r)/2<b/\a<=nn-1-(s+r)/2/\nn-1-(s+r)/2<b):=by
 refine⟨by unfold wrap64;omega,?_,by unfold wrap64;omega,by omega,by omega,by omega,by omega,by unfold wrap64;omega,?_,by unfold wrap64;omega,by omega,by omega,by omega,by omega⟩
 ·simp[IntKind.wrap,IntKind.bits,IntKind.signed];omega
 ·simp[IntKind.wrap,IntKind.bits,IntKind.signed];omega
def GC{x:Int}{k:Nat}(h:x=(k:Int))(hk:k<=9223372036854775807):wrap64 x=(k:Int)/\IntKind.i64.wrap x=(k:Int):=by
 subst h;refine⟨by unfold wrap64;omega,?_⟩;simp[IntKind.wrap,IntKind.bits,IntKind.signed];omega
def Wk{a b m mid nn s0:Nat}(hmid:(a+b)/2=mid)(hnn:nn=mid+m)(h:mid<m)(hs:s0=nn-b)(h5:nn<=8589934592):(nn:Int)-(b:Int)=(s0:Int)/\s0<=9223372036854775807:=by omega
def Wj{a m b lu lv ab mid nn p n:Nat}(hbig:n<=4294967296)(hbn:b<=n)(hm:a+lu=m)(hb:m+lv=b)(hab:a+b=ab)(hmid:ab/2=mid)(hnn:nn=mid+m)(hp:nn-1=p)(h1:2<=lu)(h2:2<=lv):
 (wrap64 ((m:Int)-(a:Int))=(lu:Int)/\IntKind.i64.wrap ((m:Int)-(a:Int))=(lu:Int))/\(wrap64 ((b:Int)-(m:Int))=(lv:Int)/\IntKind.i64.wrap ((b:Int)-(m:Int))=(lv:Int))/\((lu:Int)==1)=false/\((lv:Int)==1)=false/\
 (wrap64 ((a:Int)+(b:Int))=(ab:Int)/\IntKind.i64.wrap ((a:Int)+(b:Int))=(ab:Int))/\IntKind.u64.wrap (ab:Int)=(ab:Int)/\(wrap64 ((ab:Int)/2)=(mid:Int)/\IntKind.i64.wrap ((ab:Int)/2)=(mid:Int))/\
 (wrap64 ((mid:Int)+(m:Int))=(nn:Int)/\IntKind.i64.wrap ((mid:Int)+(m:Int))=(nn:Int))/\(wrap64 ((nn:Int)-1)=(p:Int)/\IntKind.i64.wrap ((nn:Int)-1)=(p:Int)):=by
 refine⟨GC (by omega) (by omega),GC (by omega) (by omega),by rw[Hu];omega,by rw[Hu];omega,GC (by omega) (by omega),?_,GC (by omega) (by omega),GC (by omega) (by omega),GC (by omega) (by omega)⟩;simp[IntKind.wrap,IntKind.bits,IntKind.signed];omega
section
variable {w w' wr:World} {g cap n k wb a s m e b mid:Nat} {len:Int} {A U1 U2 V1 V2 Z:List Pu}
def Wh(hk:MJ k)(aJ:(U1++U2).length+(V1++V2).length<=k+1)(hn:n=(A++(U1++U2)++(V1++V2)++Z).length)(h:wr.ownsRow 0 113 3 (.slice (some ⟨g,0,none⟩) n cap) n (AZ (A++(U1++U2)++(V1++V2)++Z)))(hc:A4 (One g) w wr)(hT:∀p∈(U1++U2)++(V1++V2),Ax p.2.1)(aE:B2 (AH len) (U1++U2))(aG:B2 (AH len) (V1++V2))(hl:1<=len/\len<=4611686018427387904)(hw:w.cell? ⟨wb,0,none⟩=some (.int .i64 len))(Y:wb≠g)(W:n<=4294967296)(h1:∀x y,U1.getLast?=some x->V2.head?=some y->AH len y x=false)(h2:∀x y,V1.getLast?=some y->U2.head?=some x->AH len y x=true)(ea:A.length=a)(es:a+U1.length=s)(em:s+U2.length=m)(ee:m+V1.length=e)(eb:e+V2.length=b)(aD:s+V1.length=mid)(lm1:a<mid)(lm2:mid<b):
 ∃aI aH:World->Prop,((U2=[]\/V1=[])->aI wr)/\
  (U2≠[]->V1≠[]->∀cv,Calls Tryz.prog 263 #[.slice (some ⟨g,0,none⟩) n cap,.int .i64 s,.int .i64 m,.int .i64 e,cv] wr λx w'=>x=.returned (.tuple #[])/\aI w')/\
  (∀w',aI w'->(U1=[]\/V1=[])->aH w')/\
  (∀w',aI w'->U1≠[]->V1≠[]->Calls Tryz.prog 244 #[.slice (some ⟨g,0,none⟩) n cap,.int .i64 a,.int .i64 s,.int .i64 mid,.func (Fn.func 155) #[] #[.pointer (some ⟨wb,0,none⟩)]] w' λx z=>x=.returned (.tuple #[])/\aH z)/\
  (∀w',aH w'->(U2=[]\/V2=[])->∃M,w'.ownsRow 0 113 3 (.slice (some ⟨g,0,none⟩) n cap) n (AZ (A++M++Z))/\M.length=(U1++U2).length+(V1++V2).length/\B2 (AH len) M/\Br (AH len) ((U1++U2)++(V1++V2)) M/\A4 (One g) w w')/\
  (∀w',aH w'->U2≠[]->V2≠[]->Calls Tryz.prog 244 #[.slice (some ⟨g,0,none⟩) n cap,.int .i64 mid,.int .i64 e,.int .i64 b,.func (Fn.func 155) #[] #[.pointer (some ⟨wb,0,none⟩)]] w' λx z=>x=.returned (.tuple #[])/\
   ∃M,z.ownsRow 0 113 3 (.slice (some ⟨g,0,none⟩) n cap) n (AZ (A++M++Z))/\M.length=(U1++U2).length+(V1++V2).length/\B2 (AH len) M/\Br (AH len) ((U1++U2)++(V1++V2)) M/\A4 (One g) w z):=by
 have aL:=GI len;obtain⟨u1,u2,-⟩:=B2.aq aE;obtain⟨v1,v2,-⟩:=B2.aq aG;have aA:n=A.length+U1.length+U2.length+V1.length+V2.length+Z.length:=by rw[hn];simp;omega
 have L:∀w',A4 (One g) w w'->w'.cell? ⟨wb,0,none⟩=some (.int .i64 len):=λw' aK=>aK.bD hw λe=>Y e;have hUV':U1.length+U2.length+(V1.length+V2.length)<=k+1:=by simpa using aJ
 have aF:∀(w':World) (d aB:List Pu),w'.ownsRow 0 113 3 (.slice (some ⟨g,0,none⟩) n cap) n (AZ (A++(d++aB)++Z))->d.length=U1.length+V1.length->aB.length=U2.length+V2.length->B2 (AH len) d->B2 (AH len) aB->Br (AH len) (U1++V1) d->Br (AH len) (U2++V2) aB->A4 (One g) w w'->
  ∃M,w'.ownsRow 0 113 3 (.slice (some ⟨g,0,none⟩) n cap) n (AZ (A++M++Z))/\M.length=(U1++U2).length+(V1++V2).length/\B2 (AH len) M/\Br (AH len) ((U1++U2)++(V1++V2)) M/\A4 (One g) w w':=λw' d aB q0 q1 q2 q3 q4 q5 q6 q7=>by
  obtain⟨j1,j2⟩:=aL.e7 aE aG (aL.cH u1 v2 h1) (aL.dy v1 u2 h2) q3 q4 q5 q6;exact⟨d++aB,q0,by simp;omega,j1,j2,q7⟩
 refine⟨λw'=>w'.ownsRow 0 113 3 (.slice (some ⟨g,0,none⟩) n cap) n (AZ (A++(U1++V1)++(U2++(V2++Z))))/\A4 (One g) w w',
  λw'=>∃d,w'.ownsRow 0 113 3 (.slice (some ⟨g,0,none⟩) n cap) n (AZ (A++d++(U2++(V2++Z))))/\d.length=U1.length+V1.length/\B2 (AH len) d/\Br (AH len) (U1++V1) d/\A4 (One g) w w',
  λI=>⟨?_,hc⟩,λI hy cv=>?_,λw' O I=>?_,λw' O I hy=>?_,λw' O I=>?_,λw' O I hy=>?_⟩
 ·have e:A++(U1++U2)++(V1++V2)++Z=A++(U1++V1)++(U2++(V2++Z)):=by rcases I with rfl|rfl<;>simp
  rwa [e]at h
 ·have e:A++(U1++U2)++(V1++V2)++Z=(A++U1)++U2++V1++(V2++Z):=by simp
  rw[e]at h;have:=Xv wr g cap n (A++U1) U2 V1 (V2++Z) cv I hy (by rw[aA,Ba,Ba,Ba,Ba,Ba];omega) h;have l1:(A++U1).length=s:=by rw[Ba];omega
  rw[l1,em,ee]at this;refine this.mono ?_;rintro x w'⟨rfl,X,r2⟩;refine⟨rfl,?_,hc.Au r2 λ_ h _=>h⟩;have e:(A++U1)++V1++U2++(V2++Z)=A++(U1++V1)++(U2++(V2++Z)):=by simp
  rwa [e]at X
 ·refine⟨U1++V1,O.1,by simp,?_,Br.C _,O.2⟩;rcases I with rfl|rfl
  ·simpa using v1
  ·simpa using u1
 ·have:=hk w' g cap n wb len A U1 V1 (U2++(V2++Z)) (by omega) I hy (by rw[aA];simp only[Ba];omega) (by have:=O.1;rwa [<-C8 A U1 V1]at this) (λp E=>hT p (by simp at E ⊢;rcases E with E|E<;>simp[E])) u1 v1 hl (L w' O.2) Y W;rw[ea,es,aD]at this;refine this.mono ?_;rintro x z⟨rfl,M,X,r2,r3,r4,r5⟩;exact⟨rfl,M,X,r2,r3,r4,O.2.Au r5 λ_ h _=>h⟩
 ·obtain⟨d,X,r2,r3,r4,r5⟩:=O;refine aF w' d (U2++V2) ?_ r2 (by simp) r3 ?_ r4 (Br.C _) r5
  ·(have e:A++(d++(U2++V2))++Z=A++d++(U2++(V2++Z)):=by simp);rw[e];exact X
  ·rcases I with rfl|rfl
   ·simpa using v2
   ·simpa using u2
 ·obtain⟨d,X,r2,r3,r4,r5⟩:=O;have lM:(A++d).length=mid:=by rw[Ba];omega
  have:=hk w' g cap n wb len (A++d) U2 V2 Z (by omega) I hy (by rw[aA];simp only[Ba];omega) (by have e:A++d++U2++V2++Z=A++d++(U2++(V2++Z)):=(by simp);rw[e];exact X) (λp E=>hT p (by simp at E ⊢;rcases E with E|E<;>simp[E])) u2 v2 hl (L w' r5) Y W;rw[lM,show mid+U2.length=e by omega,eb]at this;refine this.mono ?_;rintro x z⟨rfl,M,q1,q2,q3,q4,q5⟩;refine⟨rfl,aF z d M ?_ r2 q2 r3 q3 r4 q4 (r5.Au q5 λ_ h _=>h)⟩;rw[<-C8 A d M];exact q1
end
section
variable {w wr:World} {g cap n k wb a m b mid nn s0 r0 s:Nat} {len:Int} {A U V Z D:List Pu}
def Wg(hk:MJ k)(aK:U.length+V.length<=k+1)(aO:2<=U.length)(aQ:2<=V.length)(hn:n=(A++U++V++Z).length)(hD:D=A++U++V++Z)(h:wr.ownsRow 0 113 3 (.slice (some ⟨g,0,none⟩) n cap) n (AZ D))(aR:A4 (λ_=>False) w wr)(hT:∀p∈U++V,Ax p.2.1)(aL:B2 (AH len) U)(aN:B2 (AH len) V)(hl:1<=len/\len<=4611686018427387904)(hw:w.cell? ⟨wb,0,none⟩=some (.int .i64 len))(aM:wb≠g)(aI:n<=4294967296)(ha:A.length=a)(hm:a+U.length=m)(hb:m+V.length=b)(W:(a+b)/2=mid)(aP:nn=mid+m)(aH:if mid<m then s0=nn-b/\r0=mid else s0=a/\r0=m)(hs:Gf (AH len) D nn s0 r0 s s):
 ∃(e:Nat) (u1 I O v2:Bool) (aF aE:World->Prop),(wrap64 ((nn:Int)-(s:Int))=(e:Int)/\IntKind.i64.wrap ((nn:Int)-(s:Int))=(e:Int))/\
  (decide (s<m)=I/\decide (m<e)=O/\decide (a<s)=u1/\decide (s<mid)=O/\decide (mid<e)=I/\decide (e<b)=v2)/\((u1=true\/I=true)/\(O=true\/v2=true))/\
  ((I=false\/O=false)->aF wr)/\
  (I=true->O=true->∀cv,Calls Tryz.prog 263 #[.slice (some ⟨g,0,none⟩) n cap,.int .i64 s,.int .i64 m,.int .i64 e,cv] wr λx w'=>x=.returned (.tuple #[])/\aF w')/\
  (∀w',aF w'->(u1=false\/O=false)->aE w')/\
  (∀w',aF w'->u1=true->O=true->Calls Tryz.prog 244 #[.slice (some ⟨g,0,none⟩) n cap,.int .i64 a,.int .i64 s,.int .i64 mid,.func (Fn.func 155) #[] #[.pointer (some ⟨wb,0,none⟩)]] w' λx aA=>x=.returned (.tuple #[])/\aE aA)/\
  (∀w',aE w'->(I=false\/v2=false)->∃M,w'.ownsRow 0 113 3 (.slice (some ⟨g,0,none⟩) n cap) n (AZ (A++M++Z))/\M.length=U.length+V.length/\B2 (AH len) M/\Br (AH len) (U++V) M/\A4 (One g) w w')/\
  (∀w',aE w'->I=true->v2=true->Calls Tryz.prog 244 #[.slice (some ⟨g,0,none⟩) n cap,.int .i64 mid,.int .i64 e,.int .i64 b,.func (Fn.func 155) #[] #[.pointer (some ⟨wb,0,none⟩)]] w' λx aA=>x=.returned (.tuple #[])/\
   ∃M,aA.ownsRow 0 113 3 (.slice (some ⟨g,0,none⟩) n cap) n (AZ (A++M++Z))/\M.length=U.length+V.length/\B2 (AH len) M/\Br (AH len) (U++V) M/\A4 (One g) w aA):=by
 have hbn:b<=n:=by rw[hn];simp;omega
 have hs3:=hs.2.2.1;have hg:r0<=nn/\nn<=8589934592/\a<mid/\mid<b:=by split at aH<;>omega
 obtain⟨g3,g5,g6,g7⟩:=hg;obtain⟨U1,U2,V1,V2,hU,hV,c1,c2,c3,c4,c5⟩:=A1N hD aO aQ (by rw[ha,hm,hb,W];exact aP) (by rw[ha,hm,hb,W];exact aH) hs;rw[ha,hm,hb,W]at c3;rw[ha]at c1;rw[ha,hm]at c2;generalize he:nn-s=e at c2;have lU:U.length=U1.length+U2.length:=by rw[hU,Ba]
 have lV:V.length=V1.length+V2.length:=by rw[hV,Ba]
 have aJ:=@List.length_pos_iff _ U1;have aB:=@List.length_pos_iff _ U2;have aD:=@List.length_pos_iff _ V1;have aG:=@List.length_pos_iff _ V2;obtain⟨aF,aE,p1,p2,p3,p4,p5,p6⟩:=Wh (w:=w) (wr:=wr) (g:=g) (cap:=cap) (n:=n) (wb:=wb) (a:=a) (s:=s) (m:=m) (e:=e) (b:=b) (mid:=mid) (len:=len) (A:=A) (U1:=U1) (U2:=U2) (V1:=V1) (V2:=V2) (Z:=Z) hk (by rw[<-hU,<-hV];exact aK) (by rw[<-hU,<-hV];exact hn)
  (by rw[<-hU,<-hV,<-hD];exact h) (aR.ad λ_ _ h=>h.elim) (by rw[<-hU,<-hV];exact hT) (by rw[<-hU];exact aL) (by rw[<-hV];exact aN) hl hw aM aI c4 c5 ha c1 (by omega) (by omega) (by omega) (by omega) g6 g7
 rw[<-hU,<-hV]at p5 p6;obtain⟨u1,X⟩:∃u1,decide (U1≠[])=u1:=⟨_,rfl⟩;obtain⟨I,z⟩:∃I,decide (U2≠[])=I:=⟨_,rfl⟩;obtain⟨O,d⟩:∃O,decide (V1≠[])=O:=⟨_,rfl⟩;obtain⟨v2,Y⟩:∃v2,decide (V2≠[])=v2:=⟨_,rfl⟩;have E:∀ {L:List Pu} {x:Bool},decide (L≠[])=x->(x=true->L≠[])/\(x=false->L=[]):=λh=>by
  subst h;exact⟨λh=>by simpa using h,λh=>by simpa using h⟩
 refine⟨e,u1,I,O,v2,aF,aE,GC (by omega) (by omega),⟨z ▸ KP.2 (by rw[<-aB];omega),d ▸ KP.2 (by rw[<-aD];omega),X ▸ KP.2 (by rw[<-aJ];omega),d ▸ KP.2 (by rw[<-aD];omega),z ▸ KP.2 (by rw[<-aB];omega),Y ▸ KP.2 (by rw[<-aG];omega)⟩,⟨?_,?_⟩,
  λh=>p1 (h.imp (E z).2 (E d).2),λh h'=>p2 ((E z).1 h) ((E d).1 h'),λw' q h=>p3 w' q (h.imp (E X).2 (E d).2),λw' q h h'=>p4 w' q ((E X).1 h) ((E d).1 h'),λw' q h=>p5 w' q (h.imp (E z).2 (E Y).2),λw' q h h'=>p6 w' q ((E z).1 h) ((E Y).1 h')⟩
 ·rw[<-X,<-z];simp only[DO,<-aJ,<-aB];omega
 ·rw[<-d,<-Y];simp only[DO,<-aD,<-aG];omega
end
section
variable {w w':World} {g cap n:Nat}
def Wm{k:Nat}(hk:MJ k)(w:World)(g cap n wb:Nat)(len:Int)(A U V Z:List Pu)(a1:U.length+V.length<=k+1)(hU:2<=U.length)(hV:2<=V.length)(hn:n=(A++U++V++Z).length)(h:w.ownsRow 0 113 3 (AB g n cap) n (AZ (A++U++V++Z)))(hT:∀p∈U++V,Ax p.2.1)(aR:B2 (AH len) U)(a5:B2 (AH len) V)(hl:1<=len/\len<=4611686018427387904)(hw:A8 w wb 0 (A0 len))(aX:wb≠g)(L:n<=4294967296):
 Ag 244 #[AB g n cap,A0 A.length,A0 ((A.length+U.length:Nat):Int),A0 ((A.length+U.length+V.length:Nat):Int),.func (Fn.func 155) #[] #[A6 wb]] w (Aj (.tuple #[]) λw'=>
  ∃M,w'.ownsRow 0 113 3 (AB g n cap) n (AZ (A++M++Z))/\M.length=U.length+V.length/\B2 (AH len) M/\Br (AH len) (U++V) M/\A4 (One g) w w'):=by
 obtain⟨D,hD⟩:∃D,D=A++U++V++Z:=⟨_,rfl⟩;obtain⟨a,ha⟩:∃a,A.length=a:=⟨_,rfl⟩;obtain⟨m,hm⟩:∃m,a+U.length=m:=⟨_,rfl⟩;obtain⟨b,hb⟩:∃b,m+V.length=b:=⟨_,rfl⟩;obtain⟨mid,I⟩:∃mid,(a+b)/2=mid:=⟨_,rfl⟩;obtain⟨nn,aG⟩:∃nn,nn=mid+m:=⟨_,rfl⟩;obtain⟨s0,r0,E⟩:∃s0 r0,if mid<m then s0=nn-b/\r0=mid else s0=a/\r0=m:=by
  split
  ·exact⟨_,_,rfl,rfl⟩
  ·exact⟨_,_,rfl,rfl⟩
 have aO:b<=n:=by rw[hn];simp;omega
 have bG:s0<r0/\r0<b/\r0<=nn/\nn<=s0+b/\nn<=8589934592/\a<mid/\mid<b/\a<=s0/\a+r0<=nn:=by split at E<;>omega
 obtain⟨g1,g2,g3,g4,g5,g6,g7,g8,g9⟩:=bG;have aD:Hid (∀s r,s0<=s->s<r->r<=r0->_):=λs r q1 q2 q3=>Wi (a:=a) (nn:=nn) L aO q1 q2 q3 g2 g3 g4 g5 g8 g9;rw[<-hD]at h;have aA:Hid (∀wr s,A4 Aa w wr->Gf (AH len) D nn s0 r0 s s->_):=λwr s q1 q2=>Wg hk a1 hU hV hn hD (Aw h λg' hg=>q1.Am g' (Ay h hg) (λh=>h)) q1 hT aR a5 hl hw aX L ha hm hb I aG E q2;have a7:Hid (∀z,A4 Aa w z->∀q (hq:q<n) x,D[q]?=some x->A8 z g (q*3) (A0 x.1)/\A8 z g (q*3+1) (A0 x.2.1)/\A8 z g (q*3+2) (A0 x.2.2)):=λz hx q hq x bR=>by
  obtain⟨e1,e2⟩:=HE.1 bR;obtain⟨y1,y2,y3⟩:=B5.bw h q e1 x e2;exact⟨hx.ag y1,hx.ag y2,hx.ag y3⟩
 have aF:Hid (∀q,a<=q->q<b->∃x,D[q]?=some x/\Ax x.2.1):=λq hq1 hq2=>by
  obtain⟨j,rfl⟩:∃j,q=A.length+j:=⟨q-A.length,by omega⟩;have hj:j<(U++V).length:=by simp;omega
  have e:D[A.length+j]?=some ((U++V)[j]'hj):=by
   rw[hD,C8 A U V,IE (by simp at hj ⊢;omega),HF (by omega)];simp only[A3B];exact DQ hj
  exact⟨_,e,hT _ (BT hj)⟩
 obtain⟨lu,aK⟩:∃lu,U.length=lu:=⟨_,rfl⟩;obtain⟨lv,aP⟩:∃lv,V.length=lv:=⟨_,rfl⟩;obtain⟨ab,aM⟩:∃ab,a+b=ab:=⟨_,rfl⟩;obtain⟨p,hp⟩:∃p,nn-1=p:=⟨_,rfl⟩;obtain⟨⟨w1,bC⟩,⟨w2,bO⟩,f1,f2,⟨w3,a9⟩,w4,⟨w5,bD⟩,⟨w6,bE⟩,⟨w7,bF⟩⟩:=Wj (lu:=lu) (lv:=lv) L aO (by rw[<-aK];exact hm) (by rw[<-aP];exact hb) aM (by rw[<-aM];exact I) aG hp (by rw[<-aK];exact hU) (by rw[<-aP];exact hV);have bU:=Mn (Hu.1 f1);have bL:=Mn (Hu.1 f2);rw[hp]at aD;have W:Hid (if mid<m then (wrap64 ((nn:Int)-(b:Int))=(s0:Int)/\IntKind.i64.wrap ((nn:Int)-(b:Int))=(s0:Int))/\r0=mid else s0=a/\r0=m):=by
  unfold Hid;split at E
  ·rename_i aB;rw[Ai aB];obtain⟨q1,q2⟩:=Wk I aG aB E.1 g5;exact⟨GC q1 q2,E.2⟩
  ·rename_i aB;rw[Ae aB];exact E
 have aS:n<=cap/\cap<=9223372036854775807:=by
  obtain⟨a',c',e,h1,h2,_⟩:=Bk h;cases e;unfold maxLen at h2;omega
 obtain⟨hc1,hc2⟩:=aS;have b1:=A1 hw;have a2:=A1 hl;have b5:=A1 hp;have a4:=A1 <| Fb g1;rw[ha,hm,hb];clear h hT hw hl aX hk L hn ha hm hb I aG E g1 g2 g3 g4 g5 g6 g7 g8 g9 aM aK aP a1 hU hV aR a5 hD aO hp;by_cases aE:mid<m
 all_goals
  have a6:=W.o
  first
   | rw[Ai aE]at a6
   | rw[Ae aE]at a6
 focus
  obtain⟨⟨x1,x2⟩,hr⟩:=a6;have bS:=A1 hr;have bK:Hid (∀_:Nat,s0=s0):=λ_=>rfl;have bN:=Ff.2 aE;clear hr
 rotate_left
 focus
  obtain⟨hs,hr⟩:=a6;have bS:=A1 hr;have bK:Hid (∀_:Nat,s0=a):=λ_=>hs;have bN:=Mn (by omega);clear hr hs
 all_goals
  clear W aE
  go_enter func244,ntmps244
  go_wp2;go_loopw [20,21] (λiv jv wr=>∃(s r:Nat),iv=A0 (s:Int)/\jv=A0 (r:Int)/\Hid (Gf (AH len) D nn s0 r0 s r/\A4 Aa w wr)) (λiv jv _=>(intOf jv).toNat-(intOf iv).toNat)
  case atStart=>exact⟨s0,r0,by first|go_num|rw[bK.o 0],by rw[bS.o],Gf.fx D nn a4.o,A4.C _ _⟩
  case round=>
   obtain⟨s,r,rfl,rfl,hI⟩:=hrel;obtain⟨i1,i2⟩:=hI.o;by_cases Y:s<r
   ·obtain⟨n1,n2,n3,n4,n5,n6,n7,n8,n9,bM,l1,l2,l3,l4⟩:=aD.o s r i1.1 Y i1.2.2.1;generalize hc:(s+r)/2=c at n3 n4 n5 n6 n7 n8 n9 bM l1 l2 l3 l4;generalize hd:p-c=d at n7 n8 n9 l3 l4;generalize aU:s+r=sr at n1 n2 n3;have hp:=b5.o;obtain⟨x,hx,aV⟩:=aF.o c l1 l2;obtain⟨y,hy,aT⟩:=aF.o d l3 l4;(have aN:D[nn-1-c]?=some y:=by rw[hp,hd];exact hy);have bJ:Hid (∀z,A4 Aa wr z->(A8 z g (d*3) (A0 y.1)/\A8 z g (d*3+1) (A0 y.2.1)/\A8 z g (d*3+2) (A0 y.2.2))/\A8 z g (c*3) (A0 x.1)/\A8 z g (c*3+1) (A0 x.2.1)/\A8 z g (c*3+2) (A0 x.2.2)):=λz aJ=>by
     have a0:=i2.tr aJ;exact⟨a7.o z a0 d n7 y hy,a7.o z a0 c n6 x hx⟩
    have a3:=A1 (λz aJ=>Mv z wb len y x aT aV a2.o aJ);have aH:=Mu (len:=len) (p:=y) (q:=x);generalize bQ:GV len y x=cc at a3 aH;have aI:=i2.ag b1.o
    have b9:Hid (¬cc<0->Gf (AH len) D nn s0 r0 (c+1) r):=λhc=>i1.up ⟨n4,n5⟩ hx aN (by
     cases hk:AH len y x with
     | false=>rfl
     | true=>exact absurd (aH.2 hk) hc)
    have bT:Hid (cc<0->Gf (AH len) D nn s0 r0 s c):=λhc=>i1.eQ ⟨n4,n5⟩ hx aN (aH.1 hc);have DI:=Ff.2 n7;have CI:=Ff.2 n6;have D0:=BR d;have C0:=BR c;have tD:=EG d;have tC:=EG c;have hsrI:=Ff.2 Y;obtain⟨xa,xb,xc⟩:=x;obtain⟨ya,yb,yc⟩:=y;unfold DV at a3;dsimp only at a3 bJ;have bX:=bJ.o wr.drew (A4.C _ wr).aa;have aQ:=A1 (a3.o wr.drew aI);have X:=A1 (And.intro i2 (And.intro n4 n5));clear hI i1 i2 n4 n5 n6 n7 hc hd aU hx hy aN aV aT bQ a3 aI Y aD a7 aF aH hp aA l1 l2 l3 l4;rcases PE (cc<0) with O|O
    focus
     have aL:=Int.not_le.2 O;have bB:=Ct O
    rotate_left
    focus
     have aL:=Pz.1 O;have bB:=Cu O
    all_goals
     go_wp2;clear n1 n2 n3;refine Bt (λw'=>(A8 w' g (d*3) (A0 ya)/\A8 w' g (d*3+1) (A0 yb)/\A8 w' g (d*3+2) (A0 yc))/\A8 w' g (c*3) (A0 xa)/\A8 w' g (c*3+1) (A0 xb)/\A8 w' g (c*3+2) (A0 xc)) 12
      (Bb [0,1,2,3,4,5,6,7,8,9,10,11] [11]) bX ?_
     iterate 11 (refine B1 ?_;(try simp only[Ak]))
     refine Bd λK hK=>?_;go_simp;refine aQ.m ?_;rintro e w6⟨rfl,aZ⟩;have k6:A4 Aa wr w6:=((A4.C Aa wr).aa).tr aZ;refine hK _ _ (bJ.o w6 k6) (λhS=>?_);have b2:=A1 k6;clear hK K hS aZ k6 bX aQ
     (try simp only[Ak])
     refine B4 ?_;simp only[Bm,Bl];go_wp2;go_roundw
     case rel=>
      obtain⟨f1,f2,f3⟩:=X.o
      first
       | exact⟨c+1,r,rfl,rfl,b9.o (by first|exact aL|exact Pz.2 aL),f1.tr b2.o⟩
       | exact⟨s,c,rfl,rfl,bT.o O,f1.tr b2.o⟩
     case measure=>
      obtain⟨f1,f2,f3⟩:=X.o
      first
       | exact Ob f2 f3
       | exact Oc f2 f3
   ·obtain rfl:s=r:=L7 i1.2.1 (IA Y);obtain⟨e,u1,u2,v1,v2,R1,R2,⟨y1,y2⟩,⟨b8,cA,cB,b7,b6,cC⟩,⟨ou,ov⟩,p1,p2,p3,p4,p5,p6⟩:=aA.o wr s i2 i1;have bI:=A1 p1;have b0:=A1 p2;have bH:=A1 p3;have bY:=A1 p4;have bP:=A1 p5;have b3:=A1 p6;have bZ:=A1 ou;have bW:=A1 ov;have hno:¬((s:Int)<(s:Int)):=N6 _;clear hI i1 i2 Y aD a7 aF aA p1 p2 p3 p4 p5 p6 ou ov a2 b1 bS bK b5 a4 w1 bC w2 bO f1 bU f2 bL w3 a9 w4 w5 bD w6 bE w7 bF;cases u1<;>cases u2<;>cases v1<;>cases v2
    all_goals first
     | (exfalso;have:=bZ.o;revert this;decide)
     | (exfalso;have:=bW.o;revert this;decide)
     | skip
    all_goals
     simp only[DO,A1G]at b8 cA cB b7 b6 cC
    all_goals first
     | have b4:=A1 (b0.o rfl rfl (.func (Fn.func 155) #[] #[A6 wb]))
     | have a8:=A1 (bI.o (.inl rfl))
     | have a8:=A1 (bI.o (.inr rfl))
    all_goals first
     | have aW:=A1 (λw' q=>bY.o w' q rfl rfl)
     | have aW:=A1 (λw' q=>bH.o w' q (.inl rfl))
     | have aW:=A1 (λw' q=>bH.o w' q (.inr rfl))
    all_goals first
     | have aY:=A1 (λw' q=>b3.o w' q rfl rfl)
     | have aY:=A1 (λw' q=>bP.o w' q (.inl rfl))
     | have aY:=A1 (λw' q=>bP.o w' q (.inr rfl))
    all_goals clear bI b0 bH bY bP b3 bZ bW
    all_goals go_wp2_with (fail)
    all_goals try
     (go_at_call 263;refine b4.m ?_;rintro x w4⟨rfl,hR⟩;have a8:=A1 hR;clear hR b4;go_wp2_with (fail))
    all_goals first
     | (go_at_call 244;refine(aW.o _ a8.o).mono ?_;rintro x w5⟨rfl,hR⟩;have bV:=A1 hR;clear hR aW;go_wp2_with (fail))
     | have bV:=A1 (aW.o _ a8.o)
    all_goals first
     | (go_at_call 244;refine(aY.o _ bV.o).mono ?_;rintro x w6⟨rfl,hR⟩;have bA:=A1 hR;clear hR aY;go_wp2_with (fail))
     | have bA:=A1 (aY.o _ bV.o)
    all_goals go_end0
    all_goals first
     | exact⟨rfl,bA.o⟩
     | exact⟨rfl,by simpa only[C8] using bA.o⟩
end
def Qo:∀k,MJ k
 | 0=>λw g cap n wb len A U V Z hk hu hv=>by
  have:=IC.2 hu;omega
 | k+1=>λw g cap n wb len A U V Z hk hu hv O h W E L Y X z d=>by
  have lu:=IC.2 hu;have lv:=IC.2 hv;by_cases h1:U.length=1
  ·obtain⟨x,rfl⟩:=A3N.1 h1;(have e:A++[x]++V++Z=A++x::(V++Z):=by simp);rw[e]at O h;have:=Wl w g cap n wb len A V Z x hv O h (by simpa using W) L Y X z d;simp only[UI]at this ⊢;refine this.mono ?_;rintro x' w'⟨rfl,M,q1,q2,q3,q4,q5⟩;exact⟨rfl,M,q1,by rw[q2];omega,q3,by simpa using q4,q5⟩
  ·by_cases h2:V.length=1
   ·obtain⟨x,rfl⟩:=A3N.1 h2;(have e:A++U++[x]++Z=A++(U++x::Z):=by simp);rw[e]at O h;have:=Wn w g cap n wb len A U Z x (by omega) O h (λp I=>W p (by simp at I ⊢;rcases I with I|I<;>simp[I])) E Y X z d;simp only[UI]at this ⊢;exact this
   ·exact Wm (Qo k) w g cap n wb len A U V Z hk (by omega) (by omega) O h W E L Y X z d
end
end Go.Proofs.YtodcnkbblippnaaGreatDoor
