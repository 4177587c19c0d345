/- Part 13 of a proof: walks of the program. -/
import Derived.Test.YtodcnkbblippnaaGreatDoorPart12
namespace Go.Proofs.YtodcnkbblippnaaGreatDoor
set_option maxRecDepth 100000
set_option maxHeartbeats 32000000
set_option linter.defProp false
open Go.Proofs.Tryz
section
open Go.RowKit
attribute [local go_sem ↓] Cw
def RA(l:List Pu):(AZ l).length=l.length*3:=by
 induction l with
 | nil=>rfl
 | cons p r ih=>obtain⟨a,b,c⟩:=p;simp only[AZ,Cq,ih];omega
def Rz:∀(l:List Pu) (k:Nat) (_:k<l.length) (p:Pu),AZ (l.set k p)=(((AZ l).set (k*3) (.int .i64 p.1)).set (k*3+1) (.int .i64 p.2.1)).set (k*3+2) (.int .i64 p.2.2)
 | [],k,h,p=>by simp at h
 | (a,b,c):: r,0,_,p=>by obtain⟨p1,p2,p3⟩:=p;simp[AZ]
 | (a,b,c):: r,k+1,h,p=>by
  have z:=Rz r k (by simpa using h) p;have d:(k+1)*3=k*3+1+1+1:=by omega
  simp only[Pp,AZ,z,d]
def B5.bq{w:World}{g n cap:Nat}{l:List Pu}(h:w.ownsRow 0 113 3 (AB g n cap) n (AZ l))(k:Nat)(d:k<l.length)(p:Pu):
 (((w.setCell (A9 g (k*3)) (A0 p.1)).setCell (A9 g (k*3+1)) (A0 p.2.1)).setCell (A9 g (k*3+2)) (A0 p.2.2)).ownsRow 0 113 3 (AB g n cap) n (AZ (l.set k p)):=by
 rw[Rz l k d p];exact(((h.stored (k*3) _).1.stored (k*3+1) _).1.stored (k*3+2) _).1
def Xd{α:Type}(A C:List α)(x y:α):((A++y::x::C).set (A.length+1) y).set A.length x=A++x::y::C:=by
 have d:(A++y::x::C).set (A.length+1) y=A++y::y::C:=by
  rw[IB _ _ (by omega)];simp
 rw[d,IB _ _ (by omega)];simp
def B5.ga{w:World}{g n cap:Nat}{A C:List Pu}{x y:Pu}(h:w.ownsRow 0 113 3 (.slice (some ⟨g,0,none⟩) n cap) n (AZ (A++y::x::C))):
 (w.cell? ⟨g,A.length*3,none⟩=some (.int .i64 y.1)/\w.cell? ⟨g,A.length*3+1,none⟩=some (.int .i64 y.2.1)/\w.cell? ⟨g,A.length*3+2,none⟩=some (.int .i64 y.2.2))/\
 (w.cell? ⟨g,(A.length+1)*3,none⟩=some (.int .i64 x.1)/\w.cell? ⟨g,(A.length+1)*3+1,none⟩=some (.int .i64 x.2.1)/\w.cell? ⟨g,(A.length+1)*3+2,none⟩=some (.int .i64 x.2.2))/\∀o,w.frozen? ⟨g,o,none⟩=false:=by
 obtain⟨I,O,L⟩:=Ia (A++y::x::C) A.length (by simp);obtain⟨E,d,z⟩:=Ia (A++y::x::C) (A.length+1) (by simp);have W:(A++y::x::C)[A.length]'(by simp)=y:=by simp
 have X:(A++y::x::C)[A.length+1]'(by simp)=x:=by
  rw[FV (by omega)];simp
 rw[W]at I O L;rw[X]at E d z;exact⟨⟨BD h rfl I,BD h rfl O,BD h rfl L⟩,⟨BD h rfl E,BD h rfl d,BD h rfl z⟩,λo=>Ez h rfl o⟩
def A0D{α:Type}{lt:α->α->Bool}(L:Ca lt){m:List α}{x:α}{q:Nat}(hm:B2 lt m)(_hq:q<=m.length)(W:∀y∈m.drop q,lt x y=true)(Y:∀z,(m.take q).getLast?=some z->lt x z=false):
 B2 lt (m.take q++x::m.drop q)/\Br lt (m++[x]) (m.take q++x::m.drop q):=by
 have E:=E0 q m;have hA:B2 lt (m.take q++m.drop q):=by rw[E];exact hm
 obtain⟨X,a2,a3⟩:=hA.aq;have hx:∀y∈m.take q,lt x y=false:=by
  have I:B2 lt [x]:=MS _ _;have:=L.cH X I λz y h d=>by
   simp at d;subst d;exact Y z h
  exact λy d=>this y d x (by simp)
 refine⟨B2.cE X (Dn.2 ⟨λy d=>L.cc (W y d),a2⟩) λy d z h=>?_,?_⟩
 ·rcases BX.1 h with rfl|h
  ·exact hx y d
  ·exact a3 y d z h
 ·have h3:=L.da W;have O:=(Br.C (lt:=lt) (m.take q)).aq h3;rw[<-C8,E]at O;exact O
def T0(w:World)(g cap wb:Nat)(len:Int)(l:List Pu)(a b:Nat)(hab:a<b)(hb:b<=l.length)(h:B5 w (AB g l.length cap) l)(hT:∀p∈l,Ax p.2.1)(hl:1<=len/\len<=4611686018427387904)(hw:A8 w wb 0 (A0 len))(bH:wb≠g)(_hbig:l.length<=4294967296):
 Ag 243 #[AB g l.length cap,A0 a,A0 b,.func (Fn.func 155) #[] #[A6 wb]] w (Aj (.tuple #[]) λw'=>
  ∃m,B5 w' (AB g l.length cap) (l.take a++m++l.drop b)/\m.length=b-a/\Br (AH len) ((l.take b).drop a) m/\B2 (AH len) m/\A4 (One g) w w'):=by
 have bY:=GI len;obtain⟨n,hn⟩:∃n,l.length=n:=⟨_,rfl⟩;have bZ:Hid (w.ownsRow 0 113 3 (AB g n cap) n (AZ l)):=by have:=h;unfold B5 at this;rw[hn]at this;exact this
 rw[hn]at hb ⊢;have aS:n<=cap/\cap<=9223372036854775807:=by
  obtain⟨a',c',e,h1,h2,_⟩:=Bk bZ.o;cases e;unfold maxLen at h2;omega
 obtain⟨hc1,hc2⟩:=aS;have b7:=A1 hT;have cB:=A1 hw;have cG:=A1 hl;have a8:=A1 hn;have bJ:=A1 bH;have eia:wrap64 ((a:Int)+1)=(a:Int)+1:=by unfold wrap64;omega
 go_enter func243,ntmps243
 go_wp2;go_loopw [8] (λiv wr=>∃i:Nat,iv=A0 ((i:Int)+1)/\a<=i/\i+1<=b/\Hid (∃m,wr.ownsRow 0 113 3 (AB g n cap) n (AZ (l.take a++m++l.drop (i+1)))/\m.length=i+1-a/\Br (AH len) ((l.take (i+1)).drop a) m/\B2 (AH len) m/\A4 (One g) w wr)) (λiv _=>b-(intOf iv).toNat)
 case atStart=>
  refine⟨a,rfl,by omega,by omega,(l.take (a+1)).drop a,?_,?_,Br.C _,?_,A4.C _ _⟩
  ·have e:l.take a++(l.take (a+1)).drop a++l.drop (a+1)=l:=by
    have:=E0 (a+1) l
    conv=>rhs;rw[<-this]
    congr 1
    have h2:=E0 a (l.take (a+1));rw[K0]at h2;rw[show min a (a+1)=a by omega]at h2;exact h2
   rw[e];exact bZ.o
  ·have:=a8.o;simp;omega
  ·have aT:((l.take (a+1)).drop a).length<=1:=by simp;omega
   match hx:(l.take (a+1)).drop a,aT with
   | [],_=>exact List.Pairwise.nil
   | [x],_=>exact MS _ _
   | x::y::r,hl=>simp at hl
 case round=>
  obtain⟨i,rfl,hai,hib,hI⟩:=hrel;obtain⟨m,i1,i2,i3,i4,i5⟩:=hI.o;by_cases hi1:i+1<b
  ·obtain⟨w1,bC⟩:∃w1,w1=wr:=⟨_,rfl⟩;subst bC;(have aG:i+1<l.length:=by have:=a8.o;omega);have a6:=FW aG;have a2:=DL aG;have aX:=BT aG;generalize hx:(l[i+1]'aG)=x at a6 a2 aX;rw[a6]at i1;have cA:=A1 i1;have b8:=A1 i2;have b3:=A1 i3;have cD:=A1 i4;have cE:=A1 i5;have bA:Hid ((l.take (i+1+1)).drop a=(l.take (i+1)).drop a++[x]):=by
    unfold Hid;rw[a2,Lk (by simp;omega)]
   have bQ:=A1 (b7.o x aX);(have aY:Hid ((l.take a).length=a):=by unfold Hid;have:=a8.o;simp;omega);(have bF:(i:Int)+1<(b:Int):=by omega);go_wp2
   have aD:Hid (∀(O:World) (q:Nat),q<=m.length->(∀y∈m.drop q,AH len x y=true)->(∀z,(m.take q).getLast?=some z->AH len x z=false)->O.ownsRow 0 113 3 (AB g n cap) n (AZ ((l.take a++m.take q)++x::(m.drop q++l.drop (i+1+1))))->A4 (One g) w O->
    ∃m',O.ownsRow 0 113 3 (AB g n cap) n (AZ (l.take a++m'++l.drop (i+1+1)))/\m'.length=i+1+1-a/\Br (AH len) ((l.take (i+1+1)).drop a) m'/\B2 (AH len) m'/\A4 (One g) w O):=λO q hq h1 h2 h3 h4=>by
    obtain⟨d1,d2⟩:=A0D bY cD.o hq h1 h2;refine⟨m.take q++x::m.drop q,?_,?_,?_,d1,h4⟩
    ·(have e:l.take a++(m.take q++x::m.drop q)++l.drop (i+1+1)=(l.take a++m.take q)++x::(m.drop q++l.drop (i+1+1)):=by simp);rw[e];exact h3
    ·have:=b8.o;simp;omega
    ·rw[bA.o];exact(b3.o.aq (Br.C _)).Au d2
   go_loopw [9] (λjv wr=>∃j q:Nat,jv=A0 (j:Int)/\j<=i+1/\Hid (j=a+q/\q<=m.length/\wr.ownsRow 0 113 3 (AB g n cap) n (AZ ((l.take a++m.take q)++x::(m.drop q++l.drop (i+1+1))))/\(∀y∈m.drop q,AH len x y=true)/\A4 (One g) w wr)) (λjv _=>(intOf jv).toNat)
   case atStart=>
    refine⟨i+1,m.length,by go_num,Ao _,by have:=b8.o;omega,Ao _,?_,(λy hy=>by rw[GN]at hy;cases hy),cE.o⟩;rw[Cc,GN,EU];exact cA.o
   case round=>
    obtain⟨j,q,rfl,bL,hJ⟩:=hrel;obtain⟨j1,j2,j3,j4,j5⟩:=hJ.o;by_cases bI:q=0
    ·subst bI;(have bM:j=a:=by omega);subst bM;have aM:=A1 (λnq=>aD.o (wr.drewN nq) 0 (Ce _) j4 (λz hz=>by simp at hz) (Aw j3 λ_ _=>rfl) (j5.aX nq));(have hjj:¬((j:Int)<(j:Int)):=by omega);clear hJ j1 j2 j3 j4 j5 aD;go_wp2;go_quiet (fail);go_wp2;go_roundw
     case rel=>exact⟨i+1,by go_num,by omega,by omega,aM.o _⟩
     case measure=>simp[intOf];omega
    ·obtain⟨q,rfl⟩:∃q',q=q'+1:=⟨q-1,by omega⟩;obtain⟨P,hP⟩:∃P,a+q=P:=⟨_,rfl⟩;(have bW:j=P+1:=by omega);subst bW;(have aA:q<m.length:=by omega);have aB:=DL aA;have aO:=FW aA;generalize hy:(m[q]'aA)=y at aB aO;(have aE:∀z,(m.take (q+1)).getLast?=some z->z=y:=λz hz=>by rw[aB]at hz;simpa using hz.symm);have aU:Ax y.2.1:=by
      (have bR:y∈m:=by rw[<-hy];exact BT aA);have:=(b3.o.bC.E4 bY bR);exact b7.o y (H3 (K1 this))
     (have aJ:(l.take a++m.take q).length=P:=by have:=aY.o;rw[Ba,this,BI];omega);(have e0:(l.take a++m.take (q+1))++x::(m.drop (q+1)++l.drop (i+1+1))=(l.take a++m.take q)++y::x::(m.drop (q+1)++l.drop (i+1+1)):=by rw[aB];simp);have aF:=j3;rw[e0]at aF;obtain⟨⟨y1,y2,y3⟩,⟨x1,x2,x3⟩,fz⟩:=B5.ga aF;rw[aJ]at y1 y2 y3 x1 x2 x3;have a0:=A1 (λO bK=>Mv O wb len x y bQ.o aU cG.o bK);have bU:=A2g len x y;have aN:=Mu (len:=len) (p:=x) (q:=y);generalize bT:GV len x y=cc at a0 bU aN;have aH:=j5.bD cB.o (λe=>bJ.o e);have b2:=A1 j3;have aZ:=A1 aF;have b6:=A1 j4;have b1:=A1 j5;have a3:=A1 aO;have HTQ:=A1 aB;have aK:=A1 aE;have W:=A1 aJ;have cF:=A1 hP;have aW:=A1 aA;have bO:=A1 bL;have a5:=A1 aN;(have hPn:(P:Int)+1<(n:Int):=by omega);(have hPn2:(P:Int)<(n:Int):=by omega);have hP0:=BR P;(have hPa:(a:Int)<(P:Int)+1:=by omega);(have pk:(0:Int)<=(P:Int)+1:=by omega);(have bG:IntKind.i64.wrap (P:Int)=P:=by simp[IntKind.wrap,IntKind.bits,IntKind.signed];omega);(have ew1:IntKind.i64.wrap ((P:Int)+1-1)=P:=by rw[Jk];exact bG);(have ew2:wrap64 ((P:Int)+1-1)=P:=by unfold wrap64;omega);(have ew3:wrap64 (P:Int)=P:=by unfold wrap64;omega);have tk:=EG (P+1);obtain⟨X,d,Y⟩:=x;obtain⟨I,L,E⟩:=y;dsimp only at y1 y2 y3 x1 x2 x3;unfold DV at a0;dsimp only at a0;have a7:Hid (∀O,A4 Aa wr O->A8 O g (P*3) (A0 I)/\A8 O g (P*3+1) (A0 L)/\A8 O g (P*3+2) (A0 E)/\A8 O g ((P+1)*3) (A0 X)/\A8 O g ((P+1)*3+1) (A0 d)/\A8 O g ((P+1)*3+2) (A0 Y)):=λO hx=>
      ⟨hx.ag y1,hx.ag y2,hx.ag y3,hx.ag x1,hx.ag x2,hx.ag x3⟩
     have b0:=a7.o wr.drew (A4.C _ wr).aa;have aQ:=A1 (a0.o wr.drew aH);clear hJ j1 j2 j3 aF j4 j5 aB aO aE aJ hP aN aU hy bT e0 a0 aH aA fz;by_cases aR:cc<0
     ·(have bS:¬(0<=cc):=by omega);go_wp2;refine Bt (λw'=>A8 w' g (P*3) (A0 I)/\A8 w' g (P*3+1) (A0 L)/\A8 w' g (P*3+2) (A0 E)/\A8 w' g ((P+1)*3) (A0 X)/\A8 w' g ((P+1)*3+1) (A0 d)/\A8 w' g ((P+1)*3+2) (A0 Y)) 16
       (Bb [0,1,2,3,4,5,6,7,8,9,10,11,12,13,14,15] [14]) b0 ?_
      iterate 14 (refine B1 ?_;(try simp only[Ak]))
      refine Bd λK hK=>?_;go_simp;refine aQ.m ?_;rintro e w6⟨rfl,aL⟩;have k6:=((A4.C Aa wr).aa).tr aL;refine hK _ _ (a7.o w6 k6) (λhS=>?_);have b4:=A1 k6;have b9:=a7.o w6 k6
      (try simp only[Ak])
      (refine B1 ?_;(try simp only[Ak]))
      refine B4 ?_;simp only[Bm,Bl];obtain⟨y1,y2,y3,x1,x2,x3⟩:=b9;have bX:Hid (w6.ownsRow 0 113 3 (AB g n cap) n (AZ ((l.take a++m.take q)++(I,L,E):: (X,d,Y):: (m.drop (q+1)++l.drop (i+1+1))))):=Aw aZ.o λg' hg=>b4.o.Am g' (Ay aZ.o hg) (λh=>h);have fz:∀o,w6.frozen? (A9 g o)=false:=λo=>Ez bX.o rfl o;go_wp2;refine Lr 15 (λw'=>A8 w' g (P*3) (A0 I)/\A8 w' g (P*3+1) (A0 L)/\A8 w' g (P*3+2) (A0 E)/\A8 w' g ((P+1)*3) (A0 X)/\A8 w' g ((P+1)*3+1) (A0 d)/\A8 w' g ((P+1)*3+2) (A0 Y)) 16
       [(0,1),(1,1),(5,1),(6,1),(7,1),(8,1),(9,1),(10,2),(11,2),(12,2),(13,1),(14,1),(2,2),(3,2),(4,2),(15,0)] ⟨y1,y2,y3,x1,x2,x3⟩ ?_
      iterate 7 (refine I6 ?_;(try simp only[Ak]))
      iterate 3 (refine I7 ?_;(try simp only[Ak]))
      iterate 2 (refine I6 ?_;(try simp only[Ak]))
      iterate 3 (refine I7 ?_;(try simp only[Ak]))
      refine Lt λK hK=>?_;go_simp;refine hK _ _ ?_
      (try simp only[Ak])
      refine Ls ?_;simp only[Bm,Bl];have e1:((l.take a++m.take q)++(I,L,E):: (X,d,Y):: (m.drop (q+1)++l.drop (i+1+1))).length=((l.take a++m.take q)++(I,L,E):: (X,d,Y):: (m.drop (q+1)++l.drop (i+1+1))).length:=rfl;have aP:=B5.bq bX.o (P+1) (by have:=W.o;rw[Ba,W.o];simp) (I,L,E);have bP:=B5.bq aP P (by have:=W.o;rw[Hi,Ba,W.o];simp) (X,d,Y);have a1:=Xd (l.take a++m.take q) (m.drop (q+1)++l.drop (i+1+1)) (X,d,Y) (I,L,E);rw[W.o]at a1;rw[a1]at bP;have aI:∀hh,(((l.take a++m.take q)++(I,L,E):: (X,d,Y):: (m.drop (q+1)++l.drop (i+1+1))).set (P+1) (I,L,E))[P]'hh=(I,L,E):=λhh=>by
       rw[A3P (by omega)];rw[FV (by rw[W.o];exact Ao _)];simp[W.o]
      obtain⟨p1,p2,p3⟩:=Ia _ P (show P<(((l.take a++m.take q)++(I,L,E):: (X,d,Y):: (m.drop (q+1)++l.drop (i+1+1))).set (P+1) (I,L,E)).length by rw[Hi,Ba,W.o];simp);rw[aI]at p1 p2 p3;have z1:=BD aP rfl p1;have z2:=BD aP rfl p2;have z3:=BD aP rfl p3;dsimp only at aP bP z1 z2 z3;have bE:=A1 bP;have bV:∀o,((((w6.setCell (A9 g ((P+1)*3)) (A0 I)).setCell (A9 g ((P+1)*3+1)) (A0 L)).setCell (A9 g ((P+1)*3+2)) (A0 E))).drew.frozen? (A9 g o)=false:=λo=>Ez aP rfl o;have b5:Hid (A4 (One g) wr (((((((w6.setCell (A9 g ((P+1)*3)) (A0 I)).setCell (A9 g ((P+1)*3+1)) (A0 L)).setCell (A9 g ((P+1)*3+2)) (A0 E)).drew.setCell (A9 g (P*3)) (A0 X)).setCell (A9 g (P*3+1)) (A0 d)).setCell (A9 g (P*3+2)) (A0 Y)))):=
       ((((((b4.o.ad (S':=One g) λ_ _ h=>h.elim).aj (b:=g) rfl _ _).aj (b:=g) rfl _ _).aj (b:=g) rfl _ _).aa.aj (b:=g) rfl _ _).aj (b:=g) rfl _ _).aj (b:=g) rfl _ _
      have a4:Hid ((((((((w6.setCell (A9 g ((P+1)*3)) (A0 I)).setCell (A9 g ((P+1)*3+1)) (A0 L)).setCell (A9 g ((P+1)*3+2)) (A0 E)).drew.setCell (A9 g (P*3)) (A0 X)).setCell (A9 g (P*3+1)) (A0 d)).setCell (A9 g (P*3+2)) (A0 Y))).ownsRow 0 113 3 (AB g n cap) n (AZ ((l.take a++m.take q)++(X,d,Y):: (I,L,E):: (m.drop (q+1)++l.drop (i+1+1))))):=Aw bE.o λ_ _=>rfl;have bD:((((w6.setCell (A9 g ((P+1)*3)) (A0 I)).setCell (A9 g ((P+1)*3+1)) (A0 L)).setCell (A9 g ((P+1)*3+2)) (A0 E))).drew.cell? (A9 g (P*3))=some (A0 I):=z1;have bN:((((w6.setCell (A9 g ((P+1)*3)) (A0 I)).setCell (A9 g ((P+1)*3+1)) (A0 L)).setCell (A9 g ((P+1)*3+2)) (A0 E))).drew.cell? (A9 g (P*3+1))=some (A0 L):=z2;have a9:((((w6.setCell (A9 g ((P+1)*3)) (A0 I)).setCell (A9 g ((P+1)*3+1)) (A0 L)).setCell (A9 g ((P+1)*3+2)) (A0 E))).drew.cell? (A9 g (P*3+2))=some (A0 E):=z3;generalize (((w6.setCell (A9 g ((P+1)*3)) (A0 I)).setCell (A9 g ((P+1)*3+1)) (A0 L)).setCell (A9 g ((P+1)*3+2)) (A0 E)).drew=w7 at bV b5 a4 bD bN a9 ⊢;go_wp2;go_roundw
      case rel=>
       refine⟨P,q,rfl,Fb bO.o,cF.o.symm,Fb aW.o,?_,?_,?_⟩
       ·(have e2:(l.take a++m.take q)++(X,d,Y):: (m.drop q++l.drop (i+1+1))=(l.take a++m.take q)++(X,d,Y):: (I,L,E):: (m.drop (q+1)++l.drop (i+1+1)):=by rw[a3.o];rfl);rw[e2];exact Aw a4.o λ_ _=>rfl
       ·intro z hz;rw[a3.o]at hz;rcases BX.1 hz with rfl|hz
        ·exact a5.o.1 aR
        ·exact b6.o z hz
       ·exact b1.o.tr b5.o
      case measure=>simp[intOf]
     ·(have bS:0<=cc:=by omega);have aM:Hid (∀O,A4 Aa wr O->∃m',O.ownsRow 0 113 3 (AB g n cap) n (AZ (l.take a++m'++l.drop (i+1+1)))/\m'.length=i+1+1-a/\Br (AH len) ((l.take (i+1+1)).drop a) m'/\B2 (AH len) m'/\A4 (One g) w O):=λO hx=>
       aD.o O (q+1) aW.o b6.o (λz hz=>by
        rw[aK.o z hz];cases hk:AH len (X,d,Y) (I,L,E) with
        | false=>rfl
        | true=>exact absurd (a5.o.2 hk) aR) (Aw b2.o λg' hg=>hx.Am g' (Ay b2.o hg) (λh=>h)) (b1.o.Au hx λ_ h _=>h.elim)
      go_wp2;refine Bt (λw'=>A8 w' g (P*3) (A0 I)/\A8 w' g (P*3+1) (A0 L)/\A8 w' g (P*3+2) (A0 E)/\A8 w' g ((P+1)*3) (A0 X)/\A8 w' g ((P+1)*3+1) (A0 d)/\A8 w' g ((P+1)*3+2) (A0 Y)) 16
       (Bb [0,1,2,3,4,5,6,7,8,9,10,11,12,13,14,15] [14]) b0 ?_
      iterate 14 (refine B1 ?_;(try simp only[Ak]))
      refine Bd λK hK=>?_;go_simp;refine aQ.m ?_;rintro e w6⟨rfl,aL⟩;have k6:=((A4.C Aa wr).aa).tr aL;refine hK _ _ (a7.o w6 k6) (λhS=>?_);have aV:=A1 (aM.o w6 k6)
      (try simp only[Ak])
      (refine B1 ?_;(try simp only[Ak]))
      refine B4 ?_;simp only[Bm,Bl];go_wp2;go_roundw
      case rel=>exact⟨i+1,by go_num,by omega,by omega,aV.o⟩
      case measure=>simp[intOf];omega
  ·(have bB:i+1=b:=by omega);subst bB;have cC:=A1 hI.o;(have bF:¬((i:Int)+1<((i+1:Nat):Int)):=by omega);go_wp2;go_end0;obtain⟨m',q1,q2,q3,q4,q5⟩:=cC.o;refine⟨rfl,m',?_,q2,q3,q4,q5⟩;unfold B5;rw[C8]at q1
   try rw[C8]
   (have e:(l.take a++(m'++l.drop (i+1))).length=n:=by have:=a8.o;simp;omega);rw[e];exact q1
def GY(N:Nat):Prop:=∀(w:World) (v:Value) (wb:Nat) (len:Int) (l:List Pu),l.length<=N->B5 w v l->(∀p∈l,Ax p.2.1)->(1<=len/\len<=4611686018427387904)->w.cell? ⟨wb,0,none⟩=some (.int .i64 len)->(∀g,v.ownBlock=some g->wb≠g)->
 Calls Tryz.prog 154 #[v,.func (Fn.func 155) #[] #[.pointer (some ⟨wb,0,none⟩)]] w λe w'=>e=.returned (.tuple #[])/\B5 w' v (E7 (AH len) l)/\A4 (λk=>v.ownBlock=some k) w w'
def Qy{α:Type}{lt:α->α->Bool}(l:List α):(E7 lt l).length=l.length:=by
 have ins:∀(x:α) (s:List α),(Fo lt x s).length=s.length+1:=by
  intro x s
  induction s with
  | nil=>rfl
  | cons y r ih=>unfold Fo;split<;>simp[ih]
 have key:∀(l s:List α),(l.foldl (λs x=>Fo lt x s) s).length=s.length+l.length:=by
  intro l
  induction l with
  | nil=>intro s;simp
  | cons x r ih=>intro s;rw[Pr,ih,ins];simp;omega
 have:=key l [];simpa[E7] using this
def SZ(w:World)(v c:Value)(a b:Nat)(ha:b<=a+1)(hb:a<=4294967296):
 Ag 243 #[v,A0 a,A0 b,c] w (Aj (.tuple #[]) λw'=>w=w'):=by
 have eia:wrap64 ((a:Int)+1)=(a:Int)+1:=by unfold wrap64;omega
 go_enter func243,ntmps243
 go_wp2;refine I5 1 ?_;rw[Fh];go_wp2;go_end0;exact⟨rfl,rfl⟩
def X1(w:World)(v:Value)(wb:Nat)(len:Int)(l:List Pu)(hn:l.length<=19)(h:B5 w v l)(O:∀p∈l,Ax p.2.1)(hl:1<=len/\len<=4611686018427387904)(hw:A8 w wb 0 (A0 len))(d:∀g,v.ownBlock=some g->wb≠g):
 Ag 202 #[v,A0 l.length,.func (Fn.func 155) #[] #[A6 wb]] w (Aj (.tuple #[]) λw'=>B5 w' v (E7 (AH len) l)/\A4 (λk=>v.ownBlock=some k) w w'):=by
 have z:Hid (Ag 243 #[v,A0 ((0:Nat):Int),A0 l.length,.func (Fn.func 155) #[] #[A6 wb]] w (Aj (.tuple #[]) λw'=>B5 w' v (E7 (AH len) l)/\A4 (λk=>v.oB k) w w')):=by
  by_cases E:l.length=0
  ·have e:l=[]:=Hj.1 E;subst e;refine(SZ w v _ 0 0 (by omega) (by omega)).mono ?_;rintro e w'⟨rfl,rfl⟩;exact⟨rfl,h,A4.C _ _⟩
  ·obtain⟨av,cap,rfl,h1,h2,h3,-,-⟩:=Bk h;obtain⟨g,rfl⟩:=h3 (by omega);refine(T0 w g cap wb len l 0 l.length (by omega) (Ao _) h O hl hw (d g rfl) (by omega)).mono ?_;rintro e w'⟨rfl,m,W,q2,Y,q4,q5⟩;have e1:m=E7 (AH len) l:=(GI len).eC q4 (by simpa using Y);refine⟨rfl,?_,q5.ad λk _ I=>by have e:k=g:=I;subst e;rfl⟩;rw[<-e1];have:=W;simp only[Fe,EU,GN,EF]at this;exact this
 rw[show ((0:Nat):Int)=0 from rfl]at z;have h20:¬((20:Int)<=(l.length:Int)):=by omega
 go_enter func202,ntmps202
 go_wp2;refine I5 1 ?_;rw[Fh];go_wp2_with (fail);refine z.m ?_;rintro e w2⟨rfl,hp,X⟩;have L:=A1 hp;have aA:=A1 X;go_wp2;refine I5 1 ?_;rw[Fh];go_wp2;go_end0;exact⟨rfl,L.o,aA.o⟩
end
section
open Go.RowKit
structure DP (w:World) (B0:Nat) (v:Value) (vs:List Value) (ws:List (List Pu)):Prop where
 Bp:w.ownsRow 0 97 1 v ws.length vs
 ls:∀(k:Nat) (h1:k<vs.length) (h2:k<ws.length),B5 w (vs[k]'h1) (ws[k]'h2)
 lo:∀g,v.ownBlock=some g->B0<=g
 li:∀x∈vs,∀g,x.ownBlock=some g->B0<=g
 J7:vs.Pairwise λx y=>∀g,x.ownBlock=some g->¬y.ownBlock=some g
section
variable {w w':World} {B0:Nat} {v:Value} {vs:List Value} {ws:List (List Pu)}
def DP.Bo(h:DP w B0 v vs ws):vs.length=ws.length:=by have:=h.Bp.1;omega
def DP.bN(w:World)(B0:Nat):DP w B0 (.slice none 0 0) [] []:=
 ⟨Cp _ _ _ _,λk d=>by simp at d,λg h=>by simp[Value.ownBlock]at h,λx z=>by simp at z,List.Pairwise.nil⟩
def DP.ai{S:Nat->Prop}(h:DP w B0 v vs ws)(O:A4 S w w')(L:∀k,S k->k<B0):DP w' B0 v vs ws:=
 ⟨Aw h.Bp λg d=>O.Am g (Ay h.Bp d) λE=>by have:=L g E;have:=h.lo g d;omega,
  λk z I=>Aw (h.ls k z I) λg d=>O.Am g (Ay (h.ls k z I) d) λE=>by have:=L g E;have:=h.li _ (BT z) g d;omega,h.lo,h.li,h.J7⟩
def DP.aM(h:DP w B0 v vs ws)(d:A4 Aa w w'):DP w' B0 v vs ws:=h.ai d λ_ h=>h.elim
def DP.lt(h:DP w B0 v vs ws){x:Value}(E:x∈vs){g:Nat}(z:x.ownBlock=some g):g<w.heap.size:=by
 obtain⟨k,d,rfl⟩:=Ep E;exact Ay (h.ls k d (by have:=h.Bo;omega)) z
def DP.ne(h:DP w B0 v vs ws){x:Value}(E:x∈vs){g:Nat}(z:x.ownBlock=some g):¬v.ownBlock=some g:=by
 obtain⟨k,d,rfl⟩:=Ep E;exact KO (h.ls k d (by have:=h.Bo;omega)) h.Bp (by decide) z
def DP.cj{O:Value}(h:DP w B0 v vs ws)(L:App w w' 97 1 v O (ws.length+1) (vs++[.slice none 0 0]))(hB:B0<=w.heap.size):DP w' B0 O (vs++[.slice none 0 0]) (ws++[[]]):=by
 have hc:=L.An (S:=λk=>v.ownBlock=some k) λ_ h=>h;have hl:=h.Bo;refine⟨?_,λk z W=>?_,λg d=>?_,λx E g d=>?_,?_⟩
 ·have e:(ws++[[]]).length=ws.length+1:=by simp
  rw[e];exact L.AE
 ·by_cases I:k<ws.length
  ·rw[FK (show k<vs.length by omega),FK I];exact Aw (h.ls k (by omega) I) λg d=>hc.Am g (Ay (h.ls k (by omega) I) d) (h.ne (BT (by omega)) d)
  ·have e1:(vs++[Value.slice none 0 0])[k]'z=.slice none 0 0:=by
    (have:k=vs.length:=by simp at z;omega);subst this;simp
   have Y:(ws++[[]])[k]'W=[]:=by
    (have:k=ws.length:=by simp at W;omega);subst this;simp
   rw[e1,Y];exact Cp _ _ _ _
 ·rcases L.BS with z|z
  ·rw[z]at d;exact h.lo g d
  ·rw[z]at d;cases d;exact hB
 ·rcases AY.1 E with E|E
  ·exact h.li x E g d
  ·simp at E;subst E;simp[Value.ownBlock]at d
 ·exact Ew.2 ⟨h.J7,MS _ _,λx _ y X g _ d=>by simp at X;subst X;simp[Value.ownBlock]at d⟩
def DP.ft{d:List (List Pu)}{z:List Value}{lv:Value}{l l':List Pu}(h:DP w B0 v (z++[lv]) (d++[l]))(hc:A4 (λk=>lv.ownBlock=some k) w w')(hl:B5 w' lv l'):DP w' B0 v (z++[lv]) (d++[l']):=by
 have I:=h.Bo;have hln:z.length=d.length:=by simpa using I
 refine⟨?_,λk h1 Y=>?_,h.lo,h.li,h.J7⟩
 ·have e:(d++[l']).length=(d++[l]).length:=by simp
  rw[e];exact Aw h.Bp λg E=>hc.Am g (Ay h.Bp E) λX=>h.ne (x:=lv) (by simp) X E
 ·by_cases hk:k<d.length
  ·(have O:k<(d++[l]).length:=by simp;omega);have W:=h.ls k h1 O;rw[FK hk]at W ⊢;refine Aw W λg E=>hc.Am g (Ay W E) λX=>?_;rw[FK (show k<z.length by omega)]at E;exact(Ew.1 h.J7).2.2 _ (BT (show k<z.length by omega)) lv (by simp) g E X
  ·(have L:k=d.length:=by simp at Y;omega);(have e2:(d++[l'])[k]'Y=l':=by subst L;simp);have e1:(z++[lv])[k]'h1=lv:=by
    (have:k=z.length:=by omega);subst this;simp
   rw[e1,e2];exact hl
def DP.fa{O n0 L:Nat}{z:List (List Pu)}{d:List Value}{lv lv':Value}{l l':List Pu}(h:DP w B0 (.slice (some ⟨O,0,none⟩) n0 L) (d++[lv]) (z++[l]))(hc:A4 (λk=>lv.ownBlock=some k) w w')(hl:B5 w' lv' l')(ho:∀g,lv'.ownBlock=some g->lv.ownBlock=some g\/w.heap.size<=g)(hB:B0<=w.heap.size):
 DP (w'.setCell ⟨O,d.length,none⟩ lv') B0 (.slice (some ⟨O,0,none⟩) n0 L) (d++[lv']) (z++[l']):=by
 have aA:=h.Bo;have hln:d.length=z.length:=by simpa using aA
 have aI:n0=(z++[l]).length:=by
  obtain⟨a',c',e,_⟩:=Bk h.Bp;cases e;rfl
 subst aI;have hg0:=Ay h.Bp rfl;have W:=Aw h.Bp λg E=>hc.Am g (Ay h.Bp E) λI=>h.ne (x:=lv) (by simp) I E;have aJ:∀g,lv'.ownBlock=some g->g≠O:=λg E e=>by
  subst e;exact KO hl W (by decide) E rfl
 have kz:A4 (One O) w' (w'.setCell ⟨O,d.length,none⟩ lv'):=(A4.C (One O) w').aj (b:=O) rfl _ _;have Y:=(W.stored d.length lv').1;have aB:(d++[lv]).set d.length lv'=d++[lv']:=by rw[IB _ _ (Ao _)];simp
 rw[aB]at Y;refine⟨?_,λk X h2=>?_,h.lo,λx I g E=>?_,?_⟩
 ·have e:(z++[l']).length=(z++[l]).length:=by simp
  rw[e];exact Y
 ·by_cases hk:k<z.length
  ·(have aH:k<(d++[lv]).length:=by simp;omega);(have aG:k<(z++[l]).length:=by simp;omega);have h3:=h.ls k aH aG;rw[FK hk,FK (show k<d.length by omega)]at h3 ⊢;have aD:d[k]'(by omega)∈d++[lv]:=AY.2 (.inl (BT (by omega)));refine Aw h3 λg E=>?_;have b1:=hc.Am g (Ay h3 E) λI=>(Ew.1 h.J7).2.2 _ (BT (show k<d.length by omega)) lv (by simp) g E I
   have b2:=kz.Am g (Bi (Ay h3 E) hc.Al) λe=>h.ne aD E (by have e':=e;subst e';rfl);rw[b2,b1]
  ·(have aE:k=z.length:=by simp at h2;omega);(have e2:(z++[l'])[k]'h2=l':=by subst aE;simp);have e1:(d++[lv'])[k]'X=lv':=by
    (have:k=d.length:=by omega);subst this;simp
   rw[e1,e2];exact Aw hl λg E=>kz.Am g (Ay hl E) (aJ g E)
 ·rcases AY.1 I with I|I
  ·exact h.li x (AY.2 (.inl I)) g E
  ·simp at I;subst I;rcases ho g E with X|X
   ·exact h.li lv (by simp) g X
   ·omega
 ·obtain⟨d1,d2,d3⟩:=Ew.1 h.J7;refine Ew.2 ⟨d1,MS _ _,λx I y hy g E aF=>?_⟩;simp at hy;subst hy;rcases ho g aF with X|X
  ·exact d3 x I lv (by simp) g E X
  ·have:=h.lt (AY.2 (.inl I)) E;omega
end
def Vx(len:Int)(l:List Pu)(i:Nat)(z:i<l.length)(d:Bool)(h:Pu)(ws:List (List Pu)):
 Ek len (l.drop i) d h ws=Ek len (l.drop (i+1)) false (l[i]'z) (EI len ws d h (l[i]'z)):=by
 rw[FW z];rfl
def GP(d:List (List Pu))(last:List Pu)(p:Pu):List (List Pu):=
 if last≠[]/\Ck p (last.getLastD (0,0,0))=0 then d++[last.dropLast++[p]] else d++[last++[p]]
def PX(len:Int)(ws:List (List Pu))(d:Bool)(z p:Pu)(h:d=true\/BJ p.2.1 len≠BJ z.2.1 len):EI len ws d z p=GP ws [] p:=by
 unfold EI GP;dsimp only
 rw[Ai h];simp
def VA(len:Int)(d:List (List Pu))(l:List Pu)(z p:Pu)(h:BJ p.2.1 len=BJ z.2.1 len):EI len (d++[l]) false z p=GP d l p:=by
 have e:(if (false=true\/BJ p.2.1 len≠BJ z.2.1 len) then (d++[l])++[[]] else d++[l])=d++[l]:=Ae (by simp[h]);have E:(d++[l]).getLastD []=l:=by rw[K2];simp
 have I:(d++[l]).dropLast=d:=by simp
 unfold EI GP;simp only[e,E,I]
end
section
open Go.RowKit
attribute [local go_sem ↓] Cw
def Tryz.fu:(Tryz.prog.info? 97).map (λi=>(i.zero,i.size,i.bytes))=some (some (.slice none 0 0),1,24):=by kernel_rfl
def Yv:∃d,Tryz.prog.info? 97=some d/\d.zero=some (.slice none 0 0)/\d.size=1/\d.bytes=24:=by
 have h:=Tryz.fu;cases hx:Tryz.prog.info? 97 with
 | none=>rw[hx]at h;cases h
 | some i=>rw[hx]at h;simp at h;exact⟨i,rfl,h.1,h.2.1,h.2.2⟩
section
variable {N:Nat}
def A0Q(hS:GY N)(hN:N<=134217728)(w:World)(v:Value)(len:Int)(l:List Pu)(hl:l.length<=N)(h:B5 w v l)(hT:∀p∈l,Ax p.2.1)(bI:1<=len/\len<=4611686018427387904):
 Ag 109 #[v,A0 len] w λe w'=>∃v' vs,e=.returned v'/\DP w' w.heap.size v' vs (EO len l)/\A4 Aa w w':=by
 obtain⟨i0,hi,fK,fC,fE⟩:=Yv;obtain⟨j0,hj,fN,fG,e0⟩:=DG J2;have k0:A4 Aa w (w.alloc (.cells #[A0 len] 3)):=(A4.C _ w).ah _;have dT:(w.alloc (.cells #[A0 len] 3)).heap[w.heap.size]?=some (.cells #[A0 len] 3 (0,0)):=Bf w _;have fR:=A1 (A2m _ v l (Aw h λg hg=>k0.Am g (Ay h hg) (λh=>h)) (by omega));have fY:=A1 k0;have fL:=A1 dT;have dO:Hid ((w.alloc (.cells #[A0 len] 3)).heap.size=w.heap.size+1):=by unfold Hid;simp
 have cI:Hid (∀wx vx,B5 wx vx l->A8 wx w.heap.size 0 (A0 len)->(∀g,vx.ownBlock=some g->w.heap.size≠g)->_):=λwx vx h1 h2 h3=>hS wx vx w.heap.size len l hl h1 hT bI h2 h3;have cB:Hid (EO len l=Ek len (E7 (AH len) l) true (0,0,0) []):=rfl;have cA:∀p∈E7 (AH len) l,Ax p.2.1:=λp hp=>hT p (((GI len).cv l).bC.E4 (GI len) hp);have cU:(E7 (AH len) l).length=l.length:=Qy l;obtain⟨R,hR⟩:∃R,EO len l=R:=⟨_,rfl⟩;rw[hR]at cB ⊢;obtain⟨W,dU⟩:∃W,E7 (AH len) l=W:=⟨_,rfl⟩;rw[dU]at cB cA cU cI;have eK:=A1 cA;have b9:=A1 bI;have hsn:W.length<=134217728:=by omega
 have fO:=A1 cU;clear hR dU h hT k0 dT cA hS hl bI cU
 go_enter func109,ntmps109
 go_wp2_with (fail);refine fR.m ?_;rintro e w1⟨v1,rfl,eM,cN,cH⟩;have c1:A8 w1 w.heap.size 0 (A0 len):=cH.ag (by simp only[World.cell?,fL.o];rfl);have dV:=A1 (cI.o w1 v1 eM c1 (λg hg=>by have:=cN g hg;have:=dO.o;omega));have fZ:Hid (A4 Aa w w1):=fY.o.tr cH;have dF:Hid (∀g,v1.ownBlock=some g->w.heap.size<g):=λg hg=>by have:=cN g hg;have:=dO.o;omega
 have fQ:=A1 c1;clear eM cN cH c1 fR cI;go_wp2_with (fail);refine dV.m ?_;rintro e w2⟨rfl,cC,cV⟩;have e2:W.length=l.length:=fO.o;obtain⟨sa,scap,rfl,s1,s2,s3,-⟩:=Bk cC;unfold maxLen at s2;have c2:A8 w2 w.heap.size 0 (A0 len):=cV.bD fQ.o (λh=>GB _ (dF.o _ h));have gB:Hid (A4 Aa w w2):=fZ.o.Au cV λx L bC=>by have:=dF.o x L;omega
 have cD:=A1 cC;have fV:=A1 c2;have fU:Hid (w.heap.size<w2.heap.size):=Gz w2 _ c2;have e3:=A1 s3;clear cC cV dV fQ c2 e2 s3;have eD:Hid (∀wx,A4 Aa w2 wx->∀i (hi:i<W.length),∃g,sa=some (A9 g 0)/\A8 wx g (i*3) (A0 (W[i]'hi).1)/\A8 wx g (i*3+1) (A0 (W[i]'hi).2.1)/\A8 wx g (i*3+2) (A0 (W[i]'hi).2.2)):=λwx L i hi=>by
  obtain⟨g,rfl⟩:=e3.o (by omega);obtain⟨q1,q2,q3⟩:=Ia W i hi;exact⟨g,rfl,L.ag (BD cD.o rfl q1),L.ag (BD cD.o rfl q2),L.ag (BD cD.o rfl q3)⟩
 go_wp2;go_loopw [6,18] (λv6 iv wr=>∃(i:Nat) (ws:List (List Pu)) (vs:List Value),iv=A0 i/\i<=W.length/\Hid (DP wr w2.heap.size v6 vs ws/\A4 Aa w2 wr/\ws.length<=i/\(∀x∈ws,x.length<=i)/\(0<i->∃a0 l0,ws=a0++[l0]/\l0≠[])/\R=Ek len (W.drop i) (decide (i=0)) (if i=0 then (0,0,0) else W.getD (i-1) (0,0,0)) ws)) (λ_ iv _=>W.length-(intOf iv).toNat)
 case atStart=>exact⟨0,[],[],rfl,by omega,DP.bN _ _,A4.C _ _,Ao _,λx L=>by simp at L,λh=>absurd h (GB 0),by simpa using cB.o⟩
 case round=>
  obtain⟨i,ws,vs,rfl,hii,hI⟩:=hrel;by_cases aT:i<W.length
  case neg=>
   (obtain rfl:i=W.length:=by omega);obtain⟨i1,i2,i3,i4,i5,i6⟩:=hI.o;rw[GN]at i6;have fP:R=ws:=i6;subst fP;have aP:=A1 i1;have dC:=A1 i2;(have eV:¬((W.length:Int)<(W.length:Int)):=by omega);clear i1 i2 i3 i4 i5 i6 hI;obtain⟨ap,cp,rfl,hcap1,hcap2,-⟩:=Bk aP.o.Bp;go_wp2;go_ret;exact⟨_,rfl,⟨vs,aP.o.Bp,aP.o.ls,λg hg=>Fb (Bi fU.o (aP.o.lo g hg)),λx L g hg=>Fb (Bi fU.o (aP.o.li x L g hg)),aP.o.J7⟩,gB.o.tr dC.o⟩
  case pos=>
   obtain⟨i1,i2,i3,i4,i5,i6⟩:=hI.o;obtain⟨g,rfl,p1,p2,p3⟩:=eD.o wr i2 i aT;rw[Vx len W i aT]at i6;have cP:=eK.o _ (BT aT);obtain⟨p,hp⟩:∃p,(W[i]'aT)=p:=⟨_,rfl⟩;rw[hp]at p1 p2 p3 i6 cP;obtain⟨I,E,pc⟩:=p;dsimp only at p1 p2 p3 cP;have cS:C7 (wr.alloc (.cells #[A0 I,A0 E,A0 pc] 113)) wr.heap.size I E pc:=Bf wr _;have kp:A4 Aa wr (wr.alloc (.cells #[A0 I,A0 E,A0 pc] 113)):=(A4.C _ wr).ah _;(have eV:(i:Int)<(W.length:Int):=by omega);have hk0:=BR i;have aP:=A1 i1;have dC:=A1 i2;have eF:=A1 i3;have dJ:=A1 i4;have fT:=A1 i5;have fM:Hid (w2.heap.size<=wr.heap.size):=i2.Al;have a4:=A1 cS;have aZ:=A1 kp;(have eS:Hid (∀k:Nat,k<=i->(k+1)*24<=140737488355328):=λk hk=>by omega);have aX:Hid (∀cG,EI len ws (decide (i=0)) (if i=0 then (0,0,0) else W.getD (i-1) (0,0,0)) (I,E,pc)=cG->R=Ek len (W.drop (i+1)) (decide (i+1=0)) (if i+1=0 then (0,0,0) else W.getD (i+1-1) (0,0,0)) cG):=λcG h=>by
    (have eT:W.getD i (0,0,0)=(I,E,pc):=by rw[HZ,DQ aT,hp];rfl);rw[Ae (Nat.succ_ne_zero i),A3C,eT,i6,h];simp
   obtain⟨a7,a2,e6,bZ,eN,dL,-⟩:=Bk i1.Bp;have dY:=A1 dL;clear dL;unfold maxLen at eN;obtain⟨pk,aY⟩:∃pk,wr.heap.size=pk:=⟨_,rfl⟩;rw[aY]at a4 fM;have aM:=A1 aY;by_cases aJ:i=0
   focus
    subst e6;(have hz:((i:Int)==0)=true:=by simp[aJ]);have aL:Hid (EI len ws (decide (i=0)) (if i=0 then (0,0,0) else W.getD (i-1) (0,0,0)) (I,E,pc)=GP ws [] (I,E,pc)):=PX len ws _ _ _ (.inl (by simp[aJ]));clear hI i1 i2 i3 i4 i5 i6 cS kp hp aY aJ;go_wp2;rw[aM.o];go_quiet (fail);have aG:=A1 (aP.o.aM (aZ.o.aX nq));have aA:=A1 (a4.o.ai ((A4.C Aa _).aX nq) (λh=>h));have dB:=A1 (dC.o.tr (aZ.o.aX nq));generalize ((wr.alloc (.cells #[A0 I,A0 E,A0 pc] 113)).drewN nq)=wY at aG aA dB ⊢
   rotate_left
   focus
    obtain⟨P,cQ⟩:∃P,P=i-1:=⟨_,rfl⟩;(have bD:P<W.length:=by omega);obtain⟨gq,fH,q1,q2,q3⟩:=eD.o wr i2 P bD;cases fH;have bR:=eK.o _ (BT bD);(have bK:W.getD P (0,0,0)=W[P]'bD:=by rw[HZ,DQ bD];rfl);obtain⟨q,hq⟩:∃q,(W[P]'bD)=q:=⟨_,rfl⟩;rw[hq]at q2 bR bK;obtain⟨qa,qb,qc⟩:=q;dsimp only at q2 bR;have bG:=A1 (λwx=>Nf wx E len cP b9.o);have bE:=A1 (λwx=>Nf wx qb len bR b9.o);have aN:Hid (BJ E len≠BJ qb len->EI len ws (decide (i=0)) (if i=0 then (0,0,0) else W.getD (i-1) (0,0,0)) (I,E,pc)=GP ws [] (I,E,pc)):=λh=>by
     rw[Ae aJ,<-cQ,bK];exact PX len ws _ _ _ (.inr h)
    have aH:Hid (∀a0 l0,ws=a0++[l0]->BJ E len=BJ qb len->EI len ws (decide (i=0)) (if i=0 then (0,0,0) else W.getD (i-1) (0,0,0)) (I,E,pc)=GP a0 l0 (I,E,pc)):=λa0 l0 e h=>by
     rw[Ae aJ,<-cQ,bK,Cu aJ,e];exact VA len a0 l0 _ _ h
    (have hz:((i:Int)==0)=false:=by simpa using aJ);obtain⟨dD,eH⟩:∃dD,BJ E len=dD:=⟨_,rfl⟩;obtain⟨eQ,dS⟩:∃eQ,BJ qb len=eQ:=⟨_,rfl⟩;rw[eH]at bG aN aH;rw[dS]at bE aN aH;(have eP0:IntKind.i64.wrap ((i:Int)-1)=(P:Int):=by simp[IntKind.wrap,IntKind.bits,IntKind.signed];omega);(have eP1:wrap64 ((i:Int)-1)=(P:Int):=by unfold wrap64;omega);have hP0:=BR P;(have hPn:(P:Int)<(W.length:Int):=by omega);have eR:=A1 (aZ.o.ag q2);(have dR:Hid (0<i):=by unfold Hid;omega);have bU:=A1 (aZ.o.ag (i2.ag fV.o));clear hI i1 i2 i3 i4 i5 i6 cS kp hp aY aJ cQ bR bK hq q1 q2 q3 eH dS;by_cases bL:dD=eQ
   rotate_left
   focus
    subst e6;(have eW:(dD !=eQ)=true:=by simpa using bL);have aL:=A1 (aN.o bL);clear bL aN aH;go_wp2;rw[aM.o];generalize wr.alloc (.cells #[A0 I,A0 E,A0 pc] 113)=wA at a4 aZ eR bU ⊢;have aG:=A1 (aP.o.aM aZ.o.aa);have aA:=A1 a4.o.aa;have dB:=A1 (dC.o.tr aZ.o.aa);have z1:=aA.o.c1;have z2:A8 wA.drew g (P*3+1) (A0 qb):=eR.o;have z3:A8 wA.drew w.heap.size 0 (A0 len):=bU.o;refine Bt (λw'=>A8 w' pk 1 (A0 E)/\A8 w' g (P*3+1) (A0 qb)/\A8 w' w.heap.size 0 (A0 len)) 18
     (Bb [0,1,2,3,4,5,6,8,9,10,11,12,13,14,15,7,16,17] [7,16]) ⟨z1,z2,z3⟩ ?_
    iterate 15 (refine B1 ?_;(try simp only[Ak]))
    refine Bd λK hK=>?_;go_simp;refine(bG.o _).mono ?_;rintro e w3⟨rfl,rfl⟩;refine hK _ _ ⟨z1,z2,z3⟩ (λhS=>?_);clear hK K hS
    (try simp only[Ak])
    refine Bd λK hK=>?_;go_simp;refine(bE.o _).mono ?_;rintro e w3⟨rfl,rfl⟩;refine hK _ _ ⟨z1,z2,z3⟩ (λhS=>?_);clear hK K hS bG bE
    (try simp only[Ak])
    (refine B1 ?_;(try simp only[Ak]))
    refine B4 ?_;simp only[Bm,Bl];generalize wA.drew=wY at aG aA dB z1 z2 z3 ⊢;clear z1 z2 z3
   rotate_left 2
   focus
    subst bL;(have eW:(dD !=dD)=false:=by simp);obtain⟨ws,d,rfl,aK⟩:=fT.o dR.o;have aL:=A1 (aH.o ws d rfl rfl);(have bO:(ws++[d]).length=ws.length+1:=by simp);have cE:=aP.o.Bo;obtain⟨vs,lv,rfl⟩:∃fJ lv,vs=fJ++[lv]:=by
     (have dZ:vs≠[]:=by intro h;subst h;simp at cE);exact⟨vs.dropLast,vs.getLast dZ,(N2 dZ).symm⟩
    (have aS:vs.length=ws.length:=by simpa using cE);have aU:B5 wr lv d:=by
     have h1:=aP.o.ls vs.length (by simp) (by simp;omega);(have e1:(vs++[lv])[vs.length]'(by simp)=lv:=by simp);(have e2:(ws++[d])[vs.length]'(by simp;omega)=d:=by rw[FV (by omega)];simp[aS]);rw[e1,e2]at h1;exact h1
    obtain⟨la,z,rfl,l1,l2,l3,-⟩:=Bk aU;obtain⟨X,rfl⟩:=l3 (IC.2 aK);unfold maxLen at l2;obtain⟨l0,q0,aV⟩:∃l0 q0,d=l0++[q0]:=⟨d.dropLast,d.getLast aK,(N2 aK).symm⟩;obtain⟨O,bM⟩:∃O,O=l0.length:=⟨_,rfl⟩;(have cX:d.length=O+1:=by rw[aV,bM];simp);rw[bO]at e6 bZ;subst e6;obtain⟨g0,rfl⟩:=dY.o (by rw[bO];omega);obtain⟨c1,c2,c3⟩:=Ia d O (by omega);(have eO:d[O]'(by omega)=q0:=by subst aV;rw[FV (by omega)];simp[bM]);rw[eO]at c1 c2 c3;have b0:Hid (d.length<=i):=dJ.o d (by simp);(have bH:Hid (ws.length+1<=i+1):=by have:=eF.o;rw[bO]at this;unfold Hid;omega);have fS:Hid (∀wx,A4 Aa wr wx->A8 wx g0 ws.length (AB X (O+1) z)/\A8 wx X (O*3) (A0 q0.1)/\A8 wx X (O*3+1) (A0 q0.2.1)/\A8 wx X (O*3+2) (A0 q0.2.2)):=λwx L=>
     ⟨L.ag (by rw[<-aS,<-cX];exact BD aP.o.Bp rfl (by rw[HF (Ao _)];simp)),L.ag (BD aU rfl c1),L.ag (BD aU rfl c2),L.ag (BD aU rfl c3)⟩
    have fI:Hid (X≠pk):=by
     have h1:=Ay aU (g:=X) rfl;have h2:=aM.o;unfold Hid;omega
    have dW:=A1 (λwx=>NO wx (I,E,pc) q0);have bQ:Hid (¬Ck (I,E,pc) q0=0->GP ws d (I,E,pc)=ws++[d++[(I,E,pc)]]):=λh=>by
     unfold GP;rw[Ae];rintro⟨-,h2⟩;rw[aV]at h2;simp at h2;exact h h2
    have bS:Hid (Ck (I,E,pc) q0=0->GP ws d (I,E,pc)=ws++[l0++[(I,E,pc)]]):=λh=>by
     unfold GP;rw[Ai ⟨aK,by rw[aV];simpa using h⟩,aV];simp
    obtain⟨cc,cF⟩:∃cc,Ck (I,E,pc) q0=cc:=⟨_,rfl⟩;rw[cF]at bQ bS;have eY:=A1 aV;have e9:=A1 bM;have e5:=A1 cX;have b8:=A1 aU;(have fD:O+1<=i:=by have:=dJ.o d (by simp);omega);(have hgt:(0:Int)<(O:Int)+1:=by omega);(have em:IntKind.i64.wrap (O:Int)=(O:Int):=by simp[IntKind.wrap,IntKind.bits,IntKind.signed];omega);(have em0:IntKind.i64.wrap ((O:Int)+1-1)=(O:Int):=by rw[Jk];exact em);(have em1:wrap64 ((O:Int)+1-1)=(O:Int):=by unfold wrap64;omega);have hm00:=BR O;(have hm01:(O:Int)<(O:Int)+1:=by omega);(have bP:IntKind.i64.wrap (ws.length:Int)=(ws.length:Int):=by have:=bH.o;simp[IntKind.wrap,IntKind.bits,IntKind.signed];omega);(have dG:IntKind.i64.wrap ((ws.length:Int)+1-1)=(ws.length:Int):=by rw[Jk];exact bP);(have dN:wrap64 ((ws.length:Int)+1-1)=(ws.length:Int):=by have:=bH.o;unfold wrap64;omega);have eP:(0:Int)<=(ws.length:Int):=Ge _;(have dP:(ws.length:Int)<(ws.length:Int)+1:=by omega);obtain⟨eJ,dH,dI⟩:=q0;unfold DV at dW;dsimp only at fS dW;rw[cF]at dW;clear aN aH aK cE aS aU l1 l3 aV bM cX c1 c2 c3 eO bO cF bZ dY fT fD;go_wp2;rw[aM.o];generalize wr.alloc (.cells #[A0 I,A0 E,A0 pc] 113)=wA at a4 aZ eR bU ⊢;have aG:=A1 (aP.o.aM aZ.o.aa);have aA:=A1 a4.o.aa;have dB:=A1 (dC.o.tr aZ.o.aa);have z1:=aA.o.c1;have z2:A8 wA.drew g (P*3+1) (A0 qb):=eR.o;have z3:A8 wA.drew w.heap.size 0 (A0 len):=bU.o;refine Bt (λw'=>A8 w' pk 1 (A0 E)/\A8 w' g (P*3+1) (A0 qb)/\A8 w' w.heap.size 0 (A0 len)) 18
     (Bb [0,1,2,3,4,5,6,8,9,10,11,12,13,14,15,7,16,17] [7,16]) ⟨z1,z2,z3⟩ ?_
    iterate 15 (refine B1 ?_;(try simp only[Ak]))
    refine Bd λK hK=>?_;go_simp;refine(bG.o _).mono ?_;rintro e w3⟨rfl,rfl⟩;refine hK _ _ ⟨z1,z2,z3⟩ (λhS=>?_);clear hK K hS
    (try simp only[Ak])
    refine Bd λK hK=>?_;go_simp;refine(bE.o _).mono ?_;rintro e w3⟨rfl,rfl⟩;refine hK _ _ ⟨z1,z2,z3⟩ (λhS=>?_);clear hK K hS bG bE
    (try simp only[Ak])
    (refine B1 ?_;(try simp only[Ak]))
    refine B4 ?_;simp only[Bm,Bl];have aO:=A1 (λwx (L:A4 Aa wA wx)=>fS.o wx (aZ.o.tr L));have oc:=(aO.o wA.drew (A4.C _ wA).aa).1;go_wp2;have gA:=(aO.o wA.drew.drew (A4.C _ wA).aa.aa);have f0:=aA.o.aa.c0;have f1:=aA.o.aa.c1;have f2:=aA.o.aa.c2;obtain⟨d0,d1,d2,d3⟩:=gA;refine Bt (λw'=>A8 w' g0 ws.length (AB X (O+1) z)/\A8 w' X (O*3) (A0 eJ)/\A8 w' X (O*3+1) (A0 dH)/\A8 w' X (O*3+2) (A0 dI)/\A8 w' pk 0 (A0 I)/\A8 w' pk 1 (A0 E)/\A8 w' pk 2 (A0 pc)) 13
     (Bb [0,1,2,3,4,5,6,7,8,9,10,11,12] [11]) ⟨d0,d1,d2,d3,f0,f1,f2⟩ ?_
    iterate 11 (refine B1 ?_;(try simp only[Ak]))
    refine Bd λK hK=>?_;go_simp;refine(dW.o _).mono ?_;rintro e Y⟨rfl,cZ⟩;have k6:A4 Aa wA Y:=((A4.C Aa wA).aa.aa).tr cZ;have bA:=aA.o.ai ((A4.C Aa wA.drew).aa.tr cZ) (λh=>h);refine hK _ _ ⟨(aO.o Y k6).1,(aO.o Y k6).2.1,(aO.o Y k6).2.2.1,(aO.o Y k6).2.2.2,bA.c0,bA.c1,bA.c2⟩ (λhS=>?_);have bT:=A1 (aP.o.aM (aZ.o.tr k6));have eA:=A1 (dC.o.tr (aZ.o.Au k6 λ_ h _=>h));have aF:=A1 bA;have cL:=A1 k6;have a6:Hid (B5 Y (AB X d.length z) d):=Aw b8.o λg hg=>(aZ.o.tr k6).Am g (Ay b8.o hg) (λh=>h)
    clear hK K hS cZ k6 bA f0 f1 f2 d0 d1 d2 d3 oc z1 z2 z3 dW aG aA dB
    (try simp only[Ak])
    by_cases a3:cc=0
    ·(have fB:(cc==0)=true:=by simpa using a3);have aB:=A1 (aL.o.trans (bS.o a3));have a9:=A1 (aX.o _ aB.o);clear a3 bS bQ aL aX aB
     (refine B1 ?_;(try simp only[Ak]))
     refine B4 ?_;simp only[Bm,Bl];go_wp2;obtain⟨d0,d1,d2,d3⟩:=aO.o Y.drew cL.o.aa;have f0:=aF.o.aa.c0;have f1:=aF.o.aa.c1;have f2:=aF.o.aa.c2;refine Bt (λw'=>A8 w' g0 ws.length (AB X (O+1) z)/\A8 w' X (O*3) (A0 eJ)/\A8 w' X (O*3+1) (A0 dH)/\A8 w' X (O*3+2) (A0 dI)/\A8 w' pk 0 (A0 I)/\A8 w' pk 1 (A0 E)/\A8 w' pk 2 (A0 pc)) 6
      (Bb [0,1,2,3,4,5] []) ⟨d0,d1,d2,d3,f0,f1,f2⟩ ?_
     iterate 6 (refine B1 ?_;(try simp only[Ak]))
     refine B4 ?_;simp only[Bm,Bl];have fz:∀o,Y.drew.frozen? (A9 X o)=false:=λo=>Ez (a6.o:Y.drew.ownsRow 0 113 3 (AB X d.length z) d.length (AZ d)) rfl o;obtain⟨-,b1,b2,b3⟩:=aO.o Y cL.o;have fy:∀o,Y.frozen? (A9 X o)=false:=λo=>Ez a6.o rfl o;(have eI:O<d.length:=by rw[e5.o];exact UC _);have eZ:=B5.bq (w:=Y) (g:=X) (n:=d.length) (cap:=z) (l:=d) a6.o O eI (I,E,pc);have a5:d.set O (I,E,pc)=l0++[(I,E,pc)]:=by
      rw[eY.o,e9.o,IB _ _ (Ao _)];simp
     (have cJ:(l0++[(I,E,pc)]).length=d.length:=by rw[<-a5,Hi]);rw[a5]at eZ;(have kc:A4 (λk=>(AB X d.length z).ownBlock=some k) Y (((Y.sC X (O*3) (A0 I)).sC X (O*3+1) (A0 E)).sC X (O*3+2) (A0 pc)).drew:=(((((A4.C (One X) Y).aj (b:=X) rfl _ _).aj (b:=X) rfl _ _).aj (b:=X) rfl _ _).aa).ad (S':=λk=>(AB X d.length z).ownBlock=some k) λk _ h=>by cases h;rfl);have aE:=A1 (bT.o.ft kc (l':=l0++[(I,E,pc)]) (by unfold B5;rw[cJ];exact Aw eZ λ_ _=>rfl));have fW:=A1 (eA.o.Au (S':=λk=>(AB X d.length z).ownBlock=some k) kc λy hy bC=>absurd bC (Uy.2 (bT.o.li (AB X d.length z) (by simp) y hy)));(have e7:Hid ((l0++[(I,E,pc)]).length<=i+1):=by rw[cJ];exact JY b0.o);clear eZ a5 cJ kc eI a6 cL f0 f1 f2;go_wp2;go_roundw
     case rel=>
      exact⟨i+1,ws++[l0++[(I,E,pc)]],vs++[AB X d.length z],by go_num,aT,aE.o,fW.o,(by rw[Ba];exact bH.o),(λx L=>(AY.1 L).elim (λL=>JY (dJ.o x (AY.2 (.inl L)))) (λL=>by rw[Jf.1 L];exact e7.o)),λ_=>⟨ws,_,rfl,by simp⟩,a9.o⟩
     case measure=>simp[intOf];omega
    (have fB:(cc==0)=false:=by simpa using a3);have aB:=A1 (aL.o.trans (bQ.o a3));clear a3 bS bQ aL;obtain⟨la,aR⟩:∃la:Option Addr,la=some (A9 X 0):=⟨_,rfl⟩;(have cY:Hid (DP Y w2.heap.size (AB g0 (ws.length+1) a2) (vs++[.slice la d.length z]) (ws++[d])):=by subst aR;exact bT.o);have eG:Hid (∀x∈ws++[d],x.length<=i):=dJ.o;have cO:Hid (d.length<=i):=b0.o;have bV:Hid (¬(Value.slice la d.length z).ownBlock=some pk):=λh=>by
     rw[aR]at h;cases h;exact fI.o rfl
    clear aR a6 bT
    (refine B1 ?_;(try simp only[Ak]))
    refine B4 ?_;simp only[Bm,Bl]
   rotate_left
   iterate 2
    focus
     have bB:Hid ((wY.alloc (.cells #[.slice none 0 0] 97)).ownsRow 0 97 1 (.slice a7 ws.length a2) ws.length vs):=Aw aG.o.Bp λg hg=>((A4.C Aa wY).ah _).Am g (Ay aG.o.Bp hg) (λh=>h)
     have bW:=A1 (Src.a8 (size:=1) (B:=wY.heap.size) underlying174 wY #[.slice none 0 0] 97 (by simp) 1 1 rfl (by simp[Value.oneCell']));have cM:=A1 (dB.o.ah (.cells #[.slice none 0 0] 97));have b4:=A1 (aG.o.aM ((A4.C Aa wY).ah (.cells #[.slice none 0 0] 97)));have bX:=A1 (aA.o.ai ((A4.C Aa wY).ah (.cells #[.slice none 0 0] 97)) (λh=>h));(have bY:Hid ((ws.length+1)*24<=140737488355328):=by have h1:=eF.o;unfold Hid;omega);have dM:Hid (∀g,(Value.slice a7 ws.length a2).ownBlock=some g->pk≠g):=λg hg e=>by
      subst e;have:=Ay aP.o.Bp hg;have h2:=aM.o;omega
     (have bP:IntKind.i64.wrap (ws.length:Int)=(ws.length:Int):=by have:=eF.o;simp[IntKind.wrap,IntKind.bits,IntKind.signed];omega);(have dG:IntKind.i64.wrap ((ws.length:Int)+1-1)=(ws.length:Int):=by rw[Jk];exact bP);(have dN:wrap64 ((ws.length:Int)+1-1)=(ws.length:Int):=by have:=eF.o;unfold wrap64;omega);have eP:(0:Int)<=(ws.length:Int):=Ge _;(have dP:(ws.length:Int)<(ws.length:Int)+1:=by omega);go_wp2_with (at_builtin;refine CZ rfl (.tmp 42) (.tmp 43) 174 174 rfl 97 i0 _ 1 24 underlying174 hi fK fC fE rfl (by decide) (.slice a7 ws.length a2) ws.length vs (by rfl) bB.o _ 1 _ (by rfl) bW.o bY.o ?_;intro a8 aD w8 hA;have dQ:=A1 hA;clear hA;obtain⟨a8',c8',e8,r1,r2,r3,-⟩:=Bk dQ.o.AE;cases e8;obtain⟨g0,rfl⟩:=r3 (Nat.succ_pos _);clear r3;have e4:A8 w8 g0 ws.length (.slice none 0 0):=BD dQ.o.AE rfl (by rw[<-aG.o.Bo,HF (Ao _)];simp));go_quiet (fail);have cT:=dQ.o.An (S:=λk=>(Value.slice a7 ws.length a2).ownBlock=some k) λ_ h=>h;have dA:=A1 ((b4.o.cj dQ.o cM.o.Al).aM ((A4.C Aa w8).aX nq));have aF:=A1 ((bX.o.ai cT (λh=>dM.o _ h rfl)).ai ((A4.C Aa w8).aX nq) (λh=>h));have eA:=A1 ((cM.o.Au (S':=λk=>(Value.slice a7 ws.length a2).ownBlock=some k) cT λy hy bC=>absurd bC (Uy.2 (aP.o.lo y hy))).tr ((A4.C Aa w8).aX nq));generalize w8.drewN nq=Y at dA aF eA ⊢;obtain⟨d,aI⟩:∃d:List Pu,d=[]:=⟨_,rfl⟩;obtain⟨la,aR⟩:∃la:Option Addr,la=none:=⟨_,rfl⟩;obtain⟨z,bJ⟩:∃z:Nat,z=0:=⟨_,rfl⟩;(have cY:Hid (DP Y w2.heap.size (AB g0 (ws.length+1) aD) (vs++[.slice la d.length z]) (ws++[d])):=by subst aI aR bJ;exact dA.o);(have aB:Hid (EI len ws (decide (i=0)) (if i=0 then (0,0,0) else W.getD (i-1) (0,0,0)) (I,E,pc)=ws++[d++[(I,E,pc)]]):=by unfold Hid;rw[aL.o];subst aI;simp[GP]);have eG:Hid (∀x∈ws++[d],x.length<=i):=λx L=>by
      rcases AY.1 L with L|L
      ·exact dJ.o x L
      ·rw[Jf.1 L,aI];exact Ce _
     have bH:Hid (ws.length+1<=i+1):=A3t eF.o;(have cO:Hid (d.length<=i):=by rw[aI];exact Ce _);(have bV:Hid (¬(Value.slice la d.length z).ownBlock=some pk):=by rw[aR];simp[Hid,Value.ownBlock]);clear aI aR bJ e4 cT dA dQ b4 cM bX bB bW bY dM aL bP dG dN eP dP
    rotate_left
   all_goals
    have eC:Hid (A8 Y g0 ws.length (.slice la d.length z)):=by
     (have aS:vs.length=ws.length:=by have:=cY.o.Bo;simpa using this);rw[<-aS];exact BD cY.o.Bp rfl (by rw[HF (Ao _)];simp)
    have oc:=eC.o;have eU:Hid (B5 Y (.slice la d.length z) d):=by
     (have aS:vs.length=ws.length:=by have:=cY.o.Bo;simpa using this);have h1:=cY.o.ls vs.length (by simp) (by simp;omega);(have e1:(vs++[Value.slice la d.length z])[vs.length]'(by simp)=.slice la d.length z:=by simp);(have e2:(ws++[d])[vs.length]'(by simp;omega)=d:=by rw[FV (by omega)];simp[aS]);rw[e1,e2]at h1;exact h1
    obtain⟨la',lcap',fA,la1,eX,-⟩:=Bk eU.o;cases fA;unfold maxLen at eX;have f0:=aF.o.aa.c0;have f1:=aF.o.aa.c1;have f2:=aF.o.aa.c2;have dK:A8 Y.drew g0 ws.length (.slice la d.length z):=oc;go_wp2;refine Bt (λw'=>A8 w' g0 ws.length (.slice la d.length z)/\A8 w' pk 0 (A0 I)/\A8 w' pk 1 (A0 E)/\A8 w' pk 2 (A0 pc)) 7
     (Bb [0,1,2,3,4,5,6] [5,6]) ⟨dK,f0,f1,f2⟩ ?_
    iterate 5 (refine B1 ?_;(try simp only[Ak]))
    refine Bd λK hK=>?_;go_simp;have ka:A4 Aa Y (Y.alloc (.cells #[A0 I,A0 E,A0 pc] 113)).drew:=((A4.C _ _).ah _).aa;have bF:=aF.o.ai ka (λh=>h);have eL:Hid (B5 (Y.alloc (.cells #[A0 I,A0 E,A0 pc] 113)).drew (.slice la d.length z) d):=Aw eU.o λg hg=>ka.Am g (Ay eU.o hg) (λh=>h);have aW:=A1 (cY.o.aM ka);have b7:Hid (Src Tryz.prog 3 97 (AB Y.heap.size 1 1) 1 #[A0 I,A0 E,A0 pc].toList (Y.alloc (.cells #[A0 I,A0 E,A0 pc] 113)).drew):=by
     have hb:(Y.alloc (.cells #[A0 I,A0 E,A0 pc] 113)).drew.heap[Y.heap.size]?=some (.cells #[A0 I,A0 E,A0 pc] 113 (0,0)):=Bf Y _;exact Src.b5 underlying97 hb 1 1 rfl (Hp [(I,E,pc)])
    refine hK _ _ ⟨ka.ag oc,bF.c0,bF.c1,bF.c2⟩ (λhS=>?_);have eE:=A1 bF;have fF:=A1 ka;clear hK K hS bF ka oc f0 f1 f2 dK
    (try simp only[Ak])
    refine Di rfl (by rfl) (λK hK=>?_);refine Hm (.tmp 78) (.tmp 80) 97 97 rfl 113 j0 _ 3 24 underlying97 hj fN fG e0 rfl (by decide) (.slice la d.length z) d.length (AZ d) (by rfl) eL.o _ 1 _ (by rfl) b7.o (eS.o _ cO.o) ?_;intro a8 aD w8 hA;have a1:=hA.An (S:=λk=>(Value.slice la d.length z).ownBlock=some k) λ_ h=>h;have b6:B5 w8 (.slice a8 (d.length+1) aD) (d++[(I,E,pc)]):=by
     (have e:(d++[(I,E,pc)]).length=d.length+1:=by simp);unfold B5;rw[Ib,e];exact hA.AE
    have dE:∀g,(Value.slice a8 (d.length+1) aD).ownBlock=some g->(Value.slice la d.length z).ownBlock=some g\/(Y.alloc (.cells #[A0 I,A0 E,A0 pc] 113)).drew.heap.size<=g:=λg hg=>by
     rcases hA.BS with h|h
     ·rw[h]at hg;exact .inl hg
     ·rw[h]at hg;cases hg;exact .inr (Ao _)
    have dX:w2.heap.size<=(Y.alloc (.cells #[A0 I,A0 E,A0 pc] 113)).drew.heap.size:=AQ eA.o.Al fF.o.Al;(have b5:vs.length=ws.length:=by have:=cY.o.Bo;simpa using this);have aE:=aW.o.fa a1 b6 dE dX;rw[b5]at aE;have aE:=A1 aE;(have aQ:Value.slice la d.length z∈vs++[Value.slice la d.length z]:=by simp);have bN:=eE.o.ai a1 bV.o;have eB:A8 w8 g0 ws.length (.slice la d.length z):=a1.bD (fF.o.ag eC.o) (λh=>aW.o.ne aQ h rfl);have hofz8:w8.frozen? (A9 g0 ws.length)=false:=by
     have hb:=a1.Am g0 (Ay aW.o.Bp rfl) (λh=>aW.o.ne aQ h rfl);have:=Ez aW.o.Bp (g:=g0) rfl ws.length;unfold World.frozen? at this ⊢;rw[hb];exact this
    refine hK _ _ ⟨eB,bN.c0,bN.c1,bN.c2⟩ (λhS=>?_);have fX:Hid (A4 Aa w2 (w8.sC g0 ws.length (.slice a8 (d.length+1) aD))):=((eA.o.tr fF.o).Au (S':=λk=>(Value.slice la d.length z).ownBlock=some k) a1 λy hy bC=>by have:=aW.o.li _ aQ _ hy;omega).a1 (p:=(A9 g0 ws.length)) (λh=>by have:=aW.o.lo g0 rfl;have h':g0<w2.heap.size:=h;omega) _;have a9:=A1 (aX.o _ aB.o);clear hK K hS hA a1 b6 dE dX bN b7 eL b5 aX aB
    (try simp only[Ak])
    refine B4 ?_;simp only[Bm,Bl];go_wp2;go_roundw
    case rel=>
     exact⟨i+1,ws++[d++[(I,E,pc)]],vs++[.slice a8 (d.length+1) aD],by go_num,aT,aE.o,fX.o,(by rw[Ba];exact bH.o),(λx L=>(AY.1 L).elim (λL=>JY (eG.o x (AY.2 (.inl L)))) (λL=>by rw[Jf.1 L,Ba];exact A3t cO.o)),λ_=>⟨ws,_,rfl,by simp⟩,a9.o⟩
    case measure=>simp[intOf];omega
end
def Vz(len:Int)(ws:List (List Pu))(I:Bool)(L p:Pu):
 (EI len ws I L p).length<=ws.length+1/\Dj (EI len ws I L p)<=Dj ws+1/\∀x∈EI len ws I L p,∀y∈x,y=p\/∃z∈ws,y∈z:=by
 obtain⟨d,Y,h1,h2,h3⟩:∃d,(if I=true\/BJ p.2.1 len≠BJ L.2.1 len then ws++[[]] else ws)=d/\(d.length<=ws.length+1)/\Dj d=Dj ws/\(∀x∈d,∀y∈x,∃z∈ws,y∈z)/\True:=by
  refine⟨_,rfl,?_⟩;split
  ·refine⟨by simp,by simp[Dj],λx E y h=>?_,trivial⟩;rcases AY.1 E with E|E
   ·exact⟨x,E,h⟩
   ·simp at E;subst E;simp at h
  ·exact⟨by omega,rfl,λx E y h=>⟨x,E,h⟩,trivial⟩
 have hl1:d=[]\/d.length<=ws.length+1:=.inr h1;have W:d.dropLast.length+1<=ws.length+1:=by
  rw[UJ];have:d.length<=ws.length+1:=h1;omega
 have key:∀t:List Pu,t.length<=(d.getLastD []).length+1->Dj (d.dropLast++[t])<=Dj ws+1:=λt ht=>by
  rw[LA,<-h2];rcases Lj d with rfl|⟨a,b,O⟩
  ·simp[Dj]at ht ⊢;omega
  ·rw[UQ]at O;subst O;(have e1:(a++[b]).getLastD []=b:=by rw[K2];simp);rw[e1]at ht;rw[List.dropLast_concat,LA];simp[Dj];omega
 have X:∀y∈d.getLastD [],∃z∈ws,y∈z:=λy h=>by
  rcases Lj d with rfl|⟨a,b,O⟩
  ·simp at h
  ·rw[UQ]at O;subst O;(have e1:(a++[b]).getLastD []=b:=by rw[K2];simp);rw[e1]at h;exact h3.1 b (by simp) y h
 unfold EI;dsimp only
 rw[Y];split
 ·refine⟨by simpa using W,key _ (by simp),λx E y h=>?_⟩;rcases AY.1 E with E|E
  ·exact .inr (h3.1 x (UP _ E) y h)
  ·rw[Jf]at E;subst E;rcases AY.1 h with h|h
   ·exact .inr (X y (UP _ h))
   ·exact .inl (Jf.1 h)
 ·refine⟨by simpa using W,key _ (by simp),λx E y h=>?_⟩;rcases AY.1 E with E|E
  ·exact .inr (h3.1 x (UP _ E) y h)
  ·rw[Jf]at E;subst E;rcases AY.1 h with h|h
   ·exact .inr (X y h)
   ·exact .inl (Jf.1 h)
def PV(len:Int):∀(l:List Pu) (d:Bool) (E:Pu) (ws:List (List Pu)),
 (Ek len l d E ws).length<=ws.length+l.length/\Dj (Ek len l d E ws)<=Dj ws+l.length/\∀x∈Ek len l d E ws,∀y∈x,y∈l\/∃z∈ws,y∈z
 | [],_,_,ws=>⟨Ao _,Ao _,λx L y I=>.inr ⟨x,L,I⟩⟩
 | p::r,d,E,ws=>by
  obtain⟨s1,s2,s3⟩:=Vz len ws d E p;obtain⟨h1,h2,W⟩:=PV len r false p (EI len ws d E p);unfold Ek;refine⟨by simp;omega,by simp;omega,λx L y I=>?_⟩;rcases W x L y I with h|⟨z,O,h⟩
  ·exact .inl (BW _ h)
  ·rcases s3 z O y h with rfl|h
   ·exact .inl BQ
   ·exact .inr h
def WE{l:List (List Pu)}{x:List Pu}(h:x∈l):x.length<=Dj l:=by
 induction l with
 | nil=>cases h
 | cons a r ih=>
  rw[WG];rcases BX.1 h with rfl|h
  ·omega
  ·have:=ih h;omega
def A0P(len:Int)(l:List Pu):(EO len l).length<=l.length/\Dj (EO len l)<=l.length/\∀x∈EO len l,(∀p∈x,p∈l)/\x.length<=l.length:=by
 obtain⟨d,E,I⟩:=PV len (E7 (AH len) l) true (0,0,0) [];rw[Qy]at d E;have e:Ek len (E7 (AH len) l) true (0,0,0) []=EO len l:=rfl;rw[e]at d E I;have d:(EO len l).length<=l.length:=by simpa using d
 have E:Dj (EO len l)<=l.length:=by
  have e0:Dj []=0:=rfl;omega
 refine⟨d,E,λx L=>⟨λp O=>?_,?_⟩⟩
 ·rcases I x L p O with h|⟨z,W,-⟩
  ·exact((GI len).cv l).bC.E4 (GI len) h
  ·cases W
 ·have:=WE L;omega
section
variable {N ab b a c m B:Nat} {A:Ar} {P:PD} {FT:Nat->Prop}
def A2V(hS:GY N)(hN:N<=134217728)(w:World)(h:AD w ab b A P FT)(a2:∀k,FT k->k<w.heap.size)(d:Int)(hw:1<=d/\d<=4611686018427387904)(aE:(P.puts A.j.Av).1.length<=N)(aB:∀p∈(P.puts A.j.Av).1,Bq p)(aZ:0<=A.Ac/\A.Ac+N<=9223372036854775807)(aQ:Ax (A.j.Ac+1))(aP:∀x∈A.ix.segs,Ax x)(hF:Fit P a c m)(X:CV (a+N+2) (c+2*a+2*N+4) (m+29*N+12+8*A.ix.segs.length))(hm:A.j.Av.length*m<=70368744177664)(hkl:A.ix.segs.length+N<=134217728)(hn:∀n∈A.ix.segs,CJ n)(aO:∀n∈A.j.Av,CJ n)(a0:A.j.Av.length<=1073741824)(hL:Lets B w)(aR:∀k,FT k->B<=k):
 Ag 68 #[A6 ab,A0 d] w (Aj (A0 (A.aO P d).1) λw'=>As w FT w' (λw' I=>AD w' ab b (A.aO P d).2.1 (A.aO P d).2.2 I)):=by
 obtain⟨xb,jb,sv,ov,lv,jo,Ft,hv,hsub⟩:=id h;have c2:=hv.Af.c2;have aW:=A1 (Rq w hv.dk hv.lt hv.jn hF ⟨by have:=X.a;omega,by have:=X.c;omega,by have:=X.m;omega⟩ hm aO hL);have aJ:Hid (A.aO P d=if (P.puts A.j.Av).2≠0 then ((P.puts A.j.Av).2,A,P) else A.aJ P A.ix.segs (EO d (P.puts A.j.Av).1)):=rfl;have aD:=A1 (A0P d (P.puts A.j.Av).1);generalize hR:A.aO P d=R at aJ ⊢;generalize hPS:P.puts A.j.Av=PS at aW aJ aD aE aB;obtain⟨ps,pe⟩:=PS;dsimp only at aW aJ aD aE aB;have H:=A1 h;have bB:=A1 hv;have O:=A1 a2;have aH:=A1 aB
 have a3:Hid (∀z kv fv,A4 Aa w z->Ee z kv A.ix.segs->(∀g,kv.oB g->w.heap.size<=g)->Uj z fv (EO d ps) FT->pe=0->
  Ag 107 #[A6 ab,kv,fv] z (Aj (A0 R.1) λw'=>As w FT w' (λw' I=>AD w' ab b R.2.1 R.2.2 I))):=λz kv fv Y W aF hf he=>by
  obtain⟨z1,z2,z3⟩:=aD.o;have aA:R=A.aJ P A.ix.segs (EO d ps):=by rw[aJ.o,Ae (by simp[he])]
  rw[aA]
  refine(XH z (H.o.al Y) (λk W=>Bi (O.o k W) Y.Al) kv A.ix.segs W (λg E=>⟨λhx=>by have:=aF g E;have:=O.o g hx;omega,AQ hL.1 (aF g E)⟩) fv (EO d ps) hf
   (λl X=>⟨λp hp=>aH.o p ((z3 l X).1 p hp),by have:=(z3 l X).2;omega⟩) ⟨aZ.1,by omega⟩ aQ aP hF ⟨by have:=X.a;omega,by have:=X.c;omega,by have:=X.m;omega⟩ (by omega) hn aO hn (by omega) a0 (hL.aM Y) aR).mono ?_
  rintro e w'⟨h1,h2⟩;exact⟨h1,As.a7 (Y.ad λ_ _ h=>h.elim) (λk W=>W.elim .inl λh=>.inr (aF k h)) h2⟩
 have aM:Hid (∀z,A4 Aa w z->pe≠0->R.1=pe/\As w FT z (λw' I=>AD w' ab b R.2.1 R.2.2 I)):=λz Y he=>by
  have aA:R=(pe,A,P):=by rw[aJ.o,Ai he]
  subst aA;exact⟨rfl,Y.ad λ_ _ h=>h.elim,FT,H.o.al Y,λk W=>Bi (O.o k W) Y.Al,λk W=>.inl W⟩
 have aS:Hid (∀z v,B5 z v ps->_):=λz v hx=>A0Q hS hN z v d ps aE hx (λp hp=>(aH.o p hp).2.1) hw;have a1:Hid (A.ix.segs.length*8<=140737488355328):=by unfold Hid;omega
 go_enter func68,ntmps68
 go_wp2_with (fail);refine aW.m ?_;rintro e w1⟨v1,rfl,aT,ho1,aG⟩;by_cases hp:pe=0
 case neg=>
  have a5:=A1 (aM.o w1 aG hp);have hpb:(pe !=0)=true:=by simpa using hp
  go_wp2;go_ret;exact⟨by rw[a5.o.1];rfl,a5.o.2⟩
 case pos=>
  subst hp;have V1:=bB.o.al aG;have d1:=V1.Af.c1;have d4:=V1.ix.c4;have a8:=A1 (A2n w1 sv A.ix.segs V1.segs a1.o);have a4:=A1 aG;have aN:=A1 aT;go_wp2_with (fail);refine a8.m ?_;rintro e w2⟨v2,rfl,aY,aV,aI⟩;have aL:=A1 aY;have aU:=A1 aV;have aX:Hid (A4 Aa w w2):=a4.o.tr aI;have bA:=A1 (aS.o w2 v1 (Aw aN.o λg E=>aI.Am g (Ay aN.o E) (λh=>h)));go_wp2_with (fail);refine bA.m ?_;rintro e w3⟨v3,vs,rfl,L,aK⟩;have a6:A4 Aa w w3:=aX.o.tr aK
  have a7:=A1 (a3.o w3 v2 v3 a6 (Aw aL.o λg E=>aK.Am g (Ay aL.o E) (λh=>h)) (λg E=>AQ a4.o.Al (aU.o g E))
   ⟨vs,L.Bo,L.Bp,L.ls,λg E hx=>by have:=L.lo g E;have:=O.o g hx;have:=aX.o.Al;omega,λx hx g E hf=>by have:=L.li x hx g E;have:=O.o g hf;have:=aX.o.Al;omega⟩ (by simp))
  go_wp2_with (fail);refine a7.m ?_;rintro e w4⟨rfl,hI⟩;have a9:=A1 hI;go_wp2;go_ret;exact⟨rfl,a9.o⟩
end
end
end Go.Proofs.YtodcnkbblippnaaGreatDoor
