/- Part 32 of a proof: walks of the program. -/
import Derived.Test.YtodcnkbblippnaaGreatDoorPart31
namespace Go.Proofs.YtodcnkbblippnaaGreatDoor
set_option maxRecDepth 100000
set_option maxHeartbeats 32000000
set_option linter.defProp false
open Go.Proofs.Tryz
section
open Go.RowKit
attribute [local go_sem ↓] CJ
def Tl(l:gh Pu):(Bb l).length=l.length*3:=by
 induction l with
 | nil=>rfl
 | cons p r ih=>obtain⟨a,b,c⟩:=p;simp only[Bb,Cg,ih];omega
def Tk:∀(l:gh Pu) (k:Nat) (_:k<l.length) (p:Pu),Bb (l.set k p)=(((Bb l).set (k*3) (.int .i64 p.1)).set (k*3+1) (.int .i64 p.2.1)).set (k*3+2) (.int .i64 p.2.2)
 | [],k,h,p=>by simp at h
 | (a,b,c):: r,0,_,p=>by obtain⟨p1,p2,p3⟩:=p;simp[Bb]
 | (a,b,c):: r,k+1,h,p=>by
  have z:=Tk r k (by simpa using h) p;have d:(k+1)*3=k*3+1+1+1:=by omega
  simp only[WL,Bb,z,d]
def AX.bl{w:ga}{g n cap:Nat}{l:gh Pu}(h:w.ownsRow 0 113 3 (AH g n cap) n (Bb l))(k:Nat)(d:k<l.length)(p:Pu):
 (((w.setCell (Ac g (k*3)) (A0 p.1)).setCell (Ac g (k*3+1)) (A0 p.2.1)).setCell (Ac g (k*3+2)) (A0 p.2.2)).ownsRow 0 113 3 (AH g n cap) n (Bb (l.set k p)):=by
 rw[Tk l k d p];exact(((h.stored (k*3) _).1.stored (k*3+1) _).1.stored (k*3+2) _).1
def YP{α:Type}(A C:gh α)(x y:α):((A++y::x::C).set (A.length+1) y).set A.length x=A++x::y::C:=by
 have d:(A++y::x::C).set (A.length+1) y=A++y::y::C:=by
  rw[KK _ _ (by omega)];simp
 rw[d,KK _ _ (by omega)];simp
def AX.dC{w:ga}{g n cap:Nat}{A C:gh Pu}{x y:Pu}(h:w.ownsRow 0 113 3 (.slice (some ⟨g,0,none⟩) n cap) n (Bb (A++y::x::C))):
 (w.cell? ⟨g,A.length*3,none⟩=some (.int .i64 y.1)/\w.cell? ⟨g,A.length*3+1,none⟩=some (.int .i64 y.2.1)/\w.cell? ⟨g,A.length*3+2,none⟩=some (.int .i64 y.2.2))/\
 (w.cell? ⟨g,(A.length+1)*3,none⟩=some (.int .i64 x.1)/\w.cell? ⟨g,(A.length+1)*3+1,none⟩=some (.int .i64 x.2.1)/\w.cell? ⟨g,(A.length+1)*3+2,none⟩=some (.int .i64 x.2.2))/\∀o,w.frozen? ⟨g,o,none⟩=false:=by
 have⟨q1,q2,q3⟩:=Hz (A++y::x::C) A.length (by simp);have⟨r1,r2,r3⟩:=Hz (A++y::x::C) (A.length+1) (by simp);have d:(A++y::x::C)[A.length]'(by simp)=y:=by simp
 have z:(A++y::x::C)[A.length+1]'(by simp)=x:=by
  rw[GH (by omega)];simp
 rw[d]at q1 q2 q3;rw[z]at r1 r2 r3;exact⟨⟨BH h rfl q1,BH h rfl q2,BH h rfl q3⟩,⟨BH h rfl r1,BH h rfl r2,BH h rfl r3⟩,λo=>Gk h rfl o⟩
def A12{α:Type}{lt:α->α->Bool}(H:BS lt){m:gh α}{x:α}{q:Nat}(hm:B3 lt m)(_hq:q<=m.length)(L:∀y∈m.drop q,lt x y=true)(O:∀z,(m.take q).getLast?=some z->lt x z=false):
 B3 lt (m.take q++x::m.drop q)/\Bh lt (m++[x]) (m.take q++x::m.drop q):=by
 have h:=DU q m;have W:B3 lt (m.take q++m.drop q):=by rw[h];exact hm
 have⟨a1,a2,a3⟩:=W.ak;have hx:∀y∈m.take q,lt x y=false:=by
  have E:B3 lt [x]:=NM _ _;have:=H.cD a1 E λz y d hy=>by
   simp at hy;subst hy;exact O z d
  exact λy hy=>this y hy x (by simp)
 refine⟨B3.cA a1 (D7.2 ⟨λy hy=>H.cd (L y hy),a2⟩) λy hy z d=>?_,?_⟩
 ·rcases BB.1 d with rfl|d
  ·exact hx y hy
  ·exact a3 y hy z d
 ·have Y:=H.cY L;have I:=(Bh.I (lt:=lt) (m.take q)).ak Y;rw[<-Ch,h]at I;exact I
def UT(w:ga)(g cap wb:Nat)(len:Int)(l:gh Pu)(a b:Nat)(hab:a<b)(hb:b<=l.length)(h:AX w (AH g l.length cap) l)(hT:∀p∈l,AT p.2.1)(hl:1<=len/\len<=4611686018427387904)(hw:A7 w wb 0 (A0 len))(bH:wb≠g)(_hbig:l.length<=4294967296):
 Ag 243 #[AH g l.length cap,A0 a,A0 b,.func (Fn.func 155) #[] #[A5 wb]] w (Am (.tuple #[]) λw'=>
  ∃m,AX w' (AH g l.length cap) (l.take a++m++l.drop b)/\m.length=b-a/\Bh (Az len) ((l.take b).drop a) m/\B3 (Az len) m/\A3 (One g) w w'):=by
 have KW:=Fp len;obtain⟨n,hn⟩:∃n,l.length=n:=⟨_,rfl⟩;have bY:Hid (w.ownsRow 0 113 3 (AH g n cap) n (Bb l)):=by have:=h;unfold AX at this;rw[hn]at this;exact this
 rw[hn]at hb ⊢;have aS:n<=cap/\cap<=9223372036854775807:=by
  have⟨a',c',e,h1,h2,_⟩:=B9 bY.o;cases e;unfold maxLen at h2;omega
 obtain⟨hc1,hc2⟩:=aS;have b6:=A1 hT;have cA:=A1 hw;have cF:=A1 hl;have a8:=A1 hn;have bJ:=A1 bH;have eia:wrap64 ((a:Int)+1)=(a:Int)+1:=by unfold wrap64;omega
 go_enter func243,ntmps243
 go_wp2;go_loopw [8] (λiv wr=>∃i:Nat,iv=A0 ((i:Int)+1)/\a<=i/\i+1<=b/\Hid (∃m,wr.ownsRow 0 113 3 (AH g n cap) n (Bb (l.take a++m++l.drop (i+1)))/\m.length=i+1-a/\Bh (Az len) ((l.take (i+1)).drop a) m/\B3 (Az len) m/\A3 (One g) w wr)) (λiv _=>b-(intOf iv).toNat)
 ·refine⟨a,rfl,by omega,by omega,(l.take (a+1)).drop a,?_,?_,Bh.I _,?_,A3.I _ _⟩
  ·have e:l.take a++(l.take (a+1)).drop a++l.drop (a+1)=l:=by
    have:=DU (a+1) l
    conv=>rhs;rw[<-this]
    congr 1
    have h2:=DU a (l.take (a+1));rw[KI]at h2;rw[show min a (a+1)=a by omega]at h2;exact h2
   rw[e];exact bY.o
  ·have:=a8.o;simp;omega
  ·have aT:((l.take (a+1)).drop a).length<=1:=by simp;omega
   match hx:(l.take (a+1)).drop a,aT with
   | [],_=>exact List.Pairwise.nil
   | [x],_=>exact NM _ _
   | x::y::r,hl=>simp at hl
 ·obtain⟨i,rfl,hai,hib,hI⟩:=hrel;have⟨m,i1,i2,i3,i4,i5⟩:=hI.o;by_cases hi1:i+1<b
  ·obtain⟨w1,bC⟩:∃w1,w1=wr:=⟨_,rfl⟩;subst bC;(have aG:i+1<l.length:=by have:=a8.o;omega);have a6:=FB aG;have a2:=Dy aG;have aX:=BU aG;generalize hx:(l[i+1]'aG)=x at a6 a2 aX;rw[a6]at i1;have b9:=A1 i1;have b7:=A1 i2;have b2:=A1 i3;have cC:=A1 i4;have cD:=A1 i5;have bA:Hid ((l.take (i+1+1)).drop a=(l.take (i+1)).drop a++[x]):=by
    unfold Hid;rw[a2,Mo (by simp;omega)]
   have bQ:=A1 (b6.o x aX);(have aY:Hid ((l.take a).length=a):=by unfold Hid;have:=a8.o;simp;omega);(have bF:(i:Int)+1<(b:Int):=by omega);go_wp2
   have aD:Hid (∀(L:ga) (q:Nat),q<=m.length->(∀y∈m.drop q,Az len x y=true)->(∀z,(m.take q).getLast?=some z->Az len x z=false)->L.ownsRow 0 113 3 (AH g n cap) n (Bb ((l.take a++m.take q)++x::(m.drop q++l.drop (i+1+1))))->A3 (One g) w L->
    ∃m',L.ownsRow 0 113 3 (AH g n cap) n (Bb (l.take a++m'++l.drop (i+1+1)))/\m'.length=i+1+1-a/\Bh (Az len) ((l.take (i+1+1)).drop a) m'/\B3 (Az len) m'/\A3 (One g) w L):=λL q hq h1 h2 h3 h4=>by
    have⟨d1,d2⟩:=A12 KW cC.o hq h1 h2;refine⟨m.take q++x::m.drop q,?_,?_,?_,d1,h4⟩
    ·(have e:l.take a++(m.take q++x::m.drop q)++l.drop (i+1+1)=(l.take a++m.take q)++x::(m.drop q++l.drop (i+1+1)):=by simp);rw[e];exact h3
    ·have:=b7.o;simp;omega
    ·rw[bA.o];exact(b2.o.ak (Bh.I _)).Av d2
   go_loopw [9] (λjv wr=>∃j q:Nat,jv=A0 (j:Int)/\j<=i+1/\Hid (j=a+q/\q<=m.length/\wr.ownsRow 0 113 3 (AH g n cap) n (Bb ((l.take a++m.take q)++x::(m.drop q++l.drop (i+1+1))))/\(∀y∈m.drop q,Az len x y=true)/\A3 (One g) w wr)) (λjv _=>(intOf jv).toNat)
   ·refine⟨i+1,m.length,by go_num,Ao _,by have:=b7.o;omega,Ao _,?_,(λy hy=>by rw[GI]at hy;cases hy),cD.o⟩;rw[Cf,GI,Ff];exact b9.o
   ·obtain⟨j,q,rfl,bL,hJ⟩:=hrel;have⟨j1,j2,j3,j4,j5⟩:=hJ.o;by_cases bI:q=0
    ·subst bI;(have bM:j=a:=by omega);subst bM;have aM:=A1 (λnq=>aD.o (wr.drewN nq) 0 (Cb _) j4 (λz hz=>by simp at hz) (Ax j3 λ_ _=>rfl) (j5.bb nq));(have hjj:¬((j:Int)<(j:Int)):=by omega);clear hJ j1 j2 j3 j4 j5 aD;go_wp2;go_quiet (fail);go_wp2;go_roundw
     ·exact⟨i+1,by go_num,by omega,by omega,aM.o _⟩
     ·simp[intOf];omega
    ·obtain⟨q,rfl⟩:∃q',q=q'+1:=⟨q-1,by omega⟩;obtain⟨P,hP⟩:∃P,a+q=P:=⟨_,rfl⟩;(have bW:j=P+1:=by omega);subst bW;(have aA:q<m.length:=by omega);have aB:=Dy aA;have aO:=FB aA;generalize hy:(m[q]'aA)=y at aB aO;(have aE:∀z,(m.take (q+1)).getLast?=some z->z=y:=λz hz=>by rw[aB]at hz;simpa using hz.symm);have aU:AT y.2.1:=by
      (have bR:y∈m:=by rw[<-hy];exact BU aA);have:=(b2.o.bE.DG KW bR);exact b6.o y (J6 (Mk this))
     (have aJ:(l.take a++m.take q).length=P:=by have:=aY.o;rw[AY,this,BT];omega);(have e0:(l.take a++m.take (q+1))++x::(m.drop (q+1)++l.drop (i+1+1))=(l.take a++m.take q)++y::x::(m.drop (q+1)++l.drop (i+1+1)):=by rw[aB];simp);have aF:=j3;rw[e0]at aF;have⟨⟨y1,y2,y3⟩,⟨x1,x2,x3⟩,fz⟩:=AX.dC aF;rw[aJ]at y1 y2 y3 x1 x2 x3;have a0:=A1 (λL bK=>Nn L wb len x y bQ.o aU cF.o bK);have bU:=A3F len x y;have aN:=Nl (len:=len) (p:=x) (q:=y);generalize bT:H7 len x y=cc at a0 bU aN;have aH:=j5.bq cA.o (λe=>bJ.o e);have b1:=A1 j3;have aZ:=A1 aF;have b5:=A1 j4;have b0:=A1 j5;have a3:=A1 aO;have HTQ:=A1 aB;have aK:=A1 aE;have O:=A1 aJ;have cE:=A1 hP;have aW:=A1 aA;have bO:=A1 bL;have a5:=A1 aN;(have hPn:(P:Int)+1<(n:Int):=by omega);(have hPn2:(P:Int)<(n:Int):=by omega);have hP0:=C3 P;(have hPa:(a:Int)<(P:Int)+1:=by omega);(have pk:(0:Int)<=(P:Int)+1:=by omega);have bG:IntKind.i64.wrap (P:Int)=P:=En (by omega);(have ew1:IntKind.i64.wrap ((P:Int)+1-1)=P:=by rw[JS];exact bG);(have ew2:wrap64 ((P:Int)+1-1)=P:=by unfold wrap64;omega);(have ew3:wrap64 (P:Int)=P:=by unfold wrap64;omega);have tk:=EH (P+1);obtain⟨W,d,Y⟩:=x;obtain⟨H,I,E⟩:=y;dsimp only at y1 y2 y3 x1 x2 x3;unfold DA at a0;dsimp only at a0;have a7:Hid (∀L,A3 Ab wr L->A7 L g (P*3) (A0 H)/\A7 L g (P*3+1) (A0 I)/\A7 L g (P*3+2) (A0 E)/\A7 L g ((P+1)*3) (A0 W)/\A7 L g ((P+1)*3+1) (A0 d)/\A7 L g ((P+1)*3+2) (A0 Y)):=λL hx=>
      ⟨hx.ao y1,hx.ao y2,hx.ao y3,hx.ao x1,hx.ao x2,hx.ao x3⟩
     have bZ:=a7.o wr.drew (A3.I _ wr).ag;have aQ:=A1 (a0.o wr.drew aH);clear hJ j1 j2 j3 aF j4 j5 aB aO aE aJ hP aN aU hy bT e0 a0 aH aA fz;by_cases aR:cc<0
     ·(have bS:¬(0<=cc):=by omega);go_wp2;refine Cc (λw'=>A7 w' g (P*3) (A0 H)/\A7 w' g (P*3+1) (A0 I)/\A7 w' g (P*3+2) (A0 E)/\A7 w' g ((P+1)*3) (A0 W)/\A7 w' g ((P+1)*3+1) (A0 d)/\A7 w' g ((P+1)*3+2) (A0 Y)) 16
       (BG [0,1,2,3,4,5,6,7,8,9,10,11,12,13,14,15] [14]) bZ ?_
      iterate 14 refine Bq ?_
      refine Bx λK hK=>?_;go_simp;refine aQ.k ?_;rintro w6 aL;have k6:=((A3.I Ab wr).ag).tr aL;refine hK _ _ (a7.o w6 k6) (λhS=>?_);have b3:=A1 k6;have b8:=a7.o w6 k6;refine Bq ?_;refine C8 ?_;obtain⟨y1,y2,y3,x1,x2,x3⟩:=b8;have bX:Hid (w6.ownsRow 0 113 3 (AH g n cap) n (Bb ((l.take a++m.take q)++(H,I,E):: (W,d,Y):: (m.drop (q+1)++l.drop (i+1+1))))):=Ax aZ.o λg' hg=>b3.o.An g' (AF aZ.o hg) (λh=>h);have fz:∀o,w6.frozen? (Ac g o)=false:=λo=>Gk bX.o rfl o;go_wp2;refine Mv 15 (λw'=>A7 w' g (P*3) (A0 H)/\A7 w' g (P*3+1) (A0 I)/\A7 w' g (P*3+2) (A0 E)/\A7 w' g ((P+1)*3) (A0 W)/\A7 w' g ((P+1)*3+1) (A0 d)/\A7 w' g ((P+1)*3+2) (A0 Y)) 16
       [(0,1),(1,1),(5,1),(6,1),(7,1),(8,1),(9,1),(10,2),(11,2),(12,2),(13,1),(14,1),(2,2),(3,2),(4,2),(15,0)] ⟨y1,y2,y3,x1,x2,x3⟩ ?_
      iterate 7 refine Is ?_
      iterate 3 refine It ?_
      iterate 2 refine Is ?_
      iterate 3 refine It ?_
      refine Mx λK hK=>?_;go_simp;refine hK _ _ ?_;refine Mw ?_;have e1:((l.take a++m.take q)++(H,I,E):: (W,d,Y):: (m.drop (q+1)++l.drop (i+1+1))).length=((l.take a++m.take q)++(H,I,E):: (W,d,Y):: (m.drop (q+1)++l.drop (i+1+1))).length:=rfl;have aP:=AX.bl bX.o (P+1) (by have:=O.o;rw[AY,O.o];simp) (H,I,E);have bP:=AX.bl aP P (by have:=O.o;rw[HU,AY,O.o];simp) (W,d,Y);have a1:=YP (l.take a++m.take q) (m.drop (q+1)++l.drop (i+1+1)) (W,d,Y) (H,I,E);rw[O.o]at a1;rw[a1]at bP;have aI:∀hh,(((l.take a++m.take q)++(H,I,E):: (W,d,Y):: (m.drop (q+1)++l.drop (i+1+1))).set (P+1) (H,I,E))[P]'hh=(H,I,E):=λhh=>by
       rw[A47 (by omega)];rw[GH (by rw[O.o];exact Ao _)];simp[O.o]
      have⟨p1,p2,p3⟩:=Hz _ P (show P<(((l.take a++m.take q)++(H,I,E):: (W,d,Y):: (m.drop (q+1)++l.drop (i+1+1))).set (P+1) (H,I,E)).length by rw[HU,AY,O.o];simp);rw[aI]at p1 p2 p3;have z1:=BH aP rfl p1;have z2:=BH aP rfl p2;have z3:=BH aP rfl p3;dsimp only at aP bP z1 z2 z3;have bE:=A1 bP;have bV:∀o,((((w6.setCell (Ac g ((P+1)*3)) (A0 H)).setCell (Ac g ((P+1)*3+1)) (A0 I)).setCell (Ac g ((P+1)*3+2)) (A0 E))).drew.frozen? (Ac g o)=false:=λo=>Gk aP rfl o;have b4:Hid (A3 (One g) wr (((((((w6.setCell (Ac g ((P+1)*3)) (A0 H)).setCell (Ac g ((P+1)*3+1)) (A0 I)).setCell (Ac g ((P+1)*3+2)) (A0 E)).drew.setCell (Ac g (P*3)) (A0 W)).setCell (Ac g (P*3+1)) (A0 d)).setCell (Ac g (P*3+2)) (A0 Y)))):=
       ((((((b3.o.aY (S:=One g)).aq (b:=g) rfl _ _).aq (b:=g) rfl _ _).aq (b:=g) rfl _ _).ag.aq (b:=g) rfl _ _).aq (b:=g) rfl _ _).aq (b:=g) rfl _ _
      have a4:Hid ((((((((w6.setCell (Ac g ((P+1)*3)) (A0 H)).setCell (Ac g ((P+1)*3+1)) (A0 I)).setCell (Ac g ((P+1)*3+2)) (A0 E)).drew.setCell (Ac g (P*3)) (A0 W)).setCell (Ac g (P*3+1)) (A0 d)).setCell (Ac g (P*3+2)) (A0 Y))).ownsRow 0 113 3 (AH g n cap) n (Bb ((l.take a++m.take q)++(W,d,Y):: (H,I,E):: (m.drop (q+1)++l.drop (i+1+1))))):=Ax bE.o λ_ _=>rfl;have bD:((((w6.setCell (Ac g ((P+1)*3)) (A0 H)).setCell (Ac g ((P+1)*3+1)) (A0 I)).setCell (Ac g ((P+1)*3+2)) (A0 E))).drew.cell? (Ac g (P*3))=some (A0 H):=z1;have bN:((((w6.setCell (Ac g ((P+1)*3)) (A0 H)).setCell (Ac g ((P+1)*3+1)) (A0 I)).setCell (Ac g ((P+1)*3+2)) (A0 E))).drew.cell? (Ac g (P*3+1))=some (A0 I):=z2;have a9:((((w6.setCell (Ac g ((P+1)*3)) (A0 H)).setCell (Ac g ((P+1)*3+1)) (A0 I)).setCell (Ac g ((P+1)*3+2)) (A0 E))).drew.cell? (Ac g (P*3+2))=some (A0 E):=z3;generalize (((w6.setCell (Ac g ((P+1)*3)) (A0 H)).setCell (Ac g ((P+1)*3+1)) (A0 I)).setCell (Ac g ((P+1)*3+2)) (A0 E)).drew=w7 at bV b4 a4 bD bN a9 ⊢;go_wp2;go_roundw
      ·refine⟨P,q,rfl,ET bO.o,cE.o.symm,ET aW.o,?_,?_,?_⟩
       ·(have e2:(l.take a++m.take q)++(W,d,Y):: (m.drop q++l.drop (i+1+1))=(l.take a++m.take q)++(W,d,Y):: (H,I,E):: (m.drop (q+1)++l.drop (i+1+1)):=by rw[a3.o];rfl);rw[e2];exact Ax a4.o λ_ _=>rfl
       ·intro z hz;rw[a3.o]at hz;rcases BB.1 hz with rfl|hz
        ·exact a5.o.1 aR
        ·exact b5.o z hz
       ·exact b0.o.tr b4.o
      ·simp[intOf]
     ·(have bS:0<=cc:=by omega);have aM:Hid (∀L,A3 Ab wr L->∃m',L.ownsRow 0 113 3 (AH g n cap) n (Bb (l.take a++m'++l.drop (i+1+1)))/\m'.length=i+1+1-a/\Bh (Az len) ((l.take (i+1+1)).drop a) m'/\B3 (Az len) m'/\A3 (One g) w L):=λL hx=>
       aD.o L (q+1) aW.o b5.o (λz hz=>by
        rw[aK.o z hz];cases hk:Az len (W,d,Y) (H,I,E) with
        | false=>rfl
        | true=>exact absurd (a5.o.2 hk) aR) (Ax b1.o λg' hg=>hx.An g' (AF b1.o hg) (λh=>h)) (b0.o.b5 hx)
      go_wp2;refine Cc (λw'=>A7 w' g (P*3) (A0 H)/\A7 w' g (P*3+1) (A0 I)/\A7 w' g (P*3+2) (A0 E)/\A7 w' g ((P+1)*3) (A0 W)/\A7 w' g ((P+1)*3+1) (A0 d)/\A7 w' g ((P+1)*3+2) (A0 Y)) 16
       (BG [0,1,2,3,4,5,6,7,8,9,10,11,12,13,14,15] [14]) bZ ?_
      iterate 14 refine Bq ?_
      refine Bx λK hK=>?_;go_simp;refine aQ.k ?_;rintro w6 aL;have k6:=((A3.I Ab wr).ag).tr aL;refine hK _ _ (a7.o w6 k6) (λhS=>?_);have aV:=A1 (aM.o w6 k6);refine Bq ?_;refine C8 ?_;go_wp2;go_roundw
      ·exact⟨i+1,by go_num,by omega,by omega,aV.o⟩
      ·simp[intOf];omega
  ·(have bB:i+1=b:=by omega);subst bB;have cB:=A1 hI.o;(have bF:¬((i:Int)+1<((i+1:Nat):Int)):=by omega);go_wp2;go_end0;have⟨m',q1,q2,q3,q4,q5⟩:=cB.o;refine⟨rfl,m',?_,q2,q3,q4,q5⟩;unfold AX;rw[Ch]at q1
   try rw[Ch]
   (have e:(l.take a++(m'++l.drop (i+1))).length=n:=by have:=a8.o;simp;omega);rw[e];exact q1
def Fy(N:Nat):Prop:=∀(w:ga) (v:gd) (wb:Nat) (len:Int) (l:gh Pu),l.length<=N->AX w v l->(∀p∈l,AT p.2.1)->(1<=len/\len<=4611686018427387904)->w.cell? ⟨wb,0,none⟩=some (.int .i64 len)->(∀g,v.ownBlock=some g->wb≠g)->
 Calls Tryz.prog 154 #[v,.func (Fn.func 155) #[] #[.pointer (some ⟨wb,0,none⟩)]] w λe w'=>e=.returned (.tuple #[])/\AX w' v (Ec (Az len) l)/\A3 (λk=>v.ownBlock=some k) w w'
def RZ{α:Type}{lt:α->α->Bool}(l:gh α):(Ec lt l).length=l.length:=by
 have ins:∀(x:α) (s:gh α),(Fa lt x s).length=s.length+1:=by
  intro x s
  induction s with
  | nil=>rfl
  | cons y r ih=>unfold Fa;split<;>simp[ih]
 have key:∀(l s:gh α),(l.foldl (λs x=>Fa lt x s) s).length=s.length+l.length:=by
  intro l
  induction l with
  | nil=>intro s;simp
  | cons x r ih=>intro s;rw[QM,ih,ins];simp;omega
 have:=key l [];simpa[Ec] using this
def US(w:ga)(v c:gd)(a b:Nat)(ha:b<=a+1)(hb:a<=4294967296):
 Ag 243 #[v,A0 a,A0 b,c] w (Am (.tuple #[]) λw'=>w=w'):=by
 have eia:wrap64 ((a:Int)+1)=(a:Int)+1:=by unfold wrap64;omega
 go_enter func243,ntmps243
 go_wp2;refine Iq 1 ?_;rw[F6];go_wp2;go_end0;exact⟨rfl,rfl⟩
def Yk(w:ga)(v:gd)(wb:Nat)(len:Int)(l:gh Pu)(hn:l.length<=19)(h:AX w v l)(L:∀p∈l,AT p.2.1)(hl:1<=len/\len<=4611686018427387904)(hw:A7 w wb 0 (A0 len))(d:∀g,v.ownBlock=some g->wb≠g):
 Ag 202 #[v,A0 l.length,.func (Fn.func 155) #[] #[A5 wb]] w (Am (.tuple #[]) λw'=>AX w' v (Ec (Az len) l)/\A3 (λk=>v.ownBlock=some k) w w'):=by
 have z:Hid (Ag 243 #[v,A0 ((0:Nat):Int),A0 l.length,.func (Fn.func 155) #[] #[A5 wb]] w (Am (.tuple #[]) λw'=>AX w' v (Ec (Az len) l)/\A3 (λk=>v.oB k) w w')):=by
  by_cases E:l.length=0
  ·have e:l=[]:=GG.1 E;subst e;refine(US w v _ 0 0 (by omega) (by omega)).k ?_;rintro w' rfl;exact⟨rfl,h,A3.I _ _⟩
  ·obtain⟨av,cap,rfl,h1,h2,h3,-,-⟩:=B9 h;obtain⟨g,rfl⟩:=h3 (by omega);refine(UT w g cap wb len l 0 l.length (by omega) (Ao _) h L hl hw (d g rfl) (by omega)).k ?_;rintro w'⟨m,O,q2,Y,q4,q5⟩;have e1:m=Ec (Az len) l:=(Fp len).et q4 (by simpa using Y);refine⟨rfl,?_,q5.af λk _ H=>by have e:k=g:=H;subst e;rfl⟩;rw[<-e1];have:=O;simp only[EZ,Ff,GI,GJ]at this;exact this
 rw[show ((0:Nat):Int)=0 from rfl]at z;have h20:¬((20:Int)<=(l.length:Int)):=by omega
 go_enter func202,ntmps202
 go_wp2;refine Iq 1 ?_;rw[F6];go_wp2_with (fail);refine z.k ?_;rintro w2⟨hp,W⟩;have I:=A1 hp;have aA:=A1 W;go_wp2;refine Iq 1 ?_;rw[F6];go_wp2;go_end0;exact⟨rfl,I.o,aA.o⟩
end
section
open Go.RowKit
structure DR (w:ga) (B0:Nat) (v:gd) (vs:gh gd) (ws:gh (gh Pu)):Prop where
 Bu:w.ownsRow 0 97 1 v ws.length vs
 ls:∀(k:Nat) (h1:k<vs.length) (h2:k<ws.length),AX w (vs[k]'h1) (ws[k]'h2)
 lo:∀g,v.ownBlock=some g->B0<=g
 li:∀x∈vs,∀g,x.ownBlock=some g->B0<=g
 JE:vs.Pairwise λx y=>∀g,x.ownBlock=some g->¬y.ownBlock=some g
section
variable{w w':ga}{B0:Nat}{v:gd}{vs:gh gd}{ws:gh (gh Pu)}
def DR.B4(h:DR w B0 v vs ws):vs.length=ws.length:=by have:=h.Bu.1;omega
def DR.bI(w:ga)(B0:Nat):DR w B0 (.slice none 0 0) [] []:=
 ⟨CT _ _ _ _,λk d=>by simp at d,λg h=>by simp[Value.ownBlock]at h,λx z=>by simp at z,List.Pairwise.nil⟩
def DR.an{S:Nat->Prop}(h:DR w B0 v vs ws)(L:A3 S w w')(I:∀k,S k->k<B0):DR w' B0 v vs ws:=
 ⟨Ax h.Bu λg d=>L.An g (AF h.Bu d) λE=>by have:=I g E;have:=h.lo g d;omega,
  λk z H=>Ax (h.ls k z H) λg d=>L.An g (AF (h.ls k z H) d) λE=>by have:=I g E;have:=h.li _ (BU z) g d;omega,h.lo,h.li,h.JE⟩
def DR.aO(h:DR w B0 v vs ws)(d:A3 Ab w w'):DR w' B0 v vs ws:=h.an d λ_ h=>h.elim
def DR.lt(h:DR w B0 v vs ws){x:gd}(E:x∈vs){g:Nat}(z:x.ownBlock=some g):g<w.heap.size:=by
 obtain⟨k,d,rfl⟩:=DV E;exact AF (h.ls k d (by have:=h.B4;omega)) z
def DR.ne(h:DR w B0 v vs ws){x:gd}(E:x∈vs){g:Nat}(z:x.ownBlock=some g):¬v.ownBlock=some g:=by
 obtain⟨k,d,rfl⟩:=DV E;exact IV (h.ls k d (by have:=h.B4;omega)) h.Bu (by decide) z
def DR.cj{L:gd}(h:DR w B0 v vs ws)(I:App w w' 97 1 v L (ws.length+1) (vs++[.slice none 0 0]))(hB:B0<=w.heap.size):DR w' B0 L (vs++[.slice none 0 0]) (ws++[[]]):=by
 have hc:=I.Al (S:=λk=>v.ownBlock=some k) λ_ h=>h;have hl:=h.B4;refine⟨?_,λk z O=>?_,λg d=>?_,λx E g d=>?_,?_⟩
 ·have e:(ws++[[]]).length=ws.length+1:=by simp
  rw[e];exact I.AE
 ·by_cases H:k<ws.length
  ·rw[Fg (show k<vs.length by omega),Fg H];exact Ax (h.ls k (by omega) H) λg d=>hc.An g (AF (h.ls k (by omega) H) d) (h.ne (BU (by omega)) d)
  ·have Y:(vs++[Value.slice none 0 0])[k]'z=.slice none 0 0:=by
    (have:k=vs.length:=by simp at z;omega);subst this;simp
   have W:(ws++[[]])[k]'O=[]:=by
    (have:k=ws.length:=by simp at O;omega);subst this;simp
   rw[Y,W];exact CT _ _ _ _
 ·rcases I.CA with z|z
  ·rw[z]at d;exact h.lo g d
  ·rw[z]at d;cases d;exact hB
 ·rcases AU.1 E with E|E
  ·exact h.li x E g d
  ·simp at E;subst E;simp[Value.ownBlock]at d
 ·exact Ez.2 ⟨h.JE,NM _ _,λx _ y hy g _ d=>by simp at hy;subst hy;simp[Value.ownBlock]at d⟩
def DR.fj{d:gh (gh Pu)}{z:gh gd}{lv:gd}{l l':gh Pu}(h:DR w B0 v (z++[lv]) (d++[l]))(hc:A3 (λk=>lv.ownBlock=some k) w w')(hl:AX w' lv l'):DR w' B0 v (z++[lv]) (d++[l']):=by
 have H:=h.B4;have hln:z.length=d.length:=by simpa using H
 refine⟨?_,λk h1 Y=>?_,h.lo,h.li,h.JE⟩
 ·have e:(d++[l']).length=(d++[l]).length:=by simp
  rw[e];exact Ax h.Bu λg E=>hc.An g (AF h.Bu E) λW=>h.ne (x:=lv) (by simp) W E
 ·by_cases hk:k<d.length
  ·(have L:k<(d++[l]).length:=by simp;omega);have O:=h.ls k h1 L;rw[Fg hk]at O ⊢;refine Ax O λg E=>hc.An g (AF O E) λW=>?_;rw[Fg (show k<z.length by omega)]at E;exact(Ez.1 h.JE).2.2 _ (BU (show k<z.length by omega)) lv (by simp) g E W
  ·(have I:k=d.length:=by simp at Y;omega);(have e2:(d++[l'])[k]'Y=l':=by subst I;simp);have e1:(z++[lv])[k]'h1=lv:=by
    (have:k=z.length:=by omega);subst this;simp
   rw[e1,e2];exact hl
def DR.e2{L n0 I:Nat}{z:gh (gh Pu)}{d:gh gd}{lv lv':gd}{l l':gh Pu}(h:DR w B0 (.slice (some ⟨L,0,none⟩) n0 I) (d++[lv]) (z++[l]))(hc:A3 (λk=>lv.ownBlock=some k) w w')(hl:AX w' lv' l')(ho:∀g,lv'.ownBlock=some g->lv.ownBlock=some g\/w.heap.size<=g)(hB:B0<=w.heap.size):
 DR (w'.setCell ⟨L,d.length,none⟩ lv') B0 (.slice (some ⟨L,0,none⟩) n0 I) (d++[lv']) (z++[l']):=by
 have aA:=h.B4;have hln:d.length=z.length:=by simpa using aA
 have aI:n0=(z++[l]).length:=by
  have⟨a',c',e,_⟩:=B9 h.Bu;cases e;rfl
 subst aI;have hg0:=AF h.Bu rfl;have O:=Ax h.Bu λg E=>hc.An g (AF h.Bu E) λH=>h.ne (x:=lv) (by simp) H E;have aJ:∀g,lv'.ownBlock=some g->g≠L:=λg E e=>by
  subst e;exact IV hl O (by decide) E rfl
 have kz:A3 (One L) w' (w'.setCell ⟨L,d.length,none⟩ lv'):=(A3.I (One L) w').aq (b:=L) rfl _ _;have Y:=(O.stored d.length lv').1;have aB:(d++[lv]).set d.length lv'=d++[lv']:=by rw[KK _ _ (Ao _)];simp
 rw[aB]at Y;refine⟨?_,λk W h2=>?_,h.lo,λx H g E=>?_,?_⟩
 ·have e:(z++[l']).length=(z++[l]).length:=by simp
  rw[e];exact Y
 ·by_cases hk:k<z.length
  ·(have aH:k<(d++[lv]).length:=by simp;omega);(have aG:k<(z++[l]).length:=by simp;omega);have h3:=h.ls k aH aG;rw[Fg hk,Fg (show k<d.length by omega)]at h3 ⊢;have aD:d[k]'(by omega)∈d++[lv]:=AU.2 (.inl (BU (by omega)));refine Ax h3 λg E=>?_;have b1:=hc.An g (AF h3 E) λH=>(Ez.1 h.JE).2.2 _ (BU (show k<d.length by omega)) lv (by simp) g E H
   have b2:=kz.An g (Bi (AF h3 E) hc.Aj) λe=>h.ne aD E (by have e':=e;subst e';rfl);rw[b2,b1]
  ·(have aE:k=z.length:=by simp at h2;omega);(have e2:(z++[l'])[k]'h2=l':=by subst aE;simp);have e1:(d++[lv'])[k]'W=lv':=by
    (have:k=d.length:=by omega);subst this;simp
   rw[e1,e2];exact Ax hl λg E=>kz.An g (AF hl E) (aJ g E)
 ·rcases AU.1 H with H|H
  ·exact h.li x (AU.2 (.inl H)) g E
  ·simp at H;subst H;rcases ho g E with W|W
   ·exact h.li lv (by simp) g W
   ·omega
 ·have⟨d1,d2,d3⟩:=Ez.1 h.JE;refine Ez.2 ⟨d1,NM _ _,λx H y hy g E aF=>?_⟩;simp at hy;subst hy;rcases ho g aF with W|W
  ·exact d3 x H lv (by simp) g E W
  ·have:=h.lt (AU.2 (.inl H)) E;omega
end
def Xr(len:Int)(l:gh Pu)(i:Nat)(h:i<l.length)(first:Bool)(d:Pu)(ws:gh (gh Pu)):
 El len (l.drop i) first d ws=El len (l.drop (i+1)) false (l[i]'h) (EJ len ws first d (l[i]'h)):=by
 rw[FB h];rfl
def H0(d:gh (gh Pu))(h:gh Pu)(p:Pu):gh (gh Pu):=
 if h≠[]/\Cr p (h.getLastD (0,0,0))=0 then d++[h.dropLast++[p]] else d++[h++[p]]
def Rh(len:Int)(ws:gh (gh Pu))(first:Bool)(d p:Pu)(h:first=true\/Bz p.2.1 len≠Bz d.2.1 len):EJ len ws first d p=H0 ws [] p:=by
 unfold EJ H0;dsimp only
 rw[Ae h];simp
def Xt(len:Int)(d:gh (gh Pu))(l:gh Pu)(z p:Pu)(h:Bz p.2.1 len=Bz z.2.1 len):EJ len (d++[l]) false z p=H0 d l p:=by
 have e:(if (false=true\/Bz p.2.1 len≠Bz z.2.1 len) then (d++[l])++[[]] else d++[l])=d++[l]:=Aa (by simp[h]);have E:(d++[l]).getLastD []=l:=by rw[KQ];simp
 have H:(d++[l]).dropLast=d:=by simp
 unfold EJ H0;simp only[e,E,H]
end
section
open Go.RowKit
attribute [local go_sem ↓] CJ
def Tryz.fk:(Tryz.prog.info? 97).map (λi=>(i.zero,i.size,i.bytes))=some (some (.slice none 0 0),1,24):=by kernel_rfl
def Td:∃d,Tryz.prog.info? 97=some d/\d.zero=some (.slice none 0 0)/\d.size=1/\d.bytes=24:=by
 have h:=Tryz.fk;cases hx:Tryz.prog.info? 97 with
 | none=>rw[hx]at h;cases h
 | some i=>rw[hx]at h;simp at h;exact⟨i,rfl,h.1,h.2.1,h.2.2⟩
section
variable{N:Nat}
def V5(hS:Fy N)(hN:N<=134217728)(w:ga)(v:gd)(len:Int)(l:gh Pu)(hl:l.length<=N)(h:AX w v l)(hT:∀p∈l,AT p.2.1)(bI:1<=len/\len<=4611686018427387904):
 Ag 109 #[v,A0 len] w λe w'=>∃v' vs,e=.returned v'/\DR w' w.heap.size v' vs (By len l)/\A3 Ab w w':=by
 obtain⟨i0,hi,fK,fC,fE⟩:=Td;obtain⟨j0,hj,fN,fG,e0⟩:=Eg IN;have k0:A3 Ab w (w.alloc (.cells #[A0 len] 3)):=(A3.I _ w).al _;have dT:(w.alloc (.cells #[A0 len] 3)).heap[w.heap.size]?=some (.cells #[A0 len] 3 (0,0)):=BL w _;have fR:=A1 (A3M _ v l (Ax h λg hg=>k0.An g (AF h hg) (λh=>h)) (by omega));have fY:=A1 k0;have fL:=A1 dT;have dO:Hid ((w.alloc (.cells #[A0 len] 3)).heap.size=w.heap.size+1):=by unfold Hid;simp
 have cI:Hid (∀wx vx,AX wx vx l->A7 wx w.heap.size 0 (A0 len)->(∀g,vx.ownBlock=some g->w.heap.size≠g)->_):=λwx vx h1 h2 h3=>hS wx vx w.heap.size len l hl h1 hT bI h2 h3;have cB:Hid (By len l=El len (Ec (Az len) l) true (0,0,0) []):=rfl;have cA:∀p∈Ec (Az len) l,AT p.2.1:=λp hp=>hT p (((Fp len).cu l).bE.DG (Fp len) hp);have cU:(Ec (Az len) l).length=l.length:=RZ l;obtain⟨R,hR⟩:∃R,By len l=R:=⟨_,rfl⟩;rw[hR]at cB ⊢;obtain⟨O,dU⟩:∃O,Ec (Az len) l=O:=⟨_,rfl⟩;rw[dU]at cB cA cU cI;have eK:=A1 cA;have b9:=A1 bI;have hsn:O.length<=134217728:=by omega
 have fO:=A1 cU;clear hR dU h hT k0 dT cA hS hl bI cU
 go_enter func109,ntmps109
 go_wp2_with (fail);refine fR.m ?_;rintro e w1⟨v1,rfl,eM,cN,cH⟩;have c1:A7 w1 w.heap.size 0 (A0 len):=cH.ao (by simp only[World.cell?,fL.o];rfl);have dV:=A1 (cI.o w1 v1 eM c1 (λg hg=>by have:=cN g hg;have:=dO.o;omega));have fZ:Hid (A3 Ab w w1):=fY.o.tr cH;have dF:Hid (∀g,v1.ownBlock=some g->w.heap.size<g):=λg hg=>by have:=cN g hg;have:=dO.o;omega
 have fQ:=A1 c1;clear eM cN cH c1 fR cI;go_wp2_with (fail);refine dV.k ?_;rintro w2⟨cC,cV⟩;have e2:O.length=l.length:=fO.o;obtain⟨sa,scap,rfl,s1,s2,s3,-⟩:=B9 cC;unfold maxLen at s2;have c2:A7 w2 w.heap.size 0 (A0 len):=cV.bq fQ.o (λh=>Ge _ (dF.o _ h));have gB:Hid (A3 Ab w w2):=fZ.o.Av cV λx I bC=>by have:=dF.o x I;omega
 have cD:=A1 cC;have fV:=A1 c2;have fU:Hid (w.heap.size<w2.heap.size):=HL w2 _ c2;have e3:=A1 s3;clear cC cV dV fQ c2 e2 s3;have eD:Hid (∀wx,A3 Ab w2 wx->∀i (hi:i<O.length),∃g,sa=some (Ac g 0)/\A7 wx g (i*3) (A0 (O[i]'hi).1)/\A7 wx g (i*3+1) (A0 (O[i]'hi).2.1)/\A7 wx g (i*3+2) (A0 (O[i]'hi).2.2)):=λwx I i hi=>by
  obtain⟨g,rfl⟩:=e3.o (by omega);obtain⟨q1,q2,q3⟩:=Hz O i hi;exact⟨g,rfl,I.ao (BH cD.o rfl q1),I.ao (BH cD.o rfl q2),I.ao (BH cD.o rfl q3)⟩
 go_wp2;go_loopw [6,18] (λv6 iv wr=>∃(i:Nat) (ws:gh (gh Pu)) (vs:gh gd),iv=A0 i/\i<=O.length/\Hid (DR wr w2.heap.size v6 vs ws/\A3 Ab w2 wr/\ws.length<=i/\(∀x∈ws,x.length<=i)/\(0<i->∃a0 l0,ws=a0++[l0]/\l0≠[])/\R=El len (O.drop i) (decide (i=0)) (if i=0 then (0,0,0) else O.getD (i-1) (0,0,0)) ws)) (λ_ iv _=>O.length-(intOf iv).toNat)
 ·exact⟨0,[],[],rfl,by omega,DR.bI _ _,A3.I _ _,Ao _,λx I=>by simp at I,λh=>absurd h (Ge 0),by simpa using cB.o⟩
 ·obtain⟨i,ws,vs,rfl,hii,hI⟩:=hrel;by_cases aT:i<O.length
  case neg=>
   (obtain rfl:i=O.length:=by omega);obtain⟨i1,i2,i3,i4,i5,i6⟩:=hI.o;rw[GI]at i6;have fP:R=ws:=i6;subst fP;have aP:=A1 i1;have dC:=A1 i2;(have eV:¬((O.length:Int)<(O.length:Int)):=by omega);clear i1 i2 i3 i4 i5 i6 hI;obtain⟨ap,cp,rfl,hcap1,hcap2,-⟩:=B9 aP.o.Bu;go_wp2;go_ret;exact⟨_,rfl,⟨vs,aP.o.Bu,aP.o.ls,λg hg=>ET (Bi fU.o (aP.o.lo g hg)),λx I g hg=>ET (Bi fU.o (aP.o.li x I g hg)),aP.o.JE⟩,gB.o.tr dC.o⟩
  case pos=>
   obtain⟨i1,i2,i3,i4,i5,i6⟩:=hI.o;obtain⟨g,rfl,p1,p2,p3⟩:=eD.o wr i2 i aT;rw[Xr len O i aT]at i6;have cP:=eK.o _ (BU aT);obtain⟨p,hp⟩:∃p,(O[i]'aT)=p:=⟨_,rfl⟩;rw[hp]at p1 p2 p3 i6 cP;obtain⟨H,E,pc⟩:=p;dsimp only at p1 p2 p3 cP;have cS:C5 (wr.alloc (.cells #[A0 H,A0 E,A0 pc] 113)) wr.heap.size H E pc:=BL wr _;have kp:A3 Ab wr (wr.alloc (.cells #[A0 H,A0 E,A0 pc] 113)):=(A3.I _ wr).al _;(have eV:(i:Int)<(O.length:Int):=by omega);have hk0:=C3 i;have aP:=A1 i1;have dC:=A1 i2;have eF:=A1 i3;have dJ:=A1 i4;have fT:=A1 i5;have fM:Hid (w2.heap.size<=wr.heap.size):=i2.Aj;have a4:=A1 cS;have aZ:=A1 kp;(have eS:Hid (∀k:Nat,k<=i->(k+1)*24<=140737488355328):=λk hk=>by omega);have aX:Hid (∀cG,EJ len ws (decide (i=0)) (if i=0 then (0,0,0) else O.getD (i-1) (0,0,0)) (H,E,pc)=cG->R=El len (O.drop (i+1)) (decide (i+1=0)) (if i+1=0 then (0,0,0) else O.getD (i+1-1) (0,0,0)) cG):=λcG h=>by
    (have eT:O.getD i (0,0,0)=(H,E,pc):=by rw[He,DL aT,hp];rfl);rw[Aa (Nat.succ_ne_zero i),A4V,eT,i6,h];simp
   obtain⟨a7,a2,e6,bZ,eN,dL,-⟩:=B9 i1.Bu;have dY:=A1 dL;clear dL;unfold maxLen at eN;obtain⟨pk,aY⟩:∃pk,wr.heap.size=pk:=⟨_,rfl⟩;rw[aY]at a4 fM;have aM:=A1 aY;by_cases aJ:i=0
   focus
    subst e6;(have hz:((i:Int)==0)=true:=by simp[aJ]);have aL:Hid (EJ len ws (decide (i=0)) (if i=0 then (0,0,0) else O.getD (i-1) (0,0,0)) (H,E,pc)=H0 ws [] (H,E,pc)):=Rh len ws _ _ _ (.inl (by simp[aJ]));clear hI i1 i2 i3 i4 i5 i6 cS kp hp aY aJ;go_wp2;rw[aM.o];go_quiet (fail);have aG:=A1 (aP.o.aO (aZ.o.bb nq));have aA:=A1 (a4.o.an ((A3.I Ab _).bb nq) (λh=>h));have dB:=A1 (dC.o.tr (aZ.o.bb nq));generalize ((wr.alloc (.cells #[A0 H,A0 E,A0 pc] 113)).drewN nq)=wY at aG aA dB ⊢
   rotate_left
   focus
    obtain⟨P,cQ⟩:∃P,P=i-1:=⟨_,rfl⟩;(have bD:P<O.length:=by omega);obtain⟨gq,fH,q1,q2,q3⟩:=eD.o wr i2 P bD;cases fH;have bR:=eK.o _ (BU bD);(have bK:O.getD P (0,0,0)=O[P]'bD:=by rw[He,DL bD];rfl);obtain⟨q,hq⟩:∃q,(O[P]'bD)=q:=⟨_,rfl⟩;rw[hq]at q2 bR bK;obtain⟨qa,qb,qc⟩:=q;dsimp only at q2 bR;have bG:=A1 (λwx=>O9 wx E len cP b9.o);have bE:=A1 (λwx=>O9 wx qb len bR b9.o);have aN:Hid (Bz E len≠Bz qb len->EJ len ws (decide (i=0)) (if i=0 then (0,0,0) else O.getD (i-1) (0,0,0)) (H,E,pc)=H0 ws [] (H,E,pc)):=λh=>by
     rw[Aa aJ,<-cQ,bK];exact Rh len ws _ _ _ (.inr h)
    have aH:Hid (∀a0 l0,ws=a0++[l0]->Bz E len=Bz qb len->EJ len ws (decide (i=0)) (if i=0 then (0,0,0) else O.getD (i-1) (0,0,0)) (H,E,pc)=H0 a0 l0 (H,E,pc)):=λa0 l0 e h=>by
     rw[Aa aJ,<-cQ,bK,De aJ,e];exact Xt len a0 l0 _ _ h
    (have hz:((i:Int)==0)=false:=by simpa using aJ);obtain⟨dD,eH⟩:∃dD,Bz E len=dD:=⟨_,rfl⟩;obtain⟨eQ,dS⟩:∃eQ,Bz qb len=eQ:=⟨_,rfl⟩;rw[eH]at bG aN aH;rw[dS]at bE aN aH;(have eP0:IntKind.i64.wrap ((i:Int)-1)=(P:Int):=by simp[IntKind.wrap,IntKind.bits,IntKind.signed];omega);(have eP1:wrap64 ((i:Int)-1)=(P:Int):=by unfold wrap64;omega);have hP0:=C3 P;(have hPn:(P:Int)<(O.length:Int):=by omega);have eR:=A1 (aZ.o.ao q2);(have dR:Hid (0<i):=by unfold Hid;omega);have bU:=A1 (aZ.o.ao (i2.ao fV.o));clear hI i1 i2 i3 i4 i5 i6 cS kp hp aY aJ cQ bR bK hq q1 q2 q3 eH dS;by_cases bL:dD=eQ
   rotate_left
   focus
    subst e6;(have eW:(dD !=eQ)=true:=by simpa using bL);have aL:=A1 (aN.o bL);clear bL aN aH;go_wp2;rw[aM.o];generalize wr.alloc (.cells #[A0 H,A0 E,A0 pc] 113)=wA at a4 aZ eR bU ⊢;have aG:=A1 (aP.o.aO aZ.o.ag);have aA:=A1 a4.o.ag;have dB:=A1 (dC.o.tr aZ.o.ag);have z1:=aA.o.c1;have z2:A7 wA.drew g (P*3+1) (A0 qb):=eR.o;have z3:A7 wA.drew w.heap.size 0 (A0 len):=bU.o;refine Cc (λw'=>A7 w' pk 1 (A0 E)/\A7 w' g (P*3+1) (A0 qb)/\A7 w' w.heap.size 0 (A0 len)) 18
     (BG [0,1,2,3,4,5,6,8,9,10,11,12,13,14,15,7,16,17] [7,16]) ⟨z1,z2,z3⟩ ?_
    iterate 15 refine Bq ?_
    refine Bx λK hK=>?_;go_simp;refine(bG.o _).k ?_;rintro w3 rfl;refine hK _ _ ⟨z1,z2,z3⟩ (λhS=>?_);clear hK K hS;refine Bx λK hK=>?_;go_simp;refine(bE.o _).k ?_;rintro w3 rfl;refine hK _ _ ⟨z1,z2,z3⟩ (λhS=>?_);clear hK K hS bG bE;refine Bq ?_;refine C8 ?_;generalize wA.drew=wY at aG aA dB z1 z2 z3 ⊢;clear z1 z2 z3
   rotate_left 2
   focus
    subst bL;(have eW:(dD !=dD)=false:=by simp);obtain⟨ws,d,rfl,aK⟩:=fT.o dR.o;have aL:=A1 (aH.o ws d rfl rfl);(have bO:(ws++[d]).length=ws.length+1:=by simp);have cE:=aP.o.B4;obtain⟨vs,lv,rfl⟩:∃fJ lv,vs=fJ++[lv]:=by
     (have dZ:vs≠[]:=by intro h;subst h;simp at cE);exact⟨vs.dropLast,vs.getLast dZ,(NX dZ).symm⟩
    (have aS:vs.length=ws.length:=by simpa using cE);have aU:AX wr lv d:=by
     have h1:=aP.o.ls vs.length (by simp) (by simp;omega);(have e1:(vs++[lv])[vs.length]'(by simp)=lv:=by simp);(have e2:(ws++[d])[vs.length]'(by simp;omega)=d:=by rw[GH (by omega)];simp[aS]);rw[e1,e2]at h1;exact h1
    obtain⟨la,z,rfl,l1,l2,l3,-⟩:=B9 aU;obtain⟨W,rfl⟩:=l3 (JM.2 aK);unfold maxLen at l2;obtain⟨l0,q0,aV⟩:∃l0 q0,d=l0++[q0]:=⟨d.dropLast,d.getLast aK,(NX aK).symm⟩;obtain⟨L,bM⟩:∃L,L=l0.length:=⟨_,rfl⟩;(have cX:d.length=L+1:=by rw[aV,bM];simp);rw[bO]at e6 bZ;subst e6;obtain⟨g0,rfl⟩:=dY.o (by rw[bO];omega);obtain⟨c1,c2,c3⟩:=Hz d L (by omega);(have eO:d[L]'(by omega)=q0:=by subst aV;rw[GH (by omega)];simp[bM]);rw[eO]at c1 c2 c3;have b0:Hid (d.length<=i):=dJ.o d (by simp);(have bH:Hid (ws.length+1<=i+1):=by have:=eF.o;rw[bO]at this;unfold Hid;omega);have fS:Hid (∀wx,A3 Ab wr wx->A7 wx g0 ws.length (AH W (L+1) z)/\A7 wx W (L*3) (A0 q0.1)/\A7 wx W (L*3+1) (A0 q0.2.1)/\A7 wx W (L*3+2) (A0 q0.2.2)):=λwx I=>
     ⟨I.ao (by rw[<-aS,<-cX];exact BH aP.o.Bu rfl (by rw[HV (Ao _)];simp)),I.ao (BH aU rfl c1),I.ao (BH aU rfl c2),I.ao (BH aU rfl c3)⟩
    have fI:Hid (W≠pk):=by
     have h1:=AF aU (g:=W) rfl;have h2:=aM.o;unfold Hid;omega
    have dW:=A1 (λwx=>P4 wx (H,E,pc) q0);have bQ:Hid (¬Cr (H,E,pc) q0=0->H0 ws d (H,E,pc)=ws++[d++[(H,E,pc)]]):=λh=>by
     unfold H0;rw[Aa];rintro⟨-,h2⟩;rw[aV]at h2;simp at h2;exact h h2
    have bS:Hid (Cr (H,E,pc) q0=0->H0 ws d (H,E,pc)=ws++[l0++[(H,E,pc)]]):=λh=>by
     unfold H0;rw[Ae ⟨aK,by rw[aV];simpa using h⟩,aV];simp
    obtain⟨cc,cF⟩:∃cc,Cr (H,E,pc) q0=cc:=⟨_,rfl⟩;rw[cF]at bQ bS;have eY:=A1 aV;have e9:=A1 bM;have e5:=A1 cX;have b8:=A1 aU;(have fD:L+1<=i:=by have:=dJ.o d (by simp);omega);(have hgt:(0:Int)<(L:Int)+1:=by omega);(have em:IntKind.i64.wrap (L:Int)=(L:Int):=by simp[IntKind.wrap,IntKind.bits,IntKind.signed];omega);(have em0:IntKind.i64.wrap ((L:Int)+1-1)=(L:Int):=by rw[JS];exact em);(have em1:wrap64 ((L:Int)+1-1)=(L:Int):=by unfold wrap64;omega);have hm00:=C3 L;(have hm01:(L:Int)<(L:Int)+1:=by omega);(have bP:IntKind.i64.wrap (ws.length:Int)=(ws.length:Int):=by have:=bH.o;simp[IntKind.wrap,IntKind.bits,IntKind.signed];omega);(have dG:IntKind.i64.wrap ((ws.length:Int)+1-1)=(ws.length:Int):=by rw[JS];exact bP);(have dN:wrap64 ((ws.length:Int)+1-1)=(ws.length:Int):=by have:=bH.o;unfold wrap64;omega);have eP:(0:Int)<=(ws.length:Int):=GK _;(have dP:(ws.length:Int)<(ws.length:Int)+1:=by omega);obtain⟨eJ,dH,dI⟩:=q0;unfold DA at dW;dsimp only at fS dW;rw[cF]at dW;clear aN aH aK cE aS aU l1 l3 aV bM cX c1 c2 c3 eO bO cF bZ dY fT fD;go_wp2;rw[aM.o];generalize wr.alloc (.cells #[A0 H,A0 E,A0 pc] 113)=wA at a4 aZ eR bU ⊢;have aG:=A1 (aP.o.aO aZ.o.ag);have aA:=A1 a4.o.ag;have dB:=A1 (dC.o.tr aZ.o.ag);have z1:=aA.o.c1;have z2:A7 wA.drew g (P*3+1) (A0 qb):=eR.o;have z3:A7 wA.drew w.heap.size 0 (A0 len):=bU.o;refine Cc (λw'=>A7 w' pk 1 (A0 E)/\A7 w' g (P*3+1) (A0 qb)/\A7 w' w.heap.size 0 (A0 len)) 18
     (BG [0,1,2,3,4,5,6,8,9,10,11,12,13,14,15,7,16,17] [7,16]) ⟨z1,z2,z3⟩ ?_
    iterate 15 refine Bq ?_
    refine Bx λK hK=>?_;go_simp;refine(bG.o _).k ?_;rintro w3 rfl;refine hK _ _ ⟨z1,z2,z3⟩ (λhS=>?_);clear hK K hS;refine Bx λK hK=>?_;go_simp;refine(bE.o _).k ?_;rintro w3 rfl;refine hK _ _ ⟨z1,z2,z3⟩ (λhS=>?_);clear hK K hS bG bE;refine Bq ?_;refine C8 ?_;have aO:=A1 (λwx (I:A3 Ab wA wx)=>fS.o wx (aZ.o.tr I));have oc:=(aO.o wA.drew (A3.I _ wA).ag).1;go_wp2;have gA:=(aO.o wA.drew.drew (A3.I _ wA).ag.ag);have f0:=aA.o.ag.c0;have f1:=aA.o.ag.c1;have f2:=aA.o.ag.c2;obtain⟨d0,d1,d2,d3⟩:=gA;refine Cc (λw'=>A7 w' g0 ws.length (AH W (L+1) z)/\A7 w' W (L*3) (A0 eJ)/\A7 w' W (L*3+1) (A0 dH)/\A7 w' W (L*3+2) (A0 dI)/\A7 w' pk 0 (A0 H)/\A7 w' pk 1 (A0 E)/\A7 w' pk 2 (A0 pc)) 13
     (BG [0,1,2,3,4,5,6,7,8,9,10,11,12] [11]) ⟨d0,d1,d2,d3,f0,f1,f2⟩ ?_
    iterate 11 refine Bq ?_
    refine Bx λK hK=>?_;go_simp;refine(dW.o _).k ?_;rintro Y cZ;have k6:A3 Ab wA Y:=((A3.I Ab wA).ag.ag).tr cZ;have bA:=aA.o.an ((A3.I Ab wA.drew).ag.tr cZ) (λh=>h);refine hK _ _ ⟨(aO.o Y k6).1,(aO.o Y k6).2.1,(aO.o Y k6).2.2.1,(aO.o Y k6).2.2.2,bA.c0,bA.c1,bA.c2⟩ (λhS=>?_);have bT:=A1 (aP.o.aO (aZ.o.tr k6));have eA:=A1 (dC.o.tr (aZ.o.tr k6));have aF:=A1 bA;have cL:=A1 k6;have a6:Hid (AX Y (AH W d.length z) d):=Ax b8.o λg hg=>(aZ.o.tr k6).An g (AF b8.o hg) (λh=>h)
    clear hK K hS cZ k6 bA f0 f1 f2 d0 d1 d2 d3 oc z1 z2 z3 dW aG aA dB;by_cases a3:cc=0
    ·(have fB:(cc==0)=true:=by simpa using a3);have aB:=A1 (aL.o.trans (bS.o a3));have a9:=A1 (aX.o _ aB.o);clear a3 bS bQ aL aX aB;refine Bq ?_;refine C8 ?_;go_wp2;obtain⟨d0,d1,d2,d3⟩:=aO.o Y.drew cL.o.ag;have f0:=aF.o.ag.c0;have f1:=aF.o.ag.c1;have f2:=aF.o.ag.c2;refine Cc (λw'=>A7 w' g0 ws.length (AH W (L+1) z)/\A7 w' W (L*3) (A0 eJ)/\A7 w' W (L*3+1) (A0 dH)/\A7 w' W (L*3+2) (A0 dI)/\A7 w' pk 0 (A0 H)/\A7 w' pk 1 (A0 E)/\A7 w' pk 2 (A0 pc)) 6
      (BG [0,1,2,3,4,5] []) ⟨d0,d1,d2,d3,f0,f1,f2⟩ ?_
     iterate 6 refine Bq ?_
     refine C8 ?_;have fz:∀o,Y.drew.frozen? (Ac W o)=false:=λo=>Gk (a6.o:Y.drew.ownsRow 0 113 3 (AH W d.length z) d.length (Bb d)) rfl o;obtain⟨-,b1,b2,b3⟩:=aO.o Y cL.o;have fy:∀o,Y.frozen? (Ac W o)=false:=λo=>Gk a6.o rfl o;(have eI:L<d.length:=by rw[e5.o];exact WG _);have eZ:=AX.bl (w:=Y) (g:=W) (n:=d.length) (cap:=z) (l:=d) a6.o L eI (H,E,pc);have a5:d.set L (H,E,pc)=l0++[(H,E,pc)]:=by
      rw[eY.o,e9.o,KK _ _ (Ao _)];simp
     (have cJ:(l0++[(H,E,pc)]).length=d.length:=by rw[<-a5,HU]);rw[a5]at eZ;(have kc:A3 (λk=>(AH W d.length z).ownBlock=some k) Y (((Y.sC W (L*3) (A0 H)).sC W (L*3+1) (A0 E)).sC W (L*3+2) (A0 pc)).drew:=(((((A3.I (One W) Y).aq (b:=W) rfl _ _).aq (b:=W) rfl _ _).aq (b:=W) rfl _ _).ag).af (S':=λk=>(AH W d.length z).ownBlock=some k) λk _ h=>by cases h;rfl);have aE:=A1 (bT.o.fj kc (l':=l0++[(H,E,pc)]) (by unfold AX;rw[cJ];exact Ax eZ λ_ _=>rfl));have fW:=A1 (eA.o.Av (S':=λk=>(AH W d.length z).ownBlock=some k) kc λy hy bC=>absurd bC (QE.2 (bT.o.li (AH W d.length z) (by simp) y hy)));(have e7:Hid ((l0++[(H,E,pc)]).length<=i+1):=by rw[cJ];exact NK b0.o);clear eZ a5 cJ kc eI a6 cL f0 f1 f2;go_wp2;go_roundw
     ·exact⟨i+1,ws++[l0++[(H,E,pc)]],vs++[AH W d.length z],by go_num,aT,aE.o,fW.o,(by rw[AY];exact bH.o),(λx I=>(AU.1 I).elim (λI=>NK (dJ.o x (AU.2 (.inl I)))) (λI=>by rw[Hd.1 I];exact e7.o)),λ_=>⟨ws,_,rfl,by simp⟩,a9.o⟩
     ·simp[intOf];omega
    (have fB:(cc==0)=false:=by simpa using a3);have aB:=A1 (aL.o.trans (bQ.o a3));clear a3 bS bQ aL;obtain⟨la,aR⟩:∃la:Option Addr,la=some (Ac W 0):=⟨_,rfl⟩;(have cY:Hid (DR Y w2.heap.size (AH g0 (ws.length+1) a2) (vs++[.slice la d.length z]) (ws++[d])):=by subst aR;exact bT.o);have eG:Hid (∀x∈ws++[d],x.length<=i):=dJ.o;have cO:Hid (d.length<=i):=b0.o;have bV:Hid (¬(Value.slice la d.length z).ownBlock=some pk):=λh=>by
     rw[aR]at h;cases h;exact fI.o rfl
    clear aR a6 bT;refine Bq ?_;refine C8 ?_
   rotate_left
   iterate 2
    focus
     have bB:Hid ((wY.alloc (.cells #[.slice none 0 0] 97)).ownsRow 0 97 1 (.slice a7 ws.length a2) ws.length vs):=Ax aG.o.Bu λg hg=>((A3.I Ab wY).al _).An g (AF aG.o.Bu hg) (λh=>h)
     have bW:=A1 (Src.bh (size:=1) (B:=wY.heap.size) underlying174 wY #[.slice none 0 0] 97 (by simp) 1 1 rfl (by simp[Value.oneCell']));have cM:=A1 (dB.o.al (.cells #[.slice none 0 0] 97));have b4:=A1 (aG.o.aO ((A3.I Ab wY).al (.cells #[.slice none 0 0] 97)));have bX:=A1 (aA.o.an ((A3.I Ab wY).al (.cells #[.slice none 0 0] 97)) (λh=>h));(have bY:Hid ((ws.length+1)*24<=140737488355328):=by have h1:=eF.o;unfold Hid;omega);have dM:Hid (∀g,(Value.slice a7 ws.length a2).ownBlock=some g->pk≠g):=λg hg e=>by
      subst e;have:=AF aP.o.Bu hg;have h2:=aM.o;omega
     (have bP:IntKind.i64.wrap (ws.length:Int)=(ws.length:Int):=by have:=eF.o;simp[IntKind.wrap,IntKind.bits,IntKind.signed];omega);(have dG:IntKind.i64.wrap ((ws.length:Int)+1-1)=(ws.length:Int):=by rw[JS];exact bP);(have dN:wrap64 ((ws.length:Int)+1-1)=(ws.length:Int):=by have:=eF.o;unfold wrap64;omega);have eP:(0:Int)<=(ws.length:Int):=GK _;(have dP:(ws.length:Int)<(ws.length:Int)+1:=by omega);go_wp2_with (at_builtin;refine Dj rfl (.tmp 42) (.tmp 43) 174 174 rfl 97 i0 _ 1 24 underlying174 hi fK fC fE rfl (by decide) (.slice a7 ws.length a2) ws.length vs (by rfl) bB.o _ 1 _ (by rfl) bW.o bY.o ?_;intro a8 aD w8 hA;have dQ:=A1 hA;clear hA;obtain⟨a8',c8',e8,r1,r2,r3,-⟩:=B9 dQ.o.AE;cases e8;obtain⟨g0,rfl⟩:=r3 (Nat.succ_pos _);clear r3;have e4:A7 w8 g0 ws.length (.slice none 0 0):=BH dQ.o.AE rfl (by rw[<-aG.o.B4,HV (Ao _)];simp));go_quiet (fail);have cT:=dQ.o.Al (S:=λk=>(Value.slice a7 ws.length a2).ownBlock=some k) λ_ h=>h;have dA:=A1 ((b4.o.cj dQ.o cM.o.Aj).aO ((A3.I Ab w8).bb nq));have aF:=A1 ((bX.o.an cT (λh=>dM.o _ h rfl)).an ((A3.I Ab w8).bb nq) (λh=>h));have eA:=A1 ((cM.o.Av (S':=λk=>(Value.slice a7 ws.length a2).ownBlock=some k) cT λy hy bC=>absurd bC (QE.2 (aP.o.lo y hy))).tr ((A3.I Ab w8).bb nq));generalize w8.drewN nq=Y at dA aF eA ⊢;obtain⟨d,aI⟩:∃d:gh Pu,d=[]:=⟨_,rfl⟩;obtain⟨la,aR⟩:∃la:Option Addr,la=none:=⟨_,rfl⟩;obtain⟨z,bJ⟩:∃z:Nat,z=0:=⟨_,rfl⟩;(have cY:Hid (DR Y w2.heap.size (AH g0 (ws.length+1) aD) (vs++[.slice la d.length z]) (ws++[d])):=by subst aI aR bJ;exact dA.o);(have aB:Hid (EJ len ws (decide (i=0)) (if i=0 then (0,0,0) else O.getD (i-1) (0,0,0)) (H,E,pc)=ws++[d++[(H,E,pc)]]):=by unfold Hid;rw[aL.o];subst aI;simp[H0]);have eG:Hid (∀x∈ws++[d],x.length<=i):=λx I=>by
      rcases AU.1 I with I|I
      ·exact dJ.o x I
      ·rw[Hd.1 I,aI];exact Cb _
     have bH:Hid (ws.length+1<=i+1):=QC eF.o;(have cO:Hid (d.length<=i):=by rw[aI];exact Cb _);(have bV:Hid (¬(Value.slice la d.length z).ownBlock=some pk):=by rw[aR];simp[Hid,Value.ownBlock]);clear aI aR bJ e4 cT dA dQ b4 cM bX bB bW bY dM aL bP dG dN eP dP
    rotate_left
   all_goals
    have eC:Hid (A7 Y g0 ws.length (.slice la d.length z)):=by
     (have aS:vs.length=ws.length:=by have:=cY.o.B4;simpa using this);rw[<-aS];exact BH cY.o.Bu rfl (by rw[HV (Ao _)];simp)
    have oc:=eC.o;have eU:Hid (AX Y (.slice la d.length z) d):=by
     (have aS:vs.length=ws.length:=by have:=cY.o.B4;simpa using this);have h1:=cY.o.ls vs.length (by simp) (by simp;omega);(have e1:(vs++[Value.slice la d.length z])[vs.length]'(by simp)=.slice la d.length z:=by simp);(have e2:(ws++[d])[vs.length]'(by simp;omega)=d:=by rw[GH (by omega)];simp[aS]);rw[e1,e2]at h1;exact h1
    obtain⟨la',lcap',fA,la1,eX,-⟩:=B9 eU.o;cases fA;unfold maxLen at eX;have f0:=aF.o.ag.c0;have f1:=aF.o.ag.c1;have f2:=aF.o.ag.c2;have dK:A7 Y.drew g0 ws.length (.slice la d.length z):=oc;go_wp2;refine Cc (λw'=>A7 w' g0 ws.length (.slice la d.length z)/\A7 w' pk 0 (A0 H)/\A7 w' pk 1 (A0 E)/\A7 w' pk 2 (A0 pc)) 7
     (BG [0,1,2,3,4,5,6] [5,6]) ⟨dK,f0,f1,f2⟩ ?_
    iterate 5 refine Bq ?_
    refine Bx λK hK=>?_;go_simp;have ka:A3 Ab Y (Y.alloc (.cells #[A0 H,A0 E,A0 pc] 113)).drew:=((A3.I _ _).al _).ag;have bF:=aF.o.an ka (λh=>h);have eL:Hid (AX (Y.alloc (.cells #[A0 H,A0 E,A0 pc] 113)).drew (.slice la d.length z) d):=Ax eU.o λg hg=>ka.An g (AF eU.o hg) (λh=>h);have aW:=A1 (cY.o.aO ka);have b7:Hid (Src Tryz.prog 3 97 (AH Y.heap.size 1 1) 1 #[A0 H,A0 E,A0 pc].toList (Y.alloc (.cells #[A0 H,A0 E,A0 pc] 113)).drew):=by
     have hb:(Y.alloc (.cells #[A0 H,A0 E,A0 pc] 113)).drew.heap[Y.heap.size]?=some (.cells #[A0 H,A0 E,A0 pc] 113 (0,0)):=BL Y _;exact Src.cv Gy hb 1 1 rfl (IE [(H,E,pc)])
    refine hK _ _ ⟨ka.ao oc,bF.c0,bF.c1,bF.c2⟩ (λhS=>?_);have eE:=A1 bF;have fF:=A1 ka;clear hK K hS bF ka oc f0 f1 f2 dK;refine Eb rfl (by rfl) (λK hK=>?_);refine Ir (.tmp 78) (.tmp 80) 97 97 rfl 113 j0 _ 3 24 Gy hj fN fG e0 rfl (by decide) (.slice la d.length z) d.length (Bb d) (by rfl) eL.o _ 1 _ (by rfl) b7.o (eS.o _ cO.o) ?_;intro a8 aD w8 hA;have a1:=hA.Al (S:=λk=>(Value.slice la d.length z).ownBlock=some k) λ_ h=>h;have b6:AX w8 (.slice a8 (d.length+1) aD) (d++[(H,E,pc)]):=by
     (have e:(d++[(H,E,pc)]).length=d.length+1:=by simp);unfold AX;rw[Jk,e];exact hA.AE
    have dE:∀g,(Value.slice a8 (d.length+1) aD).ownBlock=some g->(Value.slice la d.length z).ownBlock=some g\/(Y.alloc (.cells #[A0 H,A0 E,A0 pc] 113)).drew.heap.size<=g:=λg hg=>by
     rcases hA.CA with h|h
     ·rw[h]at hg;exact .inl hg
     ·rw[h]at hg;cases hg;exact .inr (Ao _)
    have dX:w2.heap.size<=(Y.alloc (.cells #[A0 H,A0 E,A0 pc] 113)).drew.heap.size:=AJ eA.o.Aj fF.o.Aj;(have b5:vs.length=ws.length:=by have:=cY.o.B4;simpa using this);have aE:=aW.o.e2 a1 b6 dE dX;rw[b5]at aE;have aE:=A1 aE;(have aQ:Value.slice la d.length z∈vs++[Value.slice la d.length z]:=by simp);have bN:=eE.o.an a1 bV.o;have eB:A7 w8 g0 ws.length (.slice la d.length z):=a1.bq (fF.o.ao eC.o) (λh=>aW.o.ne aQ h rfl);have hofz8:w8.frozen? (Ac g0 ws.length)=false:=by
     have hb:=a1.An g0 (AF aW.o.Bu rfl) (λh=>aW.o.ne aQ h rfl);have:=Gk aW.o.Bu (g:=g0) rfl ws.length;unfold World.frozen? at this ⊢;rw[hb];exact this
    refine hK _ _ ⟨eB,bN.c0,bN.c1,bN.c2⟩ (λhS=>?_);have fX:Hid (A3 Ab w2 (w8.sC g0 ws.length (.slice a8 (d.length+1) aD))):=((eA.o.tr fF.o).Av (S':=λk=>(Value.slice la d.length z).ownBlock=some k) a1 λy hy bC=>by have:=aW.o.li _ aQ _ hy;omega).bn (p:=(Ac g0 ws.length)) (λh=>by have:=aW.o.lo g0 rfl;have h':g0<w2.heap.size:=h;omega) _;have a9:=A1 (aX.o _ aB.o);clear hK K hS hA a1 b6 dE dX bN b7 eL b5 aX aB;refine C8 ?_;go_wp2;go_roundw
    ·exact⟨i+1,ws++[d++[(H,E,pc)]],vs++[.slice a8 (d.length+1) aD],by go_num,aT,aE.o,fX.o,(by rw[AY];exact bH.o),(λx I=>(AU.1 I).elim (λI=>NK (eG.o x (AU.2 (.inl I)))) (λI=>by rw[Hd.1 I,AY];exact QC cO.o)),λ_=>⟨ws,_,rfl,by simp⟩,a9.o⟩
    ·simp[intOf];omega
end
def Xs(len:Int)(ws:gh (gh Pu))(first:Bool)(E p:Pu):
 (EJ len ws first E p).length<=ws.length+1/\Dk (EJ len ws first E p)<=Dk ws+1/\∀x∈EJ len ws first E p,∀y∈x,y=p\/∃z∈ws,y∈z:=by
 obtain⟨d,O,h1,h2,W⟩:∃d,(if first=true\/Bz p.2.1 len≠Bz E.2.1 len then ws++[[]] else ws)=d/\(d.length<=ws.length+1)/\Dk d=Dk ws/\(∀x∈d,∀y∈x,∃z∈ws,y∈z)/\True:=by
  refine⟨_,rfl,?_⟩;split
  ·refine⟨by simp,by simp[Dk],λx h y hy=>?_,trivial⟩;rcases AU.1 h with h|h
   ·exact⟨x,h,hy⟩
   ·simp at h;subst h;simp at hy
  ·exact⟨by omega,rfl,λx h y hy=>⟨x,h,hy⟩,trivial⟩
 have hl1:d=[]\/d.length<=ws.length+1:=.inr h1;have I:d.dropLast.length+1<=ws.length+1:=by
  rw[WR];have:d.length<=ws.length+1:=h1;omega
 have key:∀t:gh Pu,t.length<=(d.getLastD []).length+1->Dk (d.dropLast++[t])<=Dk ws+1:=λt ht=>by
  rw[ME,<-h2];rcases Mn d with rfl|⟨a,b,H⟩
  ·simp[Dk]at ht ⊢;omega
  ·rw[WY]at H;subst H;(have Y:(a++[b]).getLastD []=b:=by rw[KQ];simp);rw[Y]at ht;rw[List.dropLast_concat,ME];simp[Dk];omega
 have L:∀y∈d.getLastD [],∃z∈ws,y∈z:=λy hy=>by
  rcases Mn d with rfl|⟨a,b,H⟩
  ·simp at hy
  ·rw[WY]at H;subst H;(have Y:(a++[b]).getLastD []=b:=by rw[KQ];simp);rw[Y]at hy;exact W.1 b (by simp) y hy
 unfold EJ;dsimp only
 rw[O];split
 ·refine⟨by simpa using I,key _ (by simp),λx h y hy=>?_⟩;rcases AU.1 h with h|h
  ·exact .inr (W.1 x (WX _ h) y hy)
  ·rw[Hd]at h;subst h;rcases AU.1 hy with hy|hy
   ·exact .inr (L y (WX _ hy))
   ·exact .inl (Hd.1 hy)
 ·refine⟨by simpa using I,key _ (by simp),λx h y hy=>?_⟩;rcases AU.1 h with h|h
  ·exact .inr (W.1 x (WX _ h) y hy)
  ·rw[Hd]at h;subst h;rcases AU.1 hy with hy|hy
   ·exact .inr (L y hy)
   ·exact .inl (Hd.1 hy)
def Rf(len:Int):∀(l:gh Pu) (first:Bool) (d:Pu) (ws:gh (gh Pu)),
 (El len l first d ws).length<=ws.length+l.length/\Dk (El len l first d ws)<=Dk ws+l.length/\∀x∈El len l first d ws,∀y∈x,y∈l\/∃z∈ws,y∈z
 | [],_,_,ws=>⟨Ao _,Ao _,λx E y hy=>.inr ⟨x,E,hy⟩⟩
 | p::r,first,d,ws=>by
  have⟨s1,s2,s3⟩:=Xs len ws first d p
  have⟨h1,h2,h3⟩:=Rf len r false p (EJ len ws first d p);unfold El;refine⟨by simp;omega,by simp;omega,λx E y hy=>?_⟩;rcases h3 x E y hy with h|⟨z,H,h⟩
  ·exact .inl (Bp _ h)
  ·rcases s3 z H y h with rfl|h
   ·exact .inl Bt
   ·exact .inr h
def Y4{l:gh (gh Pu)}{x:gh Pu}(h:x∈l):x.length<=Dk l:=by
 induction l with
 | nil=>cases h
 | cons a r ih=>
  rw[Oq];rcases BB.1 h with rfl|h
  ·omega
  ·have:=ih h;omega
def PT(len:Int)(l:gh Pu):(By len l).length<=l.length/\Dk (By len l)<=l.length/\∀x∈By len l,(∀p∈x,p∈l)/\x.length<=l.length:=by
 have⟨d,E,h3⟩:=Rf len (Ec (Az len) l) true (0,0,0) [];rw[RZ]at d E;have e:El len (Ec (Az len) l) true (0,0,0) []=By len l:=rfl;rw[e]at d E h3;have d:(By len l).length<=l.length:=by simpa using d
 have E:Dk (By len l)<=l.length:=by
  have e0:Dk []=0:=rfl;omega
 refine⟨d,E,λx H=>⟨λp I=>?_,?_⟩⟩
 ·rcases h3 x H p I with h|⟨z,L,-⟩
  ·exact((Fp len).cu l).bE.DG (Fp len) h
  ·cases L
 ·have:=Y4 H;omega
section
variable{N ab b a c m B:Nat}{A:Ar}{P:PD}{FT:Nat->Prop}
def A4e(hS:Fy N)(hN:N<=134217728)(w:ga)(h:AD w ab b A P FT)(a2:∀k,FT k->k<w.heap.size)(wa:Int)(hw:1<=wa/\wa<=4611686018427387904)(aE:(P.pd A.j.Ak).1.length<=N)(aB:∀p∈(P.pd A.j.Ak).1,B8 p)(aZ:0<=A.A8/\A.A8+N<=9223372036854775807)(aQ:AT (A.j.A8+1))(aP:∀x∈A.ix.sd,AT x)(hF:Fit P a c m)(W:CP (a+N+2) (c+2*a+2*N+4) (m+29*N+12+8*A.ix.sd.length))(hm:A.j.Ak.length*m<=70368744177664)(hkl:A.ix.sd.length+N<=134217728)(hn:∀n∈A.ix.sd,CH n)(aO:∀n∈A.j.Ak,CH n)(a0:A.j.Ak.length<=1073741824)(hL:Lets B w)(aR:∀k,FT k->B<=k):
 Ag 68 #[A5 ab,A0 wa] w (Am (A0 (A.aR P wa).1) λw'=>Aq w FT w' (λw' E=>AD w' ab b (A.aR P wa).2.1 (A.aR P wa).2.2 E)):=by
 have⟨xb,jb,sv,ov,lv,jo,Ft,hv,hsub⟩:=id h;have c2:=hv.Ah.c2;have aW:=A1 (OY w hv.dk hv.lt hv.jn hF ⟨by have:=W.a;omega,by have:=W.c;omega,by have:=W.m;omega⟩ hm aO hL);have aJ:Hid (A.aR P wa=if (P.pd A.j.Ak).2≠0 then ((P.pd A.j.Ak).2,A,P) else A.aF P A.ix.sd (By wa (P.pd A.j.Ak).1)):=rfl;have aD:=A1 (PT wa (P.pd A.j.Ak).1);generalize hR:A.aR P wa=R at aJ ⊢;generalize hPS:P.pd A.j.Ak=PS at aW aJ aD aE aB;obtain⟨ps,pe⟩:=PS;dsimp only at aW aJ aD aE aB;have H:=A1 h;have bB:=A1 hv;have L:=A1 a2;have aH:=A1 aB
 have a3:Hid (∀d kv fv,A3 Ab w d->DF d kv A.ix.sd->(∀g,kv.oB g->w.heap.size<=g)->Qy d fv (By wa ps) FT->pe=0->
  Ag 107 #[A5 ab,kv,fv] d (Am (A0 R.1) λw'=>Aq w FT w' (λw' E=>AD w' ab b R.2.1 R.2.2 E))):=λd kv fv Y O aF hf he=>by
  have⟨z1,z2,z3⟩:=aD.o;have aA:R=A.aF P A.ix.sd (By wa ps):=by rw[aJ.o,Aa (by simp[he])]
  rw[aA]
  refine(Sv d (H.o.aJ Y) (λk O=>Bi (L.o k O) Y.Aj) kv A.ix.sd O (λg z=>⟨λhx=>by have:=aF g z;have:=L.o g hx;omega,AJ hL.1 (aF g z)⟩) fv (By wa ps) hf
   (λl W=>⟨λp hp=>aH.o p ((z3 l W).1 p hp),by have:=(z3 l W).2;omega⟩) ⟨aZ.1,by omega⟩ aQ aP hF ⟨by have:=W.a;omega,by have:=W.c;omega,by have:=W.m;omega⟩ (by omega) hn aO hn (by omega) a0 (hL.aO Y) aR).mono ?_
  rintro e w'⟨h1,h2⟩;exact⟨h1,Aq.a7 (Y.aY) (λk O=>O.elim .inl λh=>.inr (aF k h)) h2⟩
 have aM:Hid (∀d,A3 Ab w d->pe≠0->R.1=pe/\Aq w FT d (λw' E=>AD w' ab b R.2.1 R.2.2 E)):=λd Y he=>by
  have aA:R=(pe,A,P):=by rw[aJ.o,Ae he]
  subst aA;exact⟨rfl,Y.aY,FT,H.o.aJ Y,λk O=>Bi (L.o k O) Y.Aj,λk O=>.inl O⟩
 have aS:Hid (∀d v,AX d v ps->_):=λd v hx=>V5 hS hN d v wa ps aE hx (λp hp=>(aH.o p hp).2.1) hw;have a1:Hid (A.ix.sd.length*8<=140737488355328):=by unfold Hid;omega
 go_enter func68,ntmps68
 go_wp2_with (fail);refine aW.m ?_;rintro e w1⟨v1,rfl,aT,ho1,aG⟩;by_cases hp:pe=0
 case neg=>
  have a5:=A1 (aM.o w1 aG hp);have hpb:(pe !=0)=true:=by simpa using hp
  go_wp2;go_ret;exact⟨by rw[a5.o.1];rfl,a5.o.2⟩
 case pos=>
  subst hp;have V1:=bB.o.aJ aG;have d1:=V1.Ah.c1;have d4:=V1.ix.c4;have a8:=A1 (A3N w1 sv A.ix.sd V1.sd a1.o);have a4:=A1 aG;have aN:=A1 aT;go_wp2_with (fail);refine a8.m ?_;rintro e w2⟨v2,rfl,aY,aV,aI⟩;have aL:=A1 aY;have aU:=A1 aV;have aX:Hid (A3 Ab w w2):=a4.o.tr aI;have bA:=A1 (aS.o w2 v1 (Ax aN.o λg z=>aI.An g (AF aN.o z) (λh=>h)));go_wp2_with (fail);refine bA.m ?_;rintro e w3⟨v3,vs,rfl,I,aK⟩;have a6:A3 Ab w w3:=aX.o.tr aK
  have a7:=A1 (a3.o w3 v2 v3 a6 (Ax aL.o λg z=>aK.An g (AF aL.o z) (λh=>h)) (λg z=>AJ a4.o.Aj (aU.o g z))
   ⟨vs,I.B4,I.Bu,I.ls,λg z hx=>by have:=I.lo g z;have:=L.o g hx;have:=aX.o.Aj;omega,λx hx g z hf=>by have:=I.li x hx g z;have:=L.o g hf;have:=aX.o.Aj;omega⟩ (by simp))
  go_wp2_with (fail);refine a7.k ?_;rintro w4 hI;have a9:=A1 hI;go_wp2;go_ret;exact⟨rfl,a9.o⟩
end
end
end Go.Proofs.YtodcnkbblippnaaGreatDoor
