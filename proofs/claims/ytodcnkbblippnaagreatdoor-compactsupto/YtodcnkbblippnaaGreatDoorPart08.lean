/- Part 8 of a proof: walks of the program. -/
import Derived.Test.YtodcnkbblippnaaGreatDoorPart07
namespace Go.Proofs.YtodcnkbblippnaaGreatDoor
set_option maxRecDepth 100000
set_option maxHeartbeats 32000000
set_option linter.defProp false
open Go.Proofs.Tryz
section
open Go.RowKit
attribute [local go_sem ↓] CL
def SL(l:gD Pu):(B5 l).length=l.length*3:=by
 induction l with
 | nil=>rfl
 | cons p r ih=>obtain⟨a,b,c⟩:=p;simp only[B5,CA,ih];omega
def SK:∀(l:gD Pu) (k:Nat) (_:k<l.length) (p:Pu),B5 (l.set k p)=(((B5 l).set (k*3) (.int .i64 p.1)).set (k*3+1) (.int .i64 p.2.1)).set (k*3+2) (.int .i64 p.2.2)
 | [],k,h,p=>by simp at h
 | (a,b,c):: r,0,_,p=>by obtain⟨p1,p2,p3⟩:=p;simp[B5]
 | (a,b,c):: r,k+1,h,p=>by
  have z:=SK r k (by simpa using h) p;have d:(k+1)*3=k*3+1+1+1:=by omega
  simp only[Qn,B5,z,d]
def B1.bx{w:gx}{g n cap:Nat}{l:gD Pu}(h:w.ownsRow 0 113 3 (AA g n cap) n (B5 l))(k:Nat)(d:k<l.length)(p:Pu):
 (((w.setCell (A9 g (k*3)) (A0 p.1)).setCell (A9 g (k*3+1)) (A0 p.2.1)).setCell (A9 g (k*3+2)) (A0 p.2.2)).ownsRow 0 113 3 (AA g n cap) n (B5 (l.set k p)):=by
 rw[SK l k d p];exact(((h.stored (k*3) _).1.stored (k*3+1) _).1.stored (k*3+2) _).1
def Yb{α:Type}(A C:gD α)(x y:α):((A++y::x::C).set (A.length+1) y).set A.length x=A++x::y::C:=by
 have d:(A++y::x::C).set (A.length+1) y=A++y::y::C:=by
  rw[J7 _ _ (by omega)];simp
 rw[d,J7 _ _ (by omega)];simp
def B1.gp{w:gx}{g n cap:Nat}{A C:gD Pu}{x y:Pu}(h:w.ownsRow 0 113 3 (.slice (some ⟨g,0,none⟩) n cap) n (B5 (A++y::x::C))):
 (w.cell? ⟨g,A.length*3,none⟩=some (.int .i64 y.1)/\w.cell? ⟨g,A.length*3+1,none⟩=some (.int .i64 y.2.1)/\w.cell? ⟨g,A.length*3+2,none⟩=some (.int .i64 y.2.2))/\
 (w.cell? ⟨g,(A.length+1)*3,none⟩=some (.int .i64 x.1)/\w.cell? ⟨g,(A.length+1)*3+1,none⟩=some (.int .i64 x.2.1)/\w.cell? ⟨g,(A.length+1)*3+2,none⟩=some (.int .i64 x.2.2))/\∀o,w.frozen? ⟨g,o,none⟩=false:=by
 have⟨q1,q2,q3⟩:=Hv (A++y::x::C) A.length (by simp);have⟨r1,r2,r3⟩:=Hv (A++y::x::C) (A.length+1) (by simp);have d:(A++y::x::C)[A.length]'(by simp)=y:=by simp
 have z:(A++y::x::C)[A.length+1]'(by simp)=x:=by
  rw[Gd (by omega)];simp
 rw[d]at q1 q2 q3;rw[z]at r1 r2 r3;exact⟨⟨Bv h rfl q1,Bv h rfl q2,Bv h rfl q3⟩,⟨Bv h rfl r1,Bv h rfl r2,Bv h rfl r3⟩,λo=>EK h rfl o⟩
def A1q{α:Type}{lt:α->α->Bool}(L:BZ lt){m:gD α}{x:α}{q:Nat}(hm:B6 lt m)(_hq:q<=m.length)(W:∀y∈m.drop q,lt x y=true)(X:∀z,(m.take q).getLast?=some z->lt x z=false):
 B6 lt (m.take q++x::m.drop q)/\Bt lt (m++[x]) (m.take q++x::m.drop q):=by
 have E:=E4 q m;have Y:B6 lt (m.take q++m.drop q):=by rw[E];exact hm
 have⟨a1,a2,a3⟩:=Y.av;have hx:∀y∈m.take q,lt x y=false:=by
  have I:B6 lt [x]:=NA _ _;have:=L.cN a1 I λz y h d=>by
   simp at d;subst d;exact X z h
  exact λy d=>this y d x (by simp)
 refine⟨B6.cJ a1 (Dk.2 ⟨λy d=>L.cp (W y d),a2⟩) λy d z h=>?_,?_⟩
 ·rcases BS.1 h with rfl|h
  ·exact hx y d
  ·exact a3 y d z h
 ·have h3:=L.dn W;have O:=(Bt.C (lt:=lt) (m.take q)).av h3;rw[<-Ci,E]at O;exact O
def Ub(w:gx)(g cap wb:Nat)(len:Int)(l:gD Pu)(a b:Nat)(hab:a<b)(hb:b<=l.length)(h:B1 w (AA g l.length cap) l)(hT:∀p∈l,Ay p.2.1)(hl:1<=len/\len<=4611686018427387904)(hw:A8 w wb 0 (A0 len))(bH:wb≠g)(_hbig:l.length<=4294967296):
 Ag 243 #[AA g l.length cap,A0 a,A0 b,.func (Fn.func 155) #[] #[A5 wb]] w (Aj (.tuple #[]) λw'=>
  ∃m,B1 w' (AA g l.length cap) (l.take a++m++l.drop b)/\m.length=b-a/\Bt (AE len) ((l.take b).drop a) m/\B6 (AE len) m/\A4 (One g) w w'):=by
 have bY:=Ga len;obtain⟨n,hn⟩:∃n,l.length=n:=⟨_,rfl⟩;have bZ:Hid (w.ownsRow 0 113 3 (AA g n cap) n (B5 l)):=by have:=h;unfold B1 at this;rw[hn]at this;exact this
 rw[hn]at hb ⊢;have aS:n<=cap/\cap<=9223372036854775807:=by
  have⟨a',c',e,h1,h2,_⟩:=B8 bZ.o;cases e;unfold maxLen at h2;omega
 obtain⟨hc1,hc2⟩:=aS;have b7:=A1 hT;have cB:=A1 hw;have cG:=A1 hl;have a8:=A1 hn;have bJ:=A1 bH;have eia:wrap64 ((a:Int)+1)=(a:Int)+1:=by unfold wrap64;omega
 go_enter func243,ntmps243
 go_wp2;go_loopw [8] (λiv wr=>∃i:Nat,iv=A0 ((i:Int)+1)/\a<=i/\i+1<=b/\Hid (∃m,wr.ownsRow 0 113 3 (AA g n cap) n (B5 (l.take a++m++l.drop (i+1)))/\m.length=i+1-a/\Bt (AE len) ((l.take (i+1)).drop a) m/\B6 (AE len) m/\A4 (One g) w wr)) (λiv _=>b-(intOf iv).toNat)
 ·refine⟨a,rfl,by omega,by omega,(l.take (a+1)).drop a,?_,?_,Bt.C _,?_,A4.C _ _⟩
  ·have e:l.take a++(l.take (a+1)).drop a++l.drop (a+1)=l:=by
    have:=E4 (a+1) l
    conv=>rhs;rw[<-this]
    congr 1
    have h2:=E4 a (l.take (a+1));rw[KF]at h2;rw[show min a (a+1)=a by omega]at h2;exact h2
   rw[e];exact bZ.o
  ·have:=a8.o;simp;omega
  ·have aT:((l.take (a+1)).drop a).length<=1:=by simp;omega
   match hx:(l.take (a+1)).drop a,aT with
   | [],_=>exact List.Pairwise.nil
   | [x],_=>exact NA _ _
   | x::y::r,hl=>simp at hl
 ·obtain⟨i,rfl,hai,hib,hI⟩:=hrel;have⟨m,i1,i2,i3,i4,i5⟩:=hI.o;by_cases hi1:i+1<b
  ·obtain⟨w1,bC⟩:∃w1,w1=wr:=⟨_,rfl⟩;subst bC;(have aG:i+1<l.length:=by have:=a8.o;omega);have a6:=FK aG;have a2:=Dq aG;have aX:=BV aG;generalize hx:(l[i+1]'aG)=x at a6 a2 aX;rw[a6]at i1;have cA:=A1 i1;have b8:=A1 i2;have b3:=A1 i3;have cD:=A1 i4;have cE:=A1 i5;have bA:Hid ((l.take (i+1+1)).drop a=(l.take (i+1)).drop a++[x]):=by
    unfold Hid;rw[a2,M8 (by simp;omega)]
   have bQ:=A1 (b7.o x aX);(have aY:Hid ((l.take a).length=a):=by unfold Hid;have:=a8.o;simp;omega);(have bF:(i:Int)+1<(b:Int):=by omega);go_wp2
   have aD:Hid (∀(O:gx) (q:Nat),q<=m.length->(∀y∈m.drop q,AE len x y=true)->(∀z,(m.take q).getLast?=some z->AE len x z=false)->O.ownsRow 0 113 3 (AA g n cap) n (B5 ((l.take a++m.take q)++x::(m.drop q++l.drop (i+1+1))))->A4 (One g) w O->
    ∃m',O.ownsRow 0 113 3 (AA g n cap) n (B5 (l.take a++m'++l.drop (i+1+1)))/\m'.length=i+1+1-a/\Bt (AE len) ((l.take (i+1+1)).drop a) m'/\B6 (AE len) m'/\A4 (One g) w O):=λO q hq h1 h2 h3 h4=>by
    have⟨d1,d2⟩:=A1q bY cD.o hq h1 h2;refine⟨m.take q++x::m.drop q,?_,?_,?_,d1,h4⟩
    ·(have e:l.take a++(m.take q++x::m.drop q)++l.drop (i+1+1)=(l.take a++m.take q)++x::(m.drop q++l.drop (i+1+1)):=by simp);rw[e];exact h3
    ·have:=b8.o;simp;omega
    ·rw[bA.o];exact(b3.o.av (Bt.C _)).AH d2
   go_loopw [9] (λjv wr=>∃j q:Nat,jv=A0 (j:Int)/\j<=i+1/\Hid (j=a+q/\q<=m.length/\wr.ownsRow 0 113 3 (AA g n cap) n (B5 ((l.take a++m.take q)++x::(m.drop q++l.drop (i+1+1))))/\(∀y∈m.drop q,AE len x y=true)/\A4 (One g) w wr)) (λjv _=>(intOf jv).toNat)
   ·refine⟨i+1,m.length,by go_num,Ao _,by have:=b8.o;omega,Ao _,?_,(λy hy=>by rw[GX]at hy;cases hy),cE.o⟩;rw[C5,GX,Fa];exact cA.o
   ·obtain⟨j,q,rfl,bL,hJ⟩:=hrel;have⟨j1,j2,j3,j4,j5⟩:=hJ.o;by_cases bI:q=0
    ·subst bI;(have bM:j=a:=by omega);subst bM;have aM:=A1 (λnq=>aD.o (wr.drewN nq) 0 (Ch _) j4 (λz hz=>by simp at hz) (Au j3 λ_ _=>rfl) (j5.a7 nq));(have hjj:¬((j:Int)<(j:Int)):=by omega);clear hJ j1 j2 j3 j4 j5 aD;go_wp2;go_quiet (fail);go_wp2;go_roundw
     ·exact⟨i+1,by go_num,by omega,by omega,aM.o _⟩
     ·simp[intOf];omega
    ·obtain⟨q,rfl⟩:∃q',q=q'+1:=⟨q-1,by omega⟩;obtain⟨P,hP⟩:∃P,a+q=P:=⟨_,rfl⟩;(have bW:j=P+1:=by omega);subst bW;(have aA:q<m.length:=by omega);have aB:=Dq aA;have aO:=FK aA;generalize hy:(m[q]'aA)=y at aB aO;(have aE:∀z,(m.take (q+1)).getLast?=some z->z=y:=λz hz=>by rw[aB]at hz;simpa using hz.symm);have aU:Ay y.2.1:=by
      (have bR:y∈m:=by rw[<-hy];exact BV aA);have:=(b3.o.bI.DD bY bR);exact b7.o y (Ho (KI this))
     (have aJ:(l.take a++m.take q).length=P:=by have:=aY.o;rw[B3,this,BK];omega);(have e0:(l.take a++m.take (q+1))++x::(m.drop (q+1)++l.drop (i+1+1))=(l.take a++m.take q)++y::x::(m.drop (q+1)++l.drop (i+1+1)):=by rw[aB];simp);have aF:=j3;rw[e0]at aF;have⟨⟨y1,y2,y3⟩,⟨x1,x2,x3⟩,fz⟩:=B1.gp aF;rw[aJ]at y1 y2 y3 x1 x2 x3;have a0:=A1 (λO bK=>N9 O wb len x y bQ.o aU cG.o bK);have bU:=A27 len x y;have aN:=N8 (len:=len) (p:=x) (q:=y);generalize bT:Hh len x y=cc at a0 bU aN;have aH:=j5.bJ cB.o (λe=>bJ.o e);have b2:=A1 j3;have aZ:=A1 aF;have b6:=A1 j4;have b1:=A1 j5;have a3:=A1 aO;have HTQ:=A1 aB;have aK:=A1 aE;have W:=A1 aJ;have cF:=A1 hP;have aW:=A1 aA;have bO:=A1 bL;have a5:=A1 aN;(have hPn:(P:Int)+1<(n:Int):=by omega);(have hPn2:(P:Int)<(n:Int):=by omega);have hP0:=BJ P;(have hPa:(a:Int)<(P:Int)+1:=by omega);(have pk:(0:Int)<=(P:Int)+1:=by omega);have bG:IntKind.i64.wrap (P:Int)=P:=Eo (by omega);(have ew1:IntKind.i64.wrap ((P:Int)+1-1)=P:=by rw[JW];exact bG);(have ew2:wrap64 ((P:Int)+1-1)=P:=by unfold wrap64;omega);(have ew3:wrap64 (P:Int)=P:=by unfold wrap64;omega);have tk:=ES (P+1);obtain⟨X,d,Y⟩:=x;obtain⟨I,L,E⟩:=y;dsimp only at y1 y2 y3 x1 x2 x3;unfold DK at a0;dsimp only at a0;have a7:Hid (∀O,A4 Aa wr O->A8 O g (P*3) (A0 I)/\A8 O g (P*3+1) (A0 L)/\A8 O g (P*3+2) (A0 E)/\A8 O g ((P+1)*3) (A0 X)/\A8 O g ((P+1)*3+1) (A0 d)/\A8 O g ((P+1)*3+2) (A0 Y)):=λO hx=>
      ⟨hx.ah y1,hx.ah y2,hx.ah y3,hx.ah x1,hx.ah x2,hx.ah x3⟩
     have b0:=a7.o wr.drew (A4.C _ wr).aa;have aQ:=A1 (a0.o wr.drew aH);clear hJ j1 j2 j3 aF j4 j5 aB aO aE aJ hP aN aU hy bT e0 a0 aH aA fz;by_cases aR:cc<0
     ·(have bS:¬(0<=cc):=by omega);go_wp2;refine Br (λw'=>A8 w' g (P*3) (A0 I)/\A8 w' g (P*3+1) (A0 L)/\A8 w' g (P*3+2) (A0 E)/\A8 w' g ((P+1)*3) (A0 X)/\A8 w' g ((P+1)*3+1) (A0 d)/\A8 w' g ((P+1)*3+2) (A0 Y)) 16
       (Ba [0,1,2,3,4,5,6,7,8,9,10,11,12,13,14,15] [14]) b0 ?_
      iterate 14 refine B4 ?_
      refine Bf λK hK=>?_;go_simp;refine aQ.k ?_;rintro w6 aL;have k6:=((A4.C Aa wr).aa).tr aL;refine hK _ _ (a7.o w6 k6) (λhS=>?_);have b4:=A1 k6;have b9:=a7.o w6 k6;refine B4 ?_;refine Bo ?_;obtain⟨y1,y2,y3,x1,x2,x3⟩:=b9;have bX:Hid (w6.ownsRow 0 113 3 (AA g n cap) n (B5 ((l.take a++m.take q)++(I,L,E):: (X,d,Y):: (m.drop (q+1)++l.drop (i+1+1))))):=Au aZ.o λg' hg=>b4.o.Al g' (Aw aZ.o hg) (λh=>h);have fz:∀o,w6.frozen? (A9 g o)=false:=λo=>EK bX.o rfl o;go_wp2;refine Mg 15 (λw'=>A8 w' g (P*3) (A0 I)/\A8 w' g (P*3+1) (A0 L)/\A8 w' g (P*3+2) (A0 E)/\A8 w' g ((P+1)*3) (A0 X)/\A8 w' g ((P+1)*3+1) (A0 d)/\A8 w' g ((P+1)*3+2) (A0 Y)) 16
       [(0,1),(1,1),(5,1),(6,1),(7,1),(8,1),(9,1),(10,2),(11,2),(12,2),(13,1),(14,1),(2,2),(3,2),(4,2),(15,0)] ⟨y1,y2,y3,x1,x2,x3⟩ ?_
      iterate 7 refine IB ?_
      iterate 3 refine IC ?_
      iterate 2 refine IB ?_
      iterate 3 refine IC ?_
      refine Mi λK hK=>?_;go_simp;refine hK _ _ ?_;refine Mh ?_;have e1:((l.take a++m.take q)++(I,L,E):: (X,d,Y):: (m.drop (q+1)++l.drop (i+1+1))).length=((l.take a++m.take q)++(I,L,E):: (X,d,Y):: (m.drop (q+1)++l.drop (i+1+1))).length:=rfl;have aP:=B1.bx bX.o (P+1) (by have:=W.o;rw[B3,W.o];simp) (I,L,E);have bP:=B1.bx aP P (by have:=W.o;rw[HK,B3,W.o];simp) (X,d,Y);have a1:=Yb (l.take a++m.take q) (m.drop (q+1)++l.drop (i+1+1)) (X,d,Y) (I,L,E);rw[W.o]at a1;rw[a1]at bP;have aI:∀hh,(((l.take a++m.take q)++(I,L,E):: (X,d,Y):: (m.drop (q+1)++l.drop (i+1+1))).set (P+1) (I,L,E))[P]'hh=(I,L,E):=λhh=>by
       rw[A4F (by omega)];rw[Gd (by rw[W.o];exact Ao _)];simp[W.o]
      have⟨p1,p2,p3⟩:=Hv _ P (show P<(((l.take a++m.take q)++(I,L,E):: (X,d,Y):: (m.drop (q+1)++l.drop (i+1+1))).set (P+1) (I,L,E)).length by rw[HK,B3,W.o];simp);rw[aI]at p1 p2 p3;have z1:=Bv aP rfl p1;have z2:=Bv aP rfl p2;have z3:=Bv aP rfl p3;dsimp only at aP bP z1 z2 z3;have bE:=A1 bP;have bV:∀o,((((w6.setCell (A9 g ((P+1)*3)) (A0 I)).setCell (A9 g ((P+1)*3+1)) (A0 L)).setCell (A9 g ((P+1)*3+2)) (A0 E))).drew.frozen? (A9 g o)=false:=λo=>EK aP rfl o;have b5:Hid (A4 (One g) wr (((((((w6.setCell (A9 g ((P+1)*3)) (A0 I)).setCell (A9 g ((P+1)*3+1)) (A0 L)).setCell (A9 g ((P+1)*3+2)) (A0 E)).drew.setCell (A9 g (P*3)) (A0 X)).setCell (A9 g (P*3+1)) (A0 d)).setCell (A9 g (P*3+2)) (A0 Y)))):=
       ((((((b4.o.aT (S:=One g)).ao (b:=g) rfl _ _).ao (b:=g) rfl _ _).ao (b:=g) rfl _ _).aa.ao (b:=g) rfl _ _).ao (b:=g) rfl _ _).ao (b:=g) rfl _ _
      have a4:Hid ((((((((w6.setCell (A9 g ((P+1)*3)) (A0 I)).setCell (A9 g ((P+1)*3+1)) (A0 L)).setCell (A9 g ((P+1)*3+2)) (A0 E)).drew.setCell (A9 g (P*3)) (A0 X)).setCell (A9 g (P*3+1)) (A0 d)).setCell (A9 g (P*3+2)) (A0 Y))).ownsRow 0 113 3 (AA g n cap) n (B5 ((l.take a++m.take q)++(X,d,Y):: (I,L,E):: (m.drop (q+1)++l.drop (i+1+1))))):=Au bE.o λ_ _=>rfl;have bD:((((w6.setCell (A9 g ((P+1)*3)) (A0 I)).setCell (A9 g ((P+1)*3+1)) (A0 L)).setCell (A9 g ((P+1)*3+2)) (A0 E))).drew.cell? (A9 g (P*3))=some (A0 I):=z1;have bN:((((w6.setCell (A9 g ((P+1)*3)) (A0 I)).setCell (A9 g ((P+1)*3+1)) (A0 L)).setCell (A9 g ((P+1)*3+2)) (A0 E))).drew.cell? (A9 g (P*3+1))=some (A0 L):=z2;have a9:((((w6.setCell (A9 g ((P+1)*3)) (A0 I)).setCell (A9 g ((P+1)*3+1)) (A0 L)).setCell (A9 g ((P+1)*3+2)) (A0 E))).drew.cell? (A9 g (P*3+2))=some (A0 E):=z3;generalize (((w6.setCell (A9 g ((P+1)*3)) (A0 I)).setCell (A9 g ((P+1)*3+1)) (A0 L)).setCell (A9 g ((P+1)*3+2)) (A0 E)).drew=w7 at bV b5 a4 bD bN a9 ⊢;go_wp2;go_roundw
      ·refine⟨P,q,rfl,Fm bO.o,cF.o.symm,Fm aW.o,?_,?_,?_⟩
       ·(have e2:(l.take a++m.take q)++(X,d,Y):: (m.drop q++l.drop (i+1+1))=(l.take a++m.take q)++(X,d,Y):: (I,L,E):: (m.drop (q+1)++l.drop (i+1+1)):=by rw[a3.o];rfl);rw[e2];exact Au a4.o λ_ _=>rfl
       ·intro z hz;rw[a3.o]at hz;rcases BS.1 hz with rfl|hz
        ·exact a5.o.1 aR
        ·exact b6.o z hz
       ·exact b1.o.tr b5.o
      ·simp[intOf]
     ·(have bS:0<=cc:=by omega);have aM:Hid (∀O,A4 Aa wr O->∃m',O.ownsRow 0 113 3 (AA g n cap) n (B5 (l.take a++m'++l.drop (i+1+1)))/\m'.length=i+1+1-a/\Bt (AE len) ((l.take (i+1+1)).drop a) m'/\B6 (AE len) m'/\A4 (One g) w O):=λO hx=>
       aD.o O (q+1) aW.o b6.o (λz hz=>by
        rw[aK.o z hz];cases hk:AE len (X,d,Y) (I,L,E) with
        | false=>rfl
        | true=>exact absurd (a5.o.2 hk) aR) (Au b2.o λg' hg=>hx.Al g' (Aw b2.o hg) (λh=>h)) (b1.o.bl hx)
      go_wp2;refine Br (λw'=>A8 w' g (P*3) (A0 I)/\A8 w' g (P*3+1) (A0 L)/\A8 w' g (P*3+2) (A0 E)/\A8 w' g ((P+1)*3) (A0 X)/\A8 w' g ((P+1)*3+1) (A0 d)/\A8 w' g ((P+1)*3+2) (A0 Y)) 16
       (Ba [0,1,2,3,4,5,6,7,8,9,10,11,12,13,14,15] [14]) b0 ?_
      iterate 14 refine B4 ?_
      refine Bf λK hK=>?_;go_simp;refine aQ.k ?_;rintro w6 aL;have k6:=((A4.C Aa wr).aa).tr aL;refine hK _ _ (a7.o w6 k6) (λhS=>?_);have aV:=A1 (aM.o w6 k6);refine B4 ?_;refine Bo ?_;go_wp2;go_roundw
      ·exact⟨i+1,by go_num,by omega,by omega,aV.o⟩
      ·simp[intOf];omega
  ·(have bB:i+1=b:=by omega);subst bB;have cC:=A1 hI.o;(have bF:¬((i:Int)+1<((i+1:Nat):Int)):=by omega);go_wp2;go_end0;have⟨m',q1,q2,q3,q4,q5⟩:=cC.o;refine⟨rfl,m',?_,q2,q3,q4,q5⟩;unfold B1;rw[Ci]at q1
   try rw[Ci]
   (have e:(l.take a++(m'++l.drop (i+1))).length=n:=by have:=a8.o;simp;omega);rw[e];exact q1
def Gc(N:Nat):Prop:=∀(w:gx) (v:gy) (wb:Nat) (len:Int) (l:gD Pu),l.length<=N->B1 w v l->(∀p∈l,Ay p.2.1)->(1<=len/\len<=4611686018427387904)->w.cell? ⟨wb,0,none⟩=some (.int .i64 len)->(∀g,v.ownBlock=some g->wb≠g)->
 Calls Tryz.prog 154 #[v,.func (Fn.func 155) #[] #[.pointer (some ⟨wb,0,none⟩)]] w λe w'=>e=.returned (.tuple #[])/\B1 w' v (Em (AE len) l)/\A4 (λk=>v.ownBlock=some k) w w'
def RA{α:Type}{lt:α->α->Bool}(l:gD α):(Em lt l).length=l.length:=by
 have ins:∀(x:α) (s:gD α),(FG lt x s).length=s.length+1:=by
  intro x s
  induction s with
  | nil=>rfl
  | cons y r ih=>unfold FG;split<;>simp[ih]
 have key:∀(l s:gD α),(l.foldl (λs x=>FG lt x s) s).length=s.length+l.length:=by
  intro l
  induction l with
  | nil=>intro s;simp
  | cons x r ih=>intro s;rw[Qr,ih,ins];simp;omega
 have:=key l [];simpa[Em] using this
def Ua(w:gx)(v c:gy)(a b:Nat)(ha:b<=a+1)(hb:a<=4294967296):
 Ag 243 #[v,A0 a,A0 b,c] w (Aj (.tuple #[]) λw'=>w=w'):=by
 have eia:wrap64 ((a:Int)+1)=(a:Int)+1:=by unfold wrap64;omega
 go_enter func243,ntmps243
 go_wp2;refine IA 1 ?_;rw[Fz];go_wp2;go_end0;exact⟨rfl,rfl⟩
def XR(w:gx)(v:gy)(wb:Nat)(len:Int)(l:gD Pu)(hn:l.length<=19)(h:B1 w v l)(O:∀p∈l,Ay p.2.1)(hl:1<=len/\len<=4611686018427387904)(hw:A8 w wb 0 (A0 len))(d:∀g,v.ownBlock=some g->wb≠g):
 Ag 202 #[v,A0 l.length,.func (Fn.func 155) #[] #[A5 wb]] w (Aj (.tuple #[]) λw'=>B1 w' v (Em (AE len) l)/\A4 (λk=>v.ownBlock=some k) w w'):=by
 have z:Hid (Ag 243 #[v,A0 ((0:Nat):Int),A0 l.length,.func (Fn.func 155) #[] #[A5 wb]] w (Aj (.tuple #[]) λw'=>B1 w' v (Em (AE len) l)/\A4 (λk=>v.oB k) w w')):=by
  by_cases E:l.length=0
  ·have e:l=[]:=Hp.1 E;subst e;refine(Ua w v _ 0 0 (by omega) (by omega)).k ?_;rintro w' rfl;exact⟨rfl,h,A4.C _ _⟩
  ·obtain⟨av,cap,rfl,h1,h2,h3,-,-⟩:=B8 h;obtain⟨g,rfl⟩:=h3 (by omega);refine(Ub w g cap wb len l 0 l.length (by omega) (Ao _) h O hl hw (d g rfl) (by omega)).k ?_;rintro w'⟨m,W,q2,Y,q4,q5⟩;have e1:m=Em (AE len) l:=(Ga len).eN q4 (by simpa using Y);refine⟨rfl,?_,q5.ai λk _ I=>by have e:k=g:=I;subst e;rfl⟩;rw[<-e1];have:=W;simp only[Fp,Fa,GX,Gt]at this;exact this
 rw[show ((0:Nat):Int)=0 from rfl]at z;have h20:¬((20:Int)<=(l.length:Int)):=by omega
 go_enter func202,ntmps202
 go_wp2;refine IA 1 ?_;rw[Fz];go_wp2_with (fail);refine z.k ?_;rintro w2⟨hp,X⟩;have L:=A1 hp;have aA:=A1 X;go_wp2;refine IA 1 ?_;rw[Fz];go_wp2;go_end0;exact⟨rfl,L.o,aA.o⟩
end
section
open Go.RowKit
structure E3 (w:gx) (B0:Nat) (v:gy) (vs:gD gy) (ws:gD (gD Pu)):Prop where
 Bp:w.ownsRow 0 97 1 v ws.length vs
 ls:∀(k:Nat) (h1:k<vs.length) (h2:k<ws.length),B1 w (vs[k]'h1) (ws[k]'h2)
 lo:∀g,v.ownBlock=some g->B0<=g
 li:∀x∈vs,∀g,x.ownBlock=some g->B0<=g
 JG:vs.Pairwise λx y=>∀g,x.ownBlock=some g->¬y.ownBlock=some g
section
variable{w w':gx}{B0:Nat}{v:gy}{vs:gD gy}{ws:gD (gD Pu)}
def E3.Be(h:E3 w B0 v vs ws):vs.length=ws.length:=by have:=h.Bp.1;omega
def E3.bU(w:gx)(B0:Nat):E3 w B0 (.slice none 0 0) [] []:=
 ⟨Co _ _ _ _,λk d=>by simp at d,λg h=>by simp[Value.ownBlock]at h,λx z=>by simp at z,List.Pairwise.nil⟩
def E3.al{S:Nat->Prop}(h:E3 w B0 v vs ws)(O:A4 S w w')(L:∀k,S k->k<B0):E3 w' B0 v vs ws:=
 ⟨Au h.Bp λg d=>O.Al g (Aw h.Bp d) λE=>by have:=L g E;have:=h.lo g d;omega,
  λk z I=>Au (h.ls k z I) λg d=>O.Al g (Aw (h.ls k z I) d) λE=>by have:=L g E;have:=h.li _ (BV z) g d;omega,h.lo,h.li,h.JG⟩
def E3.aL(h:E3 w B0 v vs ws)(d:A4 Aa w w'):E3 w' B0 v vs ws:=h.al d λ_ h=>h.elim
def E3.lt(h:E3 w B0 v vs ws){x:gy}(E:x∈vs){g:Nat}(z:x.ownBlock=some g):g<w.heap.size:=by
 obtain⟨k,d,rfl⟩:=DG E;exact Aw (h.ls k d (by have:=h.Be;omega)) z
def E3.ne(h:E3 w B0 v vs ws){x:gy}(E:x∈vs){g:Nat}(z:x.ownBlock=some g):¬v.ownBlock=some g:=by
 obtain⟨k,d,rfl⟩:=DG E;exact IY (h.ls k d (by have:=h.Be;omega)) h.Bp (by decide) z
def E3.cu{O:gy}(h:E3 w B0 v vs ws)(L:App w w' 97 1 v O (ws.length+1) (vs++[.slice none 0 0]))(hB:B0<=w.heap.size):E3 w' B0 O (vs++[.slice none 0 0]) (ws++[[]]):=by
 have hc:=L.Am (S:=λk=>v.ownBlock=some k) λ_ h=>h;have hl:=h.Be;refine⟨?_,λk z W=>?_,λg d=>?_,λx E g d=>?_,?_⟩
 ·have e:(ws++[[]]).length=ws.length+1:=by simp
  rw[e];exact L.AB
 ·by_cases I:k<ws.length
  ·rw[Fs (show k<vs.length by omega),Fs I];exact Au (h.ls k (by omega) I) λg d=>hc.Al g (Aw (h.ls k (by omega) I) d) (h.ne (BV (by omega)) d)
  ·have e1:(vs++[Value.slice none 0 0])[k]'z=.slice none 0 0:=by
    (have:k=vs.length:=by simp at z;omega);subst this;simp
   have Y:(ws++[[]])[k]'W=[]:=by
    (have:k=ws.length:=by simp at W;omega);subst this;simp
   rw[e1,Y];exact Co _ _ _ _
 ·rcases L.BY with z|z
  ·rw[z]at d;exact h.lo g d
  ·rw[z]at d;cases d;exact hB
 ·rcases AX.1 E with E|E
  ·exact h.li x E g d
  ·simp at E;subst E;simp[Value.ownBlock]at d
 ·exact EF.2 ⟨h.JG,NA _ _,λx _ y X g _ d=>by simp at X;subst X;simp[Value.ownBlock]at d⟩
def E3.fG{d:gD (gD Pu)}{z:gD gy}{lv:gy}{l l':gD Pu}(h:E3 w B0 v (z++[lv]) (d++[l]))(hc:A4 (λk=>lv.ownBlock=some k) w w')(hl:B1 w' lv l'):E3 w' B0 v (z++[lv]) (d++[l']):=by
 have I:=h.Be;have hln:z.length=d.length:=by simpa using I
 refine⟨?_,λk h1 Y=>?_,h.lo,h.li,h.JG⟩
 ·have e:(d++[l']).length=(d++[l]).length:=by simp
  rw[e];exact Au h.Bp λg E=>hc.Al g (Aw h.Bp E) λX=>h.ne (x:=lv) (by simp) X E
 ·by_cases hk:k<d.length
  ·(have O:k<(d++[l]).length:=by simp;omega);have W:=h.ls k h1 O;rw[Fs hk]at W ⊢;refine Au W λg E=>hc.Al g (Aw W E) λX=>?_;rw[Fs (show k<z.length by omega)]at E;exact(EF.1 h.JG).2.2 _ (BV (show k<z.length by omega)) lv (by simp) g E X
  ·(have L:k=d.length:=by simp at Y;omega);(have e2:(d++[l'])[k]'Y=l':=by subst L;simp);have e1:(z++[lv])[k]'h1=lv:=by
    (have:k=z.length:=by omega);subst this;simp
   rw[e1,e2];exact hl
def E3.fr{O n0 L:Nat}{z:gD (gD Pu)}{d:gD gy}{lv lv':gy}{l l':gD Pu}(h:E3 w B0 (.slice (some ⟨O,0,none⟩) n0 L) (d++[lv]) (z++[l]))(hc:A4 (λk=>lv.ownBlock=some k) w w')(hl:B1 w' lv' l')(ho:∀g,lv'.ownBlock=some g->lv.ownBlock=some g\/w.heap.size<=g)(hB:B0<=w.heap.size):
 E3 (w'.setCell ⟨O,d.length,none⟩ lv') B0 (.slice (some ⟨O,0,none⟩) n0 L) (d++[lv']) (z++[l']):=by
 have aA:=h.Be;have hln:d.length=z.length:=by simpa using aA
 have aI:n0=(z++[l]).length:=by
  have⟨a',c',e,_⟩:=B8 h.Bp;cases e;rfl
 subst aI;have hg0:=Aw h.Bp rfl;have W:=Au h.Bp λg E=>hc.Al g (Aw h.Bp E) λI=>h.ne (x:=lv) (by simp) I E;have aJ:∀g,lv'.ownBlock=some g->g≠O:=λg E e=>by
  subst e;exact IY hl W (by decide) E rfl
 have kz:A4 (One O) w' (w'.setCell ⟨O,d.length,none⟩ lv'):=(A4.C (One O) w').ao (b:=O) rfl _ _;have Y:=(W.stored d.length lv').1;have aB:(d++[lv]).set d.length lv'=d++[lv']:=by rw[J7 _ _ (Ao _)];simp
 rw[aB]at Y;refine⟨?_,λk X h2=>?_,h.lo,λx I g E=>?_,?_⟩
 ·have e:(z++[l']).length=(z++[l]).length:=by simp
  rw[e];exact Y
 ·by_cases hk:k<z.length
  ·(have aH:k<(d++[lv]).length:=by simp;omega);(have aG:k<(z++[l]).length:=by simp;omega);have h3:=h.ls k aH aG;rw[Fs hk,Fs (show k<d.length by omega)]at h3 ⊢;have aD:d[k]'(by omega)∈d++[lv]:=AX.2 (.inl (BV (by omega)));refine Au h3 λg E=>?_;have b1:=hc.Al g (Aw h3 E) λI=>(EF.1 h.JG).2.2 _ (BV (show k<d.length by omega)) lv (by simp) g E I
   have b2:=kz.Al g (Bn (Aw h3 E) hc.Ak) λe=>h.ne aD E (by have e':=e;subst e';rfl);rw[b2,b1]
  ·(have aE:k=z.length:=by simp at h2;omega);(have e2:(z++[l'])[k]'h2=l':=by subst aE;simp);have e1:(d++[lv'])[k]'X=lv':=by
    (have:k=d.length:=by omega);subst this;simp
   rw[e1,e2];exact Au hl λg E=>kz.Al g (Aw hl E) (aJ g E)
 ·rcases AX.1 I with I|I
  ·exact h.li x (AX.2 (.inl I)) g E
  ·simp at I;subst I;rcases ho g E with X|X
   ·exact h.li lv (by simp) g X
   ·omega
 ·have⟨d1,d2,d3⟩:=EF.1 h.JG;refine EF.2 ⟨d1,NA _ _,λx I y hy g E aF=>?_⟩;simp at hy;subst hy;rcases ho g aF with X|X
  ·exact d3 x I lv (by simp) g E X
  ·have:=h.lt (AX.2 (.inl I)) E;omega
end
def WH(len:Int)(l:gD Pu)(i:Nat)(z:i<l.length)(d:Bool)(h:Pu)(ws:gD (gD Pu)):
 Ew len (l.drop i) d h ws=Ew len (l.drop (i+1)) false (l[i]'z) (EU len ws d h (l[i]'z)):=by
 rw[FK z];rfl
def Hd(d:gD (gD Pu))(h:gD Pu)(p:Pu):gD (gD Pu):=
 if h≠[]/\Cw p (h.getLastD (0,0,0))=0 then d++[h.dropLast++[p]] else d++[h++[p]]
def QS(len:Int)(ws:gD (gD Pu))(d:Bool)(z p:Pu)(h:d=true\/BH p.2.1 len≠BH z.2.1 len):EU len ws d z p=Hd ws [] p:=by
 unfold EU Hd;dsimp only
 rw[Ai h];simp
def WL(len:Int)(d:gD (gD Pu))(l:gD Pu)(z p:Pu)(h:BH p.2.1 len=BH z.2.1 len):EU len (d++[l]) false z p=Hd d l p:=by
 have e:(if (false=true\/BH p.2.1 len≠BH z.2.1 len) then (d++[l])++[[]] else d++[l])=d++[l]:=Af (by simp[h]);have E:(d++[l]).getLastD []=l:=by rw[KL];simp
 have I:(d++[l]).dropLast=d:=by simp
 unfold EU Hd;simp only[e,E,I]
end
section
open Go.RowKit
attribute [local go_sem ↓] CL
def Tryz.fH:(Tryz.prog.info? 97).map (λi=>(i.zero,i.size,i.bytes))=some (some (.slice none 0 0),1,24):=by kernel_rfl
def SC:∃d,Tryz.prog.info? 97=some d/\d.zero=some (.slice none 0 0)/\d.size=1/\d.bytes=24:=by
 have h:=Tryz.fH;cases hx:Tryz.prog.info? 97 with
 | none=>rw[hx]at h;cases h
 | some i=>rw[hx]at h;simp at h;exact⟨i,rfl,h.1,h.2.1,h.2.2⟩
section
variable{N:Nat}
def Uk(hS:Gc N)(hN:N<=134217728)(w:gx)(v:gy)(len:Int)(l:gD Pu)(hl:l.length<=N)(h:B1 w v l)(hT:∀p∈l,Ay p.2.1)(bI:1<=len/\len<=4611686018427387904):
 Ag 109 #[v,A0 len] w λe w'=>∃v' vs,e=.returned v'/\E3 w' w.heap.size v' vs (C3 len l)/\A4 Aa w w':=by
 obtain⟨i0,hi,fK,fC,fE⟩:=SC;obtain⟨j0,hj,fN,fG,e0⟩:=DL IT;have k0:A4 Aa w (w.alloc (.cells #[A0 len] 3)):=(A4.C _ w).aj _;have dT:(w.alloc (.cells #[A0 len] 3)).heap[w.heap.size]?=some (.cells #[A0 len] 3 (0,0)):=Bl w _;have fR:=A1 (A3d _ v l (Au h λg hg=>k0.Al g (Aw h hg) (λh=>h)) (by omega));have fY:=A1 k0;have fL:=A1 dT;have dO:Hid ((w.alloc (.cells #[A0 len] 3)).heap.size=w.heap.size+1):=by unfold Hid;simp
 have cI:Hid (∀wx vx,B1 wx vx l->A8 wx w.heap.size 0 (A0 len)->(∀g,vx.ownBlock=some g->w.heap.size≠g)->_):=λwx vx h1 h2 h3=>hS wx vx w.heap.size len l hl h1 hT bI h2 h3;have cB:Hid (C3 len l=Ew len (Em (AE len) l) true (0,0,0) []):=rfl;have cA:∀p∈Em (AE len) l,Ay p.2.1:=λp hp=>hT p (((Ga len).cB l).bI.DD (Ga len) hp);have cU:(Em (AE len) l).length=l.length:=RA l;obtain⟨R,hR⟩:∃R,C3 len l=R:=⟨_,rfl⟩;rw[hR]at cB ⊢;obtain⟨W,dU⟩:∃W,Em (AE len) l=W:=⟨_,rfl⟩;rw[dU]at cB cA cU cI;have eK:=A1 cA;have b9:=A1 bI;have hsn:W.length<=134217728:=by omega
 have fO:=A1 cU;clear hR dU h hT k0 dT cA hS hl bI cU
 go_enter func109,ntmps109
 go_wp2_with (fail);refine fR.m ?_;rintro e w1⟨v1,rfl,eM,cN,cH⟩;have c1:A8 w1 w.heap.size 0 (A0 len):=cH.ah (by simp only[World.cell?,fL.o];rfl);have dV:=A1 (cI.o w1 v1 eM c1 (λg hg=>by have:=cN g hg;have:=dO.o;omega));have fZ:Hid (A4 Aa w w1):=fY.o.tr cH;have dF:Hid (∀g,v1.ownBlock=some g->w.heap.size<g):=λg hg=>by have:=cN g hg;have:=dO.o;omega
 have fQ:=A1 c1;clear eM cN cH c1 fR cI;go_wp2_with (fail);refine dV.k ?_;rintro w2⟨cC,cV⟩;have e2:W.length=l.length:=fO.o;obtain⟨sa,scap,rfl,s1,s2,s3,-⟩:=B8 cC;unfold maxLen at s2;have c2:A8 w2 w.heap.size 0 (A0 len):=cV.bJ fQ.o (λh=>Gs _ (dF.o _ h));have gB:Hid (A4 Aa w w2):=fZ.o.AH cV λx L bC=>by have:=dF.o x L;omega
 have cD:=A1 cC;have fV:=A1 c2;have fU:Hid (w.heap.size<w2.heap.size):=GO w2 _ c2;have e3:=A1 s3;clear cC cV dV fQ c2 e2 s3;have eD:Hid (∀wx,A4 Aa w2 wx->∀i (hi:i<W.length),∃g,sa=some (A9 g 0)/\A8 wx g (i*3) (A0 (W[i]'hi).1)/\A8 wx g (i*3+1) (A0 (W[i]'hi).2.1)/\A8 wx g (i*3+2) (A0 (W[i]'hi).2.2)):=λwx L i hi=>by
  obtain⟨g,rfl⟩:=e3.o (by omega);obtain⟨q1,q2,q3⟩:=Hv W i hi;exact⟨g,rfl,L.ah (Bv cD.o rfl q1),L.ah (Bv cD.o rfl q2),L.ah (Bv cD.o rfl q3)⟩
 go_wp2;go_loopw [6,18] (λv6 iv wr=>∃(i:Nat) (ws:gD (gD Pu)) (vs:gD gy),iv=A0 i/\i<=W.length/\Hid (E3 wr w2.heap.size v6 vs ws/\A4 Aa w2 wr/\ws.length<=i/\(∀x∈ws,x.length<=i)/\(0<i->∃a0 l0,ws=a0++[l0]/\l0≠[])/\R=Ew len (W.drop i) (decide (i=0)) (if i=0 then (0,0,0) else W.getD (i-1) (0,0,0)) ws)) (λ_ iv _=>W.length-(intOf iv).toNat)
 ·exact⟨0,[],[],rfl,by omega,E3.bU _ _,A4.C _ _,Ao _,λx L=>by simp at L,λh=>absurd h (Gs 0),by simpa using cB.o⟩
 ·obtain⟨i,ws,vs,rfl,hii,hI⟩:=hrel;by_cases aT:i<W.length
  case neg=>
   (obtain rfl:i=W.length:=by omega);obtain⟨i1,i2,i3,i4,i5,i6⟩:=hI.o;rw[GX]at i6;have fP:R=ws:=i6;subst fP;have aP:=A1 i1;have dC:=A1 i2;(have eV:¬((W.length:Int)<(W.length:Int)):=by omega);clear i1 i2 i3 i4 i5 i6 hI;obtain⟨ap,cp,rfl,hcap1,hcap2,-⟩:=B8 aP.o.Bp;go_wp2;go_ret;exact⟨_,rfl,⟨vs,aP.o.Bp,aP.o.ls,λg hg=>Fm (Bn fU.o (aP.o.lo g hg)),λx L g hg=>Fm (Bn fU.o (aP.o.li x L g hg)),aP.o.JG⟩,gB.o.tr dC.o⟩
  case pos=>
   obtain⟨i1,i2,i3,i4,i5,i6⟩:=hI.o;obtain⟨g,rfl,p1,p2,p3⟩:=eD.o wr i2 i aT;rw[WH len W i aT]at i6;have cP:=eK.o _ (BV aT);obtain⟨p,hp⟩:∃p,(W[i]'aT)=p:=⟨_,rfl⟩;rw[hp]at p1 p2 p3 i6 cP;obtain⟨I,E,pc⟩:=p;dsimp only at p1 p2 p3 cP;have cS:Ce (wr.alloc (.cells #[A0 I,A0 E,A0 pc] 113)) wr.heap.size I E pc:=Bl wr _;have kp:A4 Aa wr (wr.alloc (.cells #[A0 I,A0 E,A0 pc] 113)):=(A4.C _ wr).aj _;(have eV:(i:Int)<(W.length:Int):=by omega);have hk0:=BJ i;have aP:=A1 i1;have dC:=A1 i2;have eF:=A1 i3;have dJ:=A1 i4;have fT:=A1 i5;have fM:Hid (w2.heap.size<=wr.heap.size):=i2.Ak;have a4:=A1 cS;have aZ:=A1 kp;(have eS:Hid (∀k:Nat,k<=i->(k+1)*24<=140737488355328):=λk hk=>by omega);have aX:Hid (∀cG,EU len ws (decide (i=0)) (if i=0 then (0,0,0) else W.getD (i-1) (0,0,0)) (I,E,pc)=cG->R=Ew len (W.drop (i+1)) (decide (i+1=0)) (if i+1=0 then (0,0,0) else W.getD (i+1-1) (0,0,0)) cG):=λcG h=>by
    (have eT:W.getD i (0,0,0)=(I,E,pc):=by rw[HL,Dz aT,hp];rfl);rw[Af (Nat.succ_ne_zero i),A4r,eT,i6,h];simp
   obtain⟨a7,a2,e6,bZ,eN,dL,-⟩:=B8 i1.Bp;have dY:=A1 dL;clear dL;unfold maxLen at eN;obtain⟨pk,aY⟩:∃pk,wr.heap.size=pk:=⟨_,rfl⟩;rw[aY]at a4 fM;have aM:=A1 aY;by_cases aJ:i=0
   focus
    subst e6;(have hz:((i:Int)==0)=true:=by simp[aJ]);have aL:Hid (EU len ws (decide (i=0)) (if i=0 then (0,0,0) else W.getD (i-1) (0,0,0)) (I,E,pc)=Hd ws [] (I,E,pc)):=QS len ws _ _ _ (.inl (by simp[aJ]));clear hI i1 i2 i3 i4 i5 i6 cS kp hp aY aJ;go_wp2;rw[aM.o];go_quiet (fail);have aG:=A1 (aP.o.aL (aZ.o.a7 nq));have aA:=A1 (a4.o.al ((A4.C Aa _).a7 nq) (λh=>h));have dB:=A1 (dC.o.tr (aZ.o.a7 nq));generalize ((wr.alloc (.cells #[A0 I,A0 E,A0 pc] 113)).drewN nq)=wY at aG aA dB ⊢
   rotate_left
   focus
    obtain⟨P,cQ⟩:∃P,P=i-1:=⟨_,rfl⟩;(have bD:P<W.length:=by omega);obtain⟨gq,fH,q1,q2,q3⟩:=eD.o wr i2 P bD;cases fH;have bR:=eK.o _ (BV bD);(have bK:W.getD P (0,0,0)=W[P]'bD:=by rw[HL,Dz bD];rfl);obtain⟨q,hq⟩:∃q,(W[P]'bD)=q:=⟨_,rfl⟩;rw[hq]at q2 bR bK;obtain⟨qa,qb,qc⟩:=q;dsimp only at q2 bR;have bG:=A1 (λwx=>NX wx E len cP b9.o);have bE:=A1 (λwx=>NX wx qb len bR b9.o);have aN:Hid (BH E len≠BH qb len->EU len ws (decide (i=0)) (if i=0 then (0,0,0) else W.getD (i-1) (0,0,0)) (I,E,pc)=Hd ws [] (I,E,pc)):=λh=>by
     rw[Af aJ,<-cQ,bK];exact QS len ws _ _ _ (.inr h)
    have aH:Hid (∀a0 l0,ws=a0++[l0]->BH E len=BH qb len->EU len ws (decide (i=0)) (if i=0 then (0,0,0) else W.getD (i-1) (0,0,0)) (I,E,pc)=Hd a0 l0 (I,E,pc)):=λa0 l0 e h=>by
     rw[Af aJ,<-cQ,bK,Cv aJ,e];exact WL len a0 l0 _ _ h
    (have hz:((i:Int)==0)=false:=by simpa using aJ);obtain⟨dD,eH⟩:∃dD,BH E len=dD:=⟨_,rfl⟩;obtain⟨eQ,dS⟩:∃eQ,BH qb len=eQ:=⟨_,rfl⟩;rw[eH]at bG aN aH;rw[dS]at bE aN aH;(have eP0:IntKind.i64.wrap ((i:Int)-1)=(P:Int):=by simp[IntKind.wrap,IntKind.bits,IntKind.signed];omega);(have eP1:wrap64 ((i:Int)-1)=(P:Int):=by unfold wrap64;omega);have hP0:=BJ P;(have hPn:(P:Int)<(W.length:Int):=by omega);have eR:=A1 (aZ.o.ah q2);(have dR:Hid (0<i):=by unfold Hid;omega);have bU:=A1 (aZ.o.ah (i2.ah fV.o));clear hI i1 i2 i3 i4 i5 i6 cS kp hp aY aJ cQ bR bK hq q1 q2 q3 eH dS;by_cases bL:dD=eQ
   rotate_left
   focus
    subst e6;(have eW:(dD !=eQ)=true:=by simpa using bL);have aL:=A1 (aN.o bL);clear bL aN aH;go_wp2;rw[aM.o];generalize wr.alloc (.cells #[A0 I,A0 E,A0 pc] 113)=wA at a4 aZ eR bU ⊢;have aG:=A1 (aP.o.aL aZ.o.aa);have aA:=A1 a4.o.aa;have dB:=A1 (dC.o.tr aZ.o.aa);have z1:=aA.o.c1;have z2:A8 wA.drew g (P*3+1) (A0 qb):=eR.o;have z3:A8 wA.drew w.heap.size 0 (A0 len):=bU.o;refine Br (λw'=>A8 w' pk 1 (A0 E)/\A8 w' g (P*3+1) (A0 qb)/\A8 w' w.heap.size 0 (A0 len)) 18
     (Ba [0,1,2,3,4,5,6,8,9,10,11,12,13,14,15,7,16,17] [7,16]) ⟨z1,z2,z3⟩ ?_
    iterate 15 refine B4 ?_
    refine Bf λK hK=>?_;go_simp;refine(bG.o _).k ?_;rintro w3 rfl;refine hK _ _ ⟨z1,z2,z3⟩ (λhS=>?_);clear hK K hS;refine Bf λK hK=>?_;go_simp;refine(bE.o _).k ?_;rintro w3 rfl;refine hK _ _ ⟨z1,z2,z3⟩ (λhS=>?_);clear hK K hS bG bE;refine B4 ?_;refine Bo ?_;generalize wA.drew=wY at aG aA dB z1 z2 z3 ⊢;clear z1 z2 z3
   rotate_left 2
   focus
    subst bL;(have eW:(dD !=dD)=false:=by simp);obtain⟨ws,d,rfl,aK⟩:=fT.o dR.o;have aL:=A1 (aH.o ws d rfl rfl);(have bO:(ws++[d]).length=ws.length+1:=by simp);have cE:=aP.o.Be;obtain⟨vs,lv,rfl⟩:∃fJ lv,vs=fJ++[lv]:=by
     (have dZ:vs≠[]:=by intro h;subst h;simp at cE);exact⟨vs.dropLast,vs.getLast dZ,(NJ dZ).symm⟩
    (have aS:vs.length=ws.length:=by simpa using cE);have aU:B1 wr lv d:=by
     have h1:=aP.o.ls vs.length (by simp) (by simp;omega);(have e1:(vs++[lv])[vs.length]'(by simp)=lv:=by simp);(have e2:(ws++[d])[vs.length]'(by simp;omega)=d:=by rw[Gd (by omega)];simp[aS]);rw[e1,e2]at h1;exact h1
    obtain⟨la,z,rfl,l1,l2,l3,-⟩:=B8 aU;obtain⟨X,rfl⟩:=l3 (J9.2 aK);unfold maxLen at l2;obtain⟨l0,q0,aV⟩:∃l0 q0,d=l0++[q0]:=⟨d.dropLast,d.getLast aK,(NJ aK).symm⟩;obtain⟨O,bM⟩:∃O,O=l0.length:=⟨_,rfl⟩;(have cX:d.length=O+1:=by rw[aV,bM];simp);rw[bO]at e6 bZ;subst e6;obtain⟨g0,rfl⟩:=dY.o (by rw[bO];omega);obtain⟨c1,c2,c3⟩:=Hv d O (by omega);(have eO:d[O]'(by omega)=q0:=by subst aV;rw[Gd (by omega)];simp[bM]);rw[eO]at c1 c2 c3;have b0:Hid (d.length<=i):=dJ.o d (by simp);(have bH:Hid (ws.length+1<=i+1):=by have:=eF.o;rw[bO]at this;unfold Hid;omega);have fS:Hid (∀wx,A4 Aa wr wx->A8 wx g0 ws.length (AA X (O+1) z)/\A8 wx X (O*3) (A0 q0.1)/\A8 wx X (O*3+1) (A0 q0.2.1)/\A8 wx X (O*3+2) (A0 q0.2.2)):=λwx L=>
     ⟨L.ah (by rw[<-aS,<-cX];exact Bv aP.o.Bp rfl (by rw[I7 (Ao _)];simp)),L.ah (Bv aU rfl c1),L.ah (Bv aU rfl c2),L.ah (Bv aU rfl c3)⟩
    have fI:Hid (X≠pk):=by
     have h1:=Aw aU (g:=X) rfl;have h2:=aM.o;unfold Hid;omega
    have dW:=A1 (λwx=>OC wx (I,E,pc) q0);have bQ:Hid (¬Cw (I,E,pc) q0=0->Hd ws d (I,E,pc)=ws++[d++[(I,E,pc)]]):=λh=>by
     unfold Hd;rw[Af];rintro⟨-,h2⟩;rw[aV]at h2;simp at h2;exact h h2
    have bS:Hid (Cw (I,E,pc) q0=0->Hd ws d (I,E,pc)=ws++[l0++[(I,E,pc)]]):=λh=>by
     unfold Hd;rw[Ai ⟨aK,by rw[aV];simpa using h⟩,aV];simp
    obtain⟨cc,cF⟩:∃cc,Cw (I,E,pc) q0=cc:=⟨_,rfl⟩;rw[cF]at bQ bS;have eY:=A1 aV;have e9:=A1 bM;have e5:=A1 cX;have b8:=A1 aU;(have fD:O+1<=i:=by have:=dJ.o d (by simp);omega);(have hgt:(0:Int)<(O:Int)+1:=by omega);(have em:IntKind.i64.wrap (O:Int)=(O:Int):=by simp[IntKind.wrap,IntKind.bits,IntKind.signed];omega);(have em0:IntKind.i64.wrap ((O:Int)+1-1)=(O:Int):=by rw[JW];exact em);(have em1:wrap64 ((O:Int)+1-1)=(O:Int):=by unfold wrap64;omega);have hm00:=BJ O;(have hm01:(O:Int)<(O:Int)+1:=by omega);(have bP:IntKind.i64.wrap (ws.length:Int)=(ws.length:Int):=by have:=bH.o;simp[IntKind.wrap,IntKind.bits,IntKind.signed];omega);(have dG:IntKind.i64.wrap ((ws.length:Int)+1-1)=(ws.length:Int):=by rw[JW];exact bP);(have dN:wrap64 ((ws.length:Int)+1-1)=(ws.length:Int):=by have:=bH.o;unfold wrap64;omega);have eP:(0:Int)<=(ws.length:Int):=Gu _;(have dP:(ws.length:Int)<(ws.length:Int)+1:=by omega);obtain⟨eJ,dH,dI⟩:=q0;unfold DK at dW;dsimp only at fS dW;rw[cF]at dW;clear aN aH aK cE aS aU l1 l3 aV bM cX c1 c2 c3 eO bO cF bZ dY fT fD;go_wp2;rw[aM.o];generalize wr.alloc (.cells #[A0 I,A0 E,A0 pc] 113)=wA at a4 aZ eR bU ⊢;have aG:=A1 (aP.o.aL aZ.o.aa);have aA:=A1 a4.o.aa;have dB:=A1 (dC.o.tr aZ.o.aa);have z1:=aA.o.c1;have z2:A8 wA.drew g (P*3+1) (A0 qb):=eR.o;have z3:A8 wA.drew w.heap.size 0 (A0 len):=bU.o;refine Br (λw'=>A8 w' pk 1 (A0 E)/\A8 w' g (P*3+1) (A0 qb)/\A8 w' w.heap.size 0 (A0 len)) 18
     (Ba [0,1,2,3,4,5,6,8,9,10,11,12,13,14,15,7,16,17] [7,16]) ⟨z1,z2,z3⟩ ?_
    iterate 15 refine B4 ?_
    refine Bf λK hK=>?_;go_simp;refine(bG.o _).k ?_;rintro w3 rfl;refine hK _ _ ⟨z1,z2,z3⟩ (λhS=>?_);clear hK K hS;refine Bf λK hK=>?_;go_simp;refine(bE.o _).k ?_;rintro w3 rfl;refine hK _ _ ⟨z1,z2,z3⟩ (λhS=>?_);clear hK K hS bG bE;refine B4 ?_;refine Bo ?_;have aO:=A1 (λwx (L:A4 Aa wA wx)=>fS.o wx (aZ.o.tr L));have oc:=(aO.o wA.drew (A4.C _ wA).aa).1;go_wp2;have gA:=(aO.o wA.drew.drew (A4.C _ wA).aa.aa);have f0:=aA.o.aa.c0;have f1:=aA.o.aa.c1;have f2:=aA.o.aa.c2;obtain⟨d0,d1,d2,d3⟩:=gA;refine Br (λw'=>A8 w' g0 ws.length (AA X (O+1) z)/\A8 w' X (O*3) (A0 eJ)/\A8 w' X (O*3+1) (A0 dH)/\A8 w' X (O*3+2) (A0 dI)/\A8 w' pk 0 (A0 I)/\A8 w' pk 1 (A0 E)/\A8 w' pk 2 (A0 pc)) 13
     (Ba [0,1,2,3,4,5,6,7,8,9,10,11,12] [11]) ⟨d0,d1,d2,d3,f0,f1,f2⟩ ?_
    iterate 11 refine B4 ?_
    refine Bf λK hK=>?_;go_simp;refine(dW.o _).k ?_;rintro Y cZ;have k6:A4 Aa wA Y:=((A4.C Aa wA).aa.aa).tr cZ;have bA:=aA.o.al ((A4.C Aa wA.drew).aa.tr cZ) (λh=>h);refine hK _ _ ⟨(aO.o Y k6).1,(aO.o Y k6).2.1,(aO.o Y k6).2.2.1,(aO.o Y k6).2.2.2,bA.c0,bA.c1,bA.c2⟩ (λhS=>?_);have bT:=A1 (aP.o.aL (aZ.o.tr k6));have eA:=A1 (dC.o.tr (aZ.o.tr k6));have aF:=A1 bA;have cL:=A1 k6;have a6:Hid (B1 Y (AA X d.length z) d):=Au b8.o λg hg=>(aZ.o.tr k6).Al g (Aw b8.o hg) (λh=>h)
    clear hK K hS cZ k6 bA f0 f1 f2 d0 d1 d2 d3 oc z1 z2 z3 dW aG aA dB;by_cases a3:cc=0
    ·(have fB:(cc==0)=true:=by simpa using a3);have aB:=A1 (aL.o.trans (bS.o a3));have a9:=A1 (aX.o _ aB.o);clear a3 bS bQ aL aX aB;refine B4 ?_;refine Bo ?_;go_wp2;obtain⟨d0,d1,d2,d3⟩:=aO.o Y.drew cL.o.aa;have f0:=aF.o.aa.c0;have f1:=aF.o.aa.c1;have f2:=aF.o.aa.c2;refine Br (λw'=>A8 w' g0 ws.length (AA X (O+1) z)/\A8 w' X (O*3) (A0 eJ)/\A8 w' X (O*3+1) (A0 dH)/\A8 w' X (O*3+2) (A0 dI)/\A8 w' pk 0 (A0 I)/\A8 w' pk 1 (A0 E)/\A8 w' pk 2 (A0 pc)) 6
      (Ba [0,1,2,3,4,5] []) ⟨d0,d1,d2,d3,f0,f1,f2⟩ ?_
     iterate 6 refine B4 ?_
     refine Bo ?_;have fz:∀o,Y.drew.frozen? (A9 X o)=false:=λo=>EK (a6.o:Y.drew.ownsRow 0 113 3 (AA X d.length z) d.length (B5 d)) rfl o;obtain⟨-,b1,b2,b3⟩:=aO.o Y cL.o;have fy:∀o,Y.frozen? (A9 X o)=false:=λo=>EK a6.o rfl o;(have eI:O<d.length:=by rw[e5.o];exact VP _);have eZ:=B1.bx (w:=Y) (g:=X) (n:=d.length) (cap:=z) (l:=d) a6.o O eI (I,E,pc);have a5:d.set O (I,E,pc)=l0++[(I,E,pc)]:=by
      rw[eY.o,e9.o,J7 _ _ (Ao _)];simp
     (have cJ:(l0++[(I,E,pc)]).length=d.length:=by rw[<-a5,HK]);rw[a5]at eZ;(have kc:A4 (λk=>(AA X d.length z).ownBlock=some k) Y (((Y.sC X (O*3) (A0 I)).sC X (O*3+1) (A0 E)).sC X (O*3+2) (A0 pc)).drew:=(((((A4.C (One X) Y).ao (b:=X) rfl _ _).ao (b:=X) rfl _ _).ao (b:=X) rfl _ _).aa).ai (S':=λk=>(AA X d.length z).ownBlock=some k) λk _ h=>by cases h;rfl);have aE:=A1 (bT.o.fG kc (l':=l0++[(I,E,pc)]) (by unfold B1;rw[cJ];exact Au eZ λ_ _=>rfl));have fW:=A1 (eA.o.AH (S':=λk=>(AA X d.length z).ownBlock=some k) kc λy hy bC=>absurd bC (VM.2 (bT.o.li (AA X d.length z) (by simp) y hy)));(have e7:Hid ((l0++[(I,E,pc)]).length<=i+1):=by rw[cJ];exact JO b0.o);clear eZ a5 cJ kc eI a6 cL f0 f1 f2;go_wp2;go_roundw
     ·exact⟨i+1,ws++[l0++[(I,E,pc)]],vs++[AA X d.length z],by go_num,aT,aE.o,fW.o,(by rw[B3];exact bH.o),(λx L=>(AX.1 L).elim (λL=>JO (dJ.o x (AX.2 (.inl L)))) (λL=>by rw[J8.1 L];exact e7.o)),λ_=>⟨ws,_,rfl,by simp⟩,a9.o⟩
     ·simp[intOf];omega
    (have fB:(cc==0)=false:=by simpa using a3);have aB:=A1 (aL.o.trans (bQ.o a3));clear a3 bS bQ aL;obtain⟨la,aR⟩:∃la:Option Addr,la=some (A9 X 0):=⟨_,rfl⟩;(have cY:Hid (E3 Y w2.heap.size (AA g0 (ws.length+1) a2) (vs++[.slice la d.length z]) (ws++[d])):=by subst aR;exact bT.o);have eG:Hid (∀x∈ws++[d],x.length<=i):=dJ.o;have cO:Hid (d.length<=i):=b0.o;have bV:Hid (¬(Value.slice la d.length z).ownBlock=some pk):=λh=>by
     rw[aR]at h;cases h;exact fI.o rfl
    clear aR a6 bT;refine B4 ?_;refine Bo ?_
   rotate_left
   iterate 2
    focus
     have bB:Hid ((wY.alloc (.cells #[.slice none 0 0] 97)).ownsRow 0 97 1 (.slice a7 ws.length a2) ws.length vs):=Au aG.o.Bp λg hg=>((A4.C Aa wY).aj _).Al g (Aw aG.o.Bp hg) (λh=>h)
     have bW:=A1 (Src.bc (size:=1) (B:=wY.heap.size) underlying174 wY #[.slice none 0 0] 97 (by simp) 1 1 rfl (by simp[Value.oneCell']));have cM:=A1 (dB.o.aj (.cells #[.slice none 0 0] 97));have b4:=A1 (aG.o.aL ((A4.C Aa wY).aj (.cells #[.slice none 0 0] 97)));have bX:=A1 (aA.o.al ((A4.C Aa wY).aj (.cells #[.slice none 0 0] 97)) (λh=>h));(have bY:Hid ((ws.length+1)*24<=140737488355328):=by have h1:=eF.o;unfold Hid;omega);have dM:Hid (∀g,(Value.slice a7 ws.length a2).ownBlock=some g->pk≠g):=λg hg e=>by
      subst e;have:=Aw aP.o.Bp hg;have h2:=aM.o;omega
     (have bP:IntKind.i64.wrap (ws.length:Int)=(ws.length:Int):=by have:=eF.o;simp[IntKind.wrap,IntKind.bits,IntKind.signed];omega);(have dG:IntKind.i64.wrap ((ws.length:Int)+1-1)=(ws.length:Int):=by rw[JW];exact bP);(have dN:wrap64 ((ws.length:Int)+1-1)=(ws.length:Int):=by have:=eF.o;unfold wrap64;omega);have eP:(0:Int)<=(ws.length:Int):=Gu _;(have dP:(ws.length:Int)<(ws.length:Int)+1:=by omega);go_wp2_with (at_builtin;refine CU rfl (.tmp 42) (.tmp 43) 174 174 rfl 97 i0 _ 1 24 underlying174 hi fK fC fE rfl (by decide) (.slice a7 ws.length a2) ws.length vs (by rfl) bB.o _ 1 _ (by rfl) bW.o bY.o ?_;intro a8 aD w8 hA;have dQ:=A1 hA;clear hA;obtain⟨a8',c8',e8,r1,r2,r3,-⟩:=B8 dQ.o.AB;cases e8;obtain⟨g0,rfl⟩:=r3 (Nat.succ_pos _);clear r3;have e4:A8 w8 g0 ws.length (.slice none 0 0):=Bv dQ.o.AB rfl (by rw[<-aG.o.Be,I7 (Ao _)];simp));go_quiet (fail);have cT:=dQ.o.Am (S:=λk=>(Value.slice a7 ws.length a2).ownBlock=some k) λ_ h=>h;have dA:=A1 ((b4.o.cu dQ.o cM.o.Ak).aL ((A4.C Aa w8).a7 nq));have aF:=A1 ((bX.o.al cT (λh=>dM.o _ h rfl)).al ((A4.C Aa w8).a7 nq) (λh=>h));have eA:=A1 ((cM.o.AH (S':=λk=>(Value.slice a7 ws.length a2).ownBlock=some k) cT λy hy bC=>absurd bC (VM.2 (aP.o.lo y hy))).tr ((A4.C Aa w8).a7 nq));generalize w8.drewN nq=Y at dA aF eA ⊢;obtain⟨d,aI⟩:∃d:gD Pu,d=[]:=⟨_,rfl⟩;obtain⟨la,aR⟩:∃la:Option Addr,la=none:=⟨_,rfl⟩;obtain⟨z,bJ⟩:∃z:Nat,z=0:=⟨_,rfl⟩;(have cY:Hid (E3 Y w2.heap.size (AA g0 (ws.length+1) aD) (vs++[.slice la d.length z]) (ws++[d])):=by subst aI aR bJ;exact dA.o);(have aB:Hid (EU len ws (decide (i=0)) (if i=0 then (0,0,0) else W.getD (i-1) (0,0,0)) (I,E,pc)=ws++[d++[(I,E,pc)]]):=by unfold Hid;rw[aL.o];subst aI;simp[Hd]);have eG:Hid (∀x∈ws++[d],x.length<=i):=λx L=>by
      rcases AX.1 L with L|L
      ·exact dJ.o x L
      ·rw[J8.1 L,aI];exact Ch _
     have bH:Hid (ws.length+1<=i+1):=Qe eF.o;(have cO:Hid (d.length<=i):=by rw[aI];exact Ch _);(have bV:Hid (¬(Value.slice la d.length z).ownBlock=some pk):=by rw[aR];simp[Hid,Value.ownBlock]);clear aI aR bJ e4 cT dA dQ b4 cM bX bB bW bY dM aL bP dG dN eP dP
    rotate_left
   all_goals
    have eC:Hid (A8 Y g0 ws.length (.slice la d.length z)):=by
     (have aS:vs.length=ws.length:=by have:=cY.o.Be;simpa using this);rw[<-aS];exact Bv cY.o.Bp rfl (by rw[I7 (Ao _)];simp)
    have oc:=eC.o;have eU:Hid (B1 Y (.slice la d.length z) d):=by
     (have aS:vs.length=ws.length:=by have:=cY.o.Be;simpa using this);have h1:=cY.o.ls vs.length (by simp) (by simp;omega);(have e1:(vs++[Value.slice la d.length z])[vs.length]'(by simp)=.slice la d.length z:=by simp);(have e2:(ws++[d])[vs.length]'(by simp;omega)=d:=by rw[Gd (by omega)];simp[aS]);rw[e1,e2]at h1;exact h1
    obtain⟨la',lcap',fA,la1,eX,-⟩:=B8 eU.o;cases fA;unfold maxLen at eX;have f0:=aF.o.aa.c0;have f1:=aF.o.aa.c1;have f2:=aF.o.aa.c2;have dK:A8 Y.drew g0 ws.length (.slice la d.length z):=oc;go_wp2;refine Br (λw'=>A8 w' g0 ws.length (.slice la d.length z)/\A8 w' pk 0 (A0 I)/\A8 w' pk 1 (A0 E)/\A8 w' pk 2 (A0 pc)) 7
     (Ba [0,1,2,3,4,5,6] [5,6]) ⟨dK,f0,f1,f2⟩ ?_
    iterate 5 refine B4 ?_
    refine Bf λK hK=>?_;go_simp;have ka:A4 Aa Y (Y.alloc (.cells #[A0 I,A0 E,A0 pc] 113)).drew:=((A4.C _ _).aj _).aa;have bF:=aF.o.al ka (λh=>h);have eL:Hid (B1 (Y.alloc (.cells #[A0 I,A0 E,A0 pc] 113)).drew (.slice la d.length z) d):=Au eU.o λg hg=>ka.Al g (Aw eU.o hg) (λh=>h);have aW:=A1 (cY.o.aL ka);have b7:Hid (Src Tryz.prog 3 97 (AA Y.heap.size 1 1) 1 #[A0 I,A0 E,A0 pc].toList (Y.alloc (.cells #[A0 I,A0 E,A0 pc] 113)).drew):=by
     have hb:(Y.alloc (.cells #[A0 I,A0 E,A0 pc] 113)).drew.heap[Y.heap.size]?=some (.cells #[A0 I,A0 E,A0 pc] 113 (0,0)):=Bl Y _;exact Src.cc GP hb 1 1 rfl (Hu [(I,E,pc)])
    refine hK _ _ ⟨ka.ah oc,bF.c0,bF.c1,bF.c2⟩ (λhS=>?_);have eE:=A1 bF;have fF:=A1 ka;clear hK K hS bF ka oc f0 f1 f2 dK;refine Dv rfl (by rfl) (λK hK=>?_);refine HP (.tmp 78) (.tmp 80) 97 97 rfl 113 j0 _ 3 24 GP hj fN fG e0 rfl (by decide) (.slice la d.length z) d.length (B5 d) (by rfl) eL.o _ 1 _ (by rfl) b7.o (eS.o _ cO.o) ?_;intro a8 aD w8 hA;have a1:=hA.Am (S:=λk=>(Value.slice la d.length z).ownBlock=some k) λ_ h=>h;have b6:B1 w8 (.slice a8 (d.length+1) aD) (d++[(I,E,pc)]):=by
     (have e:(d++[(I,E,pc)]).length=d.length+1:=by simp);unfold B1;rw[Ig,e];exact hA.AB
    have dE:∀g,(Value.slice a8 (d.length+1) aD).ownBlock=some g->(Value.slice la d.length z).ownBlock=some g\/(Y.alloc (.cells #[A0 I,A0 E,A0 pc] 113)).drew.heap.size<=g:=λg hg=>by
     rcases hA.BY with h|h
     ·rw[h]at hg;exact .inl hg
     ·rw[h]at hg;cases hg;exact .inr (Ao _)
    have dX:w2.heap.size<=(Y.alloc (.cells #[A0 I,A0 E,A0 pc] 113)).drew.heap.size:=AP eA.o.Ak fF.o.Ak;(have b5:vs.length=ws.length:=by have:=cY.o.Be;simpa using this);have aE:=aW.o.fr a1 b6 dE dX;rw[b5]at aE;have aE:=A1 aE;(have aQ:Value.slice la d.length z∈vs++[Value.slice la d.length z]:=by simp);have bN:=eE.o.al a1 bV.o;have eB:A8 w8 g0 ws.length (.slice la d.length z):=a1.bJ (fF.o.ah eC.o) (λh=>aW.o.ne aQ h rfl);have hofz8:w8.frozen? (A9 g0 ws.length)=false:=by
     have hb:=a1.Al g0 (Aw aW.o.Bp rfl) (λh=>aW.o.ne aQ h rfl);have:=EK aW.o.Bp (g:=g0) rfl ws.length;unfold World.frozen? at this ⊢;rw[hb];exact this
    refine hK _ _ ⟨eB,bN.c0,bN.c1,bN.c2⟩ (λhS=>?_);have fX:Hid (A4 Aa w2 (w8.sC g0 ws.length (.slice a8 (d.length+1) aD))):=((eA.o.tr fF.o).AH (S':=λk=>(Value.slice la d.length z).ownBlock=some k) a1 λy hy bC=>by have:=aW.o.li _ aQ _ hy;omega).bh (p:=(A9 g0 ws.length)) (λh=>by have:=aW.o.lo g0 rfl;have h':g0<w2.heap.size:=h;omega) _;have a9:=A1 (aX.o _ aB.o);clear hK K hS hA a1 b6 dE dX bN b7 eL b5 aX aB;refine Bo ?_;go_wp2;go_roundw
    ·exact⟨i+1,ws++[d++[(I,E,pc)]],vs++[.slice a8 (d.length+1) aD],by go_num,aT,aE.o,fX.o,(by rw[B3];exact bH.o),(λx L=>(AX.1 L).elim (λL=>JO (eG.o x (AX.2 (.inl L)))) (λL=>by rw[J8.1 L,B3];exact Qe cO.o)),λ_=>⟨ws,_,rfl,by simp⟩,a9.o⟩
    ·simp[intOf];omega
end
def WK(len:Int)(ws:gD (gD Pu))(I:Bool)(L p:Pu):
 (EU len ws I L p).length<=ws.length+1/\Dm (EU len ws I L p)<=Dm ws+1/\∀x∈EU len ws I L p,∀y∈x,y=p\/∃z∈ws,y∈z:=by
 obtain⟨d,Y,h1,h2,h3⟩:∃d,(if I=true\/BH p.2.1 len≠BH L.2.1 len then ws++[[]] else ws)=d/\(d.length<=ws.length+1)/\Dm d=Dm ws/\(∀x∈d,∀y∈x,∃z∈ws,y∈z)/\True:=by
  refine⟨_,rfl,?_⟩;split
  ·refine⟨by simp,by simp[Dm],λx E y h=>?_,trivial⟩;rcases AX.1 E with E|E
   ·exact⟨x,E,h⟩
   ·simp at E;subst E;simp at h
  ·exact⟨by omega,rfl,λx E y h=>⟨x,E,h⟩,trivial⟩
 have hl1:d=[]\/d.length<=ws.length+1:=.inr h1;have W:d.dropLast.length+1<=ws.length+1:=by
  rw[VZ];have:d.length<=ws.length+1:=h1;omega
 have key:∀t:gD Pu,t.length<=(d.getLastD []).length+1->Dm (d.dropLast++[t])<=Dm ws+1:=λt ht=>by
  rw[Mp,<-h2];rcases M7 d with rfl|⟨a,b,O⟩
  ·simp[Dm]at ht ⊢;omega
  ·rw[Wb]at O;subst O;(have e1:(a++[b]).getLastD []=b:=by rw[KL];simp);rw[e1]at ht;rw[List.dropLast_concat,Mp];simp[Dm];omega
 have X:∀y∈d.getLastD [],∃z∈ws,y∈z:=λy h=>by
  rcases M7 d with rfl|⟨a,b,O⟩
  ·simp at h
  ·rw[Wb]at O;subst O;(have e1:(a++[b]).getLastD []=b:=by rw[KL];simp);rw[e1]at h;exact h3.1 b (by simp) y h
 unfold EU;dsimp only
 rw[Y];split
 ·refine⟨by simpa using W,key _ (by simp),λx E y h=>?_⟩;rcases AX.1 E with E|E
  ·exact .inr (h3.1 x (Wa _ E) y h)
  ·rw[J8]at E;subst E;rcases AX.1 h with h|h
   ·exact .inr (X y (Wa _ h))
   ·exact .inl (J8.1 h)
 ·refine⟨by simpa using W,key _ (by simp),λx E y h=>?_⟩;rcases AX.1 E with E|E
  ·exact .inr (h3.1 x (Wa _ E) y h)
  ·rw[J8]at E;subst E;rcases AX.1 h with h|h
   ·exact .inr (X y h)
   ·exact .inl (J8.1 h)
def QQ(len:Int):∀(l:gD Pu) (d:Bool) (E:Pu) (ws:gD (gD Pu)),
 (Ew len l d E ws).length<=ws.length+l.length/\Dm (Ew len l d E ws)<=Dm ws+l.length/\∀x∈Ew len l d E ws,∀y∈x,y∈l\/∃z∈ws,y∈z
 | [],_,_,ws=>⟨Ao _,Ao _,λx L y I=>.inr ⟨x,L,I⟩⟩
 | p::r,d,E,ws=>by
  have⟨s1,s2,s3⟩:=WK len ws d E p;have⟨h1,h2,h3⟩:=QQ len r false p (EU len ws d E p);unfold Ew;refine⟨by simp;omega,by simp;omega,λx L y I=>?_⟩;rcases h3 x L y I with h|⟨z,O,h⟩
  ·exact .inl (BC _ h)
  ·rcases s3 z O y h with rfl|h
   ·exact .inl BI
   ·exact .inr h
def XA{l:gD (gD Pu)}{x:gD Pu}(h:x∈l):x.length<=Dm l:=by
 induction l with
 | nil=>cases h
 | cons a r ih=>
  rw[Oa];rcases BS.1 h with rfl|h
  ·omega
  ·have:=ih h;omega
def Pm(len:Int)(l:gD Pu):(C3 len l).length<=l.length/\Dm (C3 len l)<=l.length/\∀x∈C3 len l,(∀p∈x,p∈l)/\x.length<=l.length:=by
 have⟨d,E,h3⟩:=QQ len (Em (AE len) l) true (0,0,0) [];rw[RA]at d E;have e:Ew len (Em (AE len) l) true (0,0,0) []=C3 len l:=rfl;rw[e]at d E h3;have d:(C3 len l).length<=l.length:=by simpa using d
 have E:Dm (C3 len l)<=l.length:=by
  have e0:Dm []=0:=rfl;omega
 refine⟨d,E,λx I=>⟨λp L=>?_,?_⟩⟩
 ·rcases h3 x I p L with h|⟨z,O,-⟩
  ·exact((Ga len).cB l).bI.DD (Ga len) h
  ·cases O
 ·have:=XA I;omega
section
variable{N ab b a c m B:Nat}{A:Ar}{P:PD}{FT:Nat->Prop}
def A3N(hS:Gc N)(hN:N<=134217728)(w:gx)(h:AD w ab b A P FT)(a2:∀k,FT k->k<w.heap.size)(wa:Int)(hw:1<=wa/\wa<=4611686018427387904)(aE:(P.pd A.j.An).1.length<=N)(aB:∀p∈(P.pd A.j.An).1,Bm p)(aZ:0<=A.Ac/\A.Ac+N<=9223372036854775807)(aQ:Ay (A.j.Ac+1))(aP:∀x∈A.ix.sd,Ay x)(hF:Fit P a c m)(W:CT (a+N+2) (c+2*a+2*N+4) (m+29*N+12+8*A.ix.sd.length))(hm:A.j.An.length*m<=70368744177664)(hkl:A.ix.sd.length+N<=134217728)(hn:∀n∈A.ix.sd,CK n)(aO:∀n∈A.j.An,CK n)(a0:A.j.An.length<=1073741824)(hL:Lets B w)(aR:∀k,FT k->B<=k):
 Ag 68 #[A5 ab,A0 wa] w (Aj (A0 (A.aS P wa).1) λw'=>Ap w FT w' (λw' E=>AD w' ab b (A.aS P wa).2.1 (A.aS P wa).2.2 E)):=by
 have⟨xb,jb,sv,ov,lv,jo,Ft,hv,hsub⟩:=id h;have c2:=hv.Ae.c2;have aW:=A1 (Oz w hv.dk hv.lt hv.jn hF ⟨by have:=W.a;omega,by have:=W.c;omega,by have:=W.m;omega⟩ hm aO hL);have aJ:Hid (A.aS P wa=if (P.pd A.j.An).2≠0 then ((P.pd A.j.An).2,A,P) else A.aH P A.ix.sd (C3 wa (P.pd A.j.An).1)):=rfl;have aD:=A1 (Pm wa (P.pd A.j.An).1);generalize hR:A.aS P wa=R at aJ ⊢;generalize hPS:P.pd A.j.An=PS at aW aJ aD aE aB;obtain⟨ps,pe⟩:=PS;dsimp only at aW aJ aD aE aB;have H:=A1 h;have bB:=A1 hv;have L:=A1 a2;have aH:=A1 aB
 have a3:Hid (∀d kv fv,A4 Aa w d->DT d kv A.ix.sd->(∀g,kv.oB g->w.heap.size<=g)->Q7 d fv (C3 wa ps) FT->pe=0->
  Ag 107 #[A5 ab,kv,fv] d (Aj (A0 R.1) λw'=>Ap w FT w' (λw' E=>AD w' ab b R.2.1 R.2.2 E))):=λd kv fv X O aF hf he=>by
  have⟨z1,z2,z3⟩:=aD.o;have aA:R=A.aH P A.ix.sd (C3 wa ps):=by rw[aJ.o,Af (by simp[he])]
  rw[aA]
  refine(S4 d (H.o.ak X) (λk O=>Bn (L.o k O) X.Ak) kv A.ix.sd O (λg z=>⟨λY=>by have:=aF g z;have:=L.o g Y;omega,AP hL.1 (aF g z)⟩) fv (C3 wa ps) hf
   (λl W=>⟨λp hp=>aH.o p ((z3 l W).1 p hp),by have:=(z3 l W).2;omega⟩) ⟨aZ.1,by omega⟩ aQ aP hF ⟨by have:=W.a;omega,by have:=W.c;omega,by have:=W.m;omega⟩ (by omega) hn aO hn (by omega) a0 (hL.aL X) aR).mono ?_
  rintro e w'⟨h1,h2⟩;exact⟨h1,Ap.ba (X.aT) (λk O=>O.elim .inl λh=>.inr (aF k h)) h2⟩
 have aM:Hid (∀d,A4 Aa w d->pe≠0->R.1=pe/\Ap w FT d (λw' E=>AD w' ab b R.2.1 R.2.2 E)):=λd X he=>by
  have aA:R=(pe,A,P):=by rw[aJ.o,Ai he]
  subst aA;exact⟨rfl,X.aT,FT,H.o.ak X,λk O=>Bn (L.o k O) X.Ak,λk O=>.inl O⟩
 have aS:Hid (∀d v,B1 d v ps->_):=λd v Y=>Uk hS hN d v wa ps aE Y (λp hp=>(aH.o p hp).2.1) hw;have a1:Hid (A.ix.sd.length*8<=140737488355328):=by unfold Hid;omega
 go_enter func68,ntmps68
 go_wp2_with (fail);refine aW.m ?_;rintro e w1⟨v1,rfl,aT,ho1,aG⟩;by_cases hp:pe=0
 case neg=>
  have a5:=A1 (aM.o w1 aG hp);have hpb:(pe !=0)=true:=by simpa using hp
  go_wp2;go_ret;exact⟨by rw[a5.o.1];rfl,a5.o.2⟩
 case pos=>
  subst hp;have V1:=bB.o.ak aG;have d1:=V1.Ae.c1;have d4:=V1.ix.c4;have a8:=A1 (A3e w1 sv A.ix.sd V1.sd a1.o);have a4:=A1 aG;have aN:=A1 aT;go_wp2_with (fail);refine a8.m ?_;rintro e w2⟨v2,rfl,aY,aV,aI⟩;have aL:=A1 aY;have aU:=A1 aV;have aX:Hid (A4 Aa w w2):=a4.o.tr aI;have bA:=A1 (aS.o w2 v1 (Au aN.o λg z=>aI.Al g (Aw aN.o z) (λh=>h)));go_wp2_with (fail);refine bA.m ?_;rintro e w3⟨v3,vs,rfl,I,aK⟩;have a6:A4 Aa w w3:=aX.o.tr aK
  have a7:=A1 (a3.o w3 v2 v3 a6 (Au aL.o λg z=>aK.Al g (Aw aL.o z) (λh=>h)) (λg z=>AP a4.o.Ak (aU.o g z))
   ⟨vs,I.Be,I.Bp,I.ls,λg z Y=>by have:=I.lo g z;have:=L.o g Y;have:=aX.o.Ak;omega,λx Y g z hf=>by have:=I.li x Y g z;have:=L.o g hf;have:=aX.o.Ak;omega⟩ (by simp))
  go_wp2_with (fail);refine a7.k ?_;rintro w4 hI;have a9:=A1 hI;go_wp2;go_ret;exact⟨rfl,a9.o⟩
end
def U5{n:Int}(h:isNum n=true):1<=n/\n<=4611686018427387904:=by
 unfold isNum at h;simpa using h
def MV{P:PD}{ix:Ix}(h:P.bb=some ix):(1<=ix.Bd/\ix.Bd<=4611686018427387904)/\∀n∈ix.sd,1<=n/\n<=4611686018427387904:=by
 unfold PD.bb indexOf at h;split at h
 ·cases h;exact⟨⟨by decide,by decide⟩,λn z=>by cases z⟩
 ·split at h
  ·cases h
  ·rename_i E;split at h
   ·cases h
   ·rename_i d;split at h
    ·cases h;(have d:(EM (P.aZ AJ).1).all isNum=true:=by simpa using d);rw[NK]at d;generalize hi:EM (P.aZ AJ).1=l at *;cases l with
     | nil=>simp at E
     | cons x r=>exact⟨U5 (d x BI),λn z=>U5 (d n (BC _ z))⟩
    ·cases h
def RI:∀(k:Nat) (l:Bs) (r:gD Pu×Bs),EV k l=some r->r.1.length<=l.length
 | 0,l,r,h=>by cases h;exact Ch _
 | k+1,l,r,h=>by
  unfold EV at h;split at h
  ·cases h;exact Ch _
  ·rename_i hl;split at h
   ·cases hx:EV k (l.drop 17) with
    | none=>rw[hx]at h;cases h
    | some q=>
     rw[hx]at h;cases h;have:=RI k (l.drop 17) q hx;simp only[CA];rw[Cz]at this;omega
   ·cases h
def Yg{P:PD}{a c m:Nat}(d:Fit P a c m){n:Int}{l:gD Pu}(h:P.CD n=some l):l.length<=m:=by
 unfold PD.CD Ji at h;split at h
 ·cases h
 ·cases hx:EV (P.aZ (AG n)).1.length (P.aZ (AG n)).1 with
  | none=>rw[hx]at h;cases h
  | some q=>
   rw[hx]at h;dsimp only at h;split at h
   ·cases h;exact AP (RI _ _ q hx) (Sm d _)
   ·cases h
def Og{P:PD}{a c m:Nat}(I:Fit P a c m):∀(E:gD Int) (l:gD (Int×gD Pu)),P.sd E=some l->l.length=E.length/\∀x∈l,x.2.length<=m
 | [],l,h=>by cases h;exact⟨rfl,λx z=>by cases z⟩
 | n::r,l,h=>by
  unfold PD.sd at h;cases z:P.CD n with
  | none=>rw[z]at h;cases h
  | some q=>
   rw[z]at h;dsimp only at h;cases hy:P.sd r with
   | none=>rw[hy]at h;cases h
   | some y=>
    rw[hy]at h;cases h;have⟨h1,h2⟩:=Og I r y hy;refine⟨by simp[h1],λx d=>?_⟩;rcases BS.1 d with rfl|d
    ·exact Yg I z
    ·exact h2 x d
def Gg(l:gD Bs):gD Int:=l.filterMap λnm=>if (Bq nm).1=2 then some (Bq nm).2 else none
def Yk(a b:gD Bs):Gg (a++b)=Gg a++Gg b:=by simp[Gg]
def Ee(w:gx)(ab b xb:Nat)(lh:Int):Prop:=w.heap[ab]?=some (.cells #[.pointer (some ⟨b,0,none⟩),.pointer (some ⟨xb,0,none⟩),.pointer none,.int .i64 lh,.slice none 0 0] 150 (0,0))
section
variable{w w':gx}{ab b xb:Nat}{lh:Int}
def Ee.c0(h:Ee w ab b xb lh):A8 w ab 0 (A5 b):=by unfold Ee at h;simp[A8,World.cell?,h]
def Ee.c1(h:Ee w ab b xb lh):A8 w ab 1 (A5 xb):=by unfold Ee at h;simp[A8,World.cell?,h]
def Ee.c2(h:Ee w ab b xb lh):A8 w ab 2 (.pointer none):=by unfold Ee at h;simp[A8,World.cell?,h]
def Ee.c3(h:Ee w ab b xb lh):A8 w ab 3 (A0 lh):=by unfold Ee at h;simp[A8,World.cell?,h]
def Ee.fz(h:Ee w ab b xb lh)(o:Nat):w.frozen? (A9 ab o)=false:=by unfold Ee at h;simp[World.frozen?,h]
def Ee.s3(h:Ee w ab b xb lh)(x:Int):Ee (w.setCell (A9 ab 3) (A0 x)) ab b xb x:=BQ h
def Ee.s2(h:Ee w ab b xb lh)(d:Nat):De (w.setCell (A9 ab 2) (A5 d)) ab b xb d lh (.slice none 0 0):=BQ h
def Ee.fF(h:Ee w ab b xb lh):ab<w.heap.size:=By h
def Ee.al{S:Nat->Prop}(h:Ee w ab b xb lh)(d:A4 S w w')(z:¬S ab):Ee w' ab b xb lh:=d.al h z
end
def GR.fS{S:Nat->Prop}{w w':gx}{I b:Nat}{v:gy}{l:gD (Int×gD Pu)}(h:GR w I b v l)(O:A4 S w w')(L:∀k,S k->k<I):GR w' I b v l:=by
 obtain⟨E,h1,W,X,Y⟩:=h;refine⟨E,h1,Au W λg d=>O.Al g (Aw W d) λz=>by have:=L g z;have:=X g d;omega,X,λk q1 q2=>?_⟩;have⟨pv,s1,s2,s3,s4⟩:=Y k q1 q2;exact⟨pv,s1.al O (λz=>by have:=L _ z;omega),Au s2 λg d=>O.Al g (Aw s2 d) λz=>by have:=L g z;have:=s4 g d;omega,s3,s4⟩
section
variable{b a c m B:Nat}{P:PD}{Ft:Nat->Prop}
def ZU(h:P.bb=none):Ar.aU P=.error 7:=by unfold Ar.aU;rw[h]
def ZY{ix:Ix}(h:P.bb=some ix)(d:P.Az.any (λnm=>decide ((Bq nm).1=0))=true):Ar.aU P=.error 7:=by
 unfold Ar.aU;rw[h];dsimp only;rw[Ai d]
def ZR{ix:Ix}(h:P.bb=some ix)(d:P.Az.any (λnm=>decide ((Bq nm).1=0))=false)(z:P.sd ix.sd=none):Ar.aU P=.error 7:=by
 unfold Ar.aU;rw[h];dsimp only;rw[Af (by simp[d]),z]
def ZS{ix:Ix}{l:gD (Int×gD Pu)}(h:P.bb=some ix)(z:P.Az.any (λnm=>decide ((Bq nm).1=0))=false)(E:P.sd ix.sd=some l)(d:(P.pd (BU ix.Bd P.Az)).2≠0):Ar.aU P=.error (P.pd (BU ix.Bd P.Az)).2:=by
 unfold Ar.aU;rw[h];dsimp only;rw[Af (by simp[z]),E];dsimp only;rw[Ai d]
def Ar.AV(P:PD)(ix:Ix):Ar:=⟨ix,P.bX ix.Bd,(Gg P.Az).getLastD 0,[]⟩
def ZT{ix:Ix}{l:gD (Int×gD Pu)}(h:P.bb=some ix)(z:P.Az.any (λnm=>decide ((Bq nm).1=0))=false)(E:P.sd ix.sd=some l)(d:(P.pd (BU ix.Bd P.Az)).2=0):
 Ar.aU P=.ok ({Ar.AV P ix with AR:=(Ar.AV P ix).aY P},l.flatMap (·.2)++(P.pd (BU ix.Bd P.Az)).1):=by
 unfold Ar.aU;rw[h];dsimp only;rw[Af (by simp[z]),E];dsimp only;rw[Af (by simp[d])];rfl
def Vk(w:gx)(h:Bu w b P Ft)(aA:∀k,Ft k->k<w.heap.size)(hF:Fit P a c m)(hl:CT a c m)(dO:a*m<=70368744177664)(hL:Lets B w)(hE:Iy w)(cP:∀nm∈P.Az,nm.length<=281474976710656)(aN:∀ix,P.bb=some ix->ix.sd.length<=1073741824/\ix.sd.length*m<=4398046511104)(bT:∀bJ,(P.pd (BU bJ P.Az)).1.length<=1099511627776):
 Ag 59 #[A5 b] w λe w'=>
  (∃n,Ar.aU P=.error n/\e=.returned (.tuple #[.pointer none,.slice none 0 0,A0 n])/\A4 Aa w w')\/
  (∃A ps ab v FT,Ar.aU P=.ok (A,ps)/\e=.returned (.tuple #[A5 ab,v,A0 0])/\B1 w' v ps/\AD w' ab b A P FT/\(∀k,FT k->Ft k\/w.heap.size<=k)/\(∀k,FT k->k<w'.heap.size)/\(∀g,v.ownBlock=some g->¬FT g/\w.heap.size<=g)/\A4 Aa w w'):=by
 have⟨i0,hi,hz0,hz1,hz2⟩:=DL IT;have eT:=A1 (Zc w h aA hF hl hL);have LI:Hid (∀d,A4 Aa w d->Ag 76 #[A5 b] d λe w'=>∃v,e=.returned v/\Dy w' v P.Az/\A4 Aa d w'/\(∀g,v.ownBlock=some g->d.heap.size<=g)):=λd hc=>P6 (AW.aw h aA hc) hF hl;have eV:Hid (∀d,A4 Aa w d->∀nm∈P.Az,Ag 97 #[.string ⟨nm.toArray⟩] d (Aj (.tuple #[A0 (Bq nm).1,A0 (Bq nm).2]) λw'=>A4 Aa d w')):=λd hc nm hm=>Ts d nm (cP nm hm) (hE.aL hc) (hL.aL hc);have bO:P.Az.length<=a:=by rw[Lj];exact hF.A6
 have bU:=AP bO hl.a;have eW:Hid (∀ix,P.bb=some ix->∀d ab xb sv,A4 Aa w d->A8 d ab 0 (A5 b)->A8 d ab 1 (A5 xb)->A8 d xb 4 sv->Dg d sv ix.sd->_):=
  λix Y d ab xb sv hc h0 h1 h4 hs=>RF (ab:=ab) (xb:=xb) (sv:=sv) d ix.sd h0 h1 h4 hs (AW.aw h aA hc) (λk z=>Bn (aA k z) hc.Ak) hF hl (λn hn=>by have:=(MV Y).2 n hn;exact HR (by omega) this.2) (aN ix Y).1 (hL.aL hc)
 have eX:Hid (∀ix,P.bb=some ix->∀d,A4 Aa w d->_):=λix Y d hc=>A07 d (AW.aw h aA hc) (λk z=>Bn (aA k z) hc.Ak) hF hl dO (MV Y).1 (hL.aL hc) (hE.aL hc) cP;have e0:Hid (∀ix,P.bb=some ix->∀d ab xb jb sv lv,A4 Aa w d->Ct d ab b xb jb sv (.slice none 0 0) lv (.pointer none) (Ar.AV P ix) P Ft->_):=λix Y d ab xb jb sv lv hc hv=>
  SQ d hv hF hl (λn hn=>by have:=(MV Y).2 n hn;exact HR (by omega) this.2) (λn hn=>by have⟨_,h2,_⟩:=OZ hn;exact HR (by omega) h2.2) (aN ix Y).1 (AP (MP _ _) bU) (hL.aL hc)
 have eZ:Hid (∀ix,P.bb=some ix->∀l,P.sd ix.sd=some l->∀d dG v,GR d dG b v l->(Ag 101 #[v] d λe w'=>∃v',e=.returned v'/\B1 w' v' (l.flatMap (·.2))/\(∀g,v'.ownBlock=some g->d.heap.size<=g)/\A4 Aa d w')/\(l.flatMap (·.2)).length<=4398046511104):=λix Y l hs d dG v hv=>by
  have⟨s1,s2⟩:=Og hF ix.sd l hs;refine⟨SM d dG v l hv (by rw[s1];exact(aN ix Y).1) s2 (by rw[s1];exact(aN ix Y).2),AP ?_ (aN ix Y).2⟩;rw[<-s1];clear hs s1 hv
  induction l with
  | nil=>exact Ch _
  | cons x r ih=>
   have:=ih (λy hy=>s2 y (BC _ hy));have:=s2 x BI;rw[M6,B3,CA,Nw];omega
 have eL:=A1 (ZU (P:=P));have eJ:=A1 (λix=>ZY (P:=P) (ix:=ix));have eP:=A1 (λix=>ZR (P:=P) (ix:=ix));have eO:=A1 (λix l=>ZS (P:=P) (ix:=ix) (l:=l));have eM:=A1 (λix l=>ZT (P:=P) (ix:=ix) (l:=l));have dX:=A1 bT;have eN:Hid (∀d,A4 Aa w d->Bu d b P Ft):=λd hc=>AW.aw h aA hc;have aV:=A1 aA;have FIX:=A1 (λ(ix:Ix) (Y:P.bb=some ix)=>(MV Y).1);generalize hO:Ar.aU P=O at eL eJ eP eO eM ⊢
 go_enter func59,ntmps59
 go_wp2_with (fail);refine eT.m ?_;rintro e d (⟨Y,rfl,hc1⟩|⟨ix,xb,sv,Y,rfl,hfx,hsv,hso,hxb,hc1⟩)
 ·have aU:=A1 (eL.o Y);have dP:=A1 hc1;go_wp2;go_ret3;exact .inl ⟨7,aU.o,rfl,dP.o⟩
 have eA:Ee (d.aC #[A5 b,A5 xb,.pointer none,A0 0,.slice none 0 0] 150) d.heap.size b xb 0:=Bl d _;have eR:Hid (A4 Aa d (d.aC #[A5 b,A5 xb,.pointer none,A0 0,.slice none 0 0] 150)):=(A4.C _ d).aj _;have cS:=A1 hc1;have eE:=A1 (LI.o _ (cS.o.tr eR.o));have aU:=A1 Y;have bM:=A1 hfx;have bI:=A1 hsv;have bR:=A1 hso;have aZ:=A1 hxb;have dV:=A1 eA;have dB:Hid (d.heap.size<(d.aC #[A5 b,A5 xb,.pointer none,A0 0,.slice none 0 0] 150).heap.size):=by unfold Hid;simp
 go_wp2_with (fail);refine eE.m ?_;rintro e w2⟨v,rfl,hv,b7,dZ⟩;obtain⟨na,cO,rfl,nc1,dK⟩:=(Dy.rd hv).BW;unfold maxLen at dK;have e2:=A1 (Dy.rd hv);have cD:=A1 <| eR.o.tr b7;have eQ:=A1 (dV.o.al b7 (λh=>h));have b0:Hid (∀g,(Value.slice na P.Az.length cO).ownBlock=some g->d.heap.size<g):=λg I=>Bn dB.o (dZ g I);generalize eC:d.heap.size=ab at eQ b0 ⊢;have aL:=A1 eC;go_wp2;go_loopw [30] (λiv wr=>∃k:Nat,iv=A0 k/\k<=P.Az.length/\Hid (Ee wr ab b xb ((Gg (P.Az.take k)).getLastD 0)/\(P.Az.take k).any (λnm=>decide ((Bq nm).1=0))=false/\A4 Aa w wr/\A4 (One ab) w2 wr)) (λiv _=>P.Az.length-(intOf iv).toNat)
 ·exact⟨0,rfl,by omega,eQ.o,by simp,cS.o.tr cD.o,A4.C _ _⟩
 ·obtain⟨k,rfl,z,hI⟩:=hrel;have⟨i1,i2,i3,i4⟩:=hI.o;by_cases aX:k<P.Az.length
  ·obtain⟨g,o,rfl,d1⟩:=H9.at e2.o k aX;have aP:=BV aX;have bN:=Dq aX;generalize a5:(P.Az[k]'aX)=nm at d1 aP bN;have e1:=i4.bJ d1 (λh=>by have h':g=ab:=h;have:=b0.o g rfl;omega);have aS:=A1 (eV.o wr i3 nm aP);have bP:=Tt nm;have aJ:Hid ((Gg (P.Az.take (k+1))).getLastD 0=if (Bq nm).1=2 then (Bq nm).2 else (Gg (P.Az.take k)).getLastD 0):=by
    unfold Hid;rw[bN,Yk];by_cases hc:(Bq nm).1=2
    ·(have e:Gg [nm]=[(Bq nm).2]:=by simp[Gg,hc]);rw[Ai hc,e,Ut]
    ·(have e:Gg [nm]=[]:=by simp[Gg,hc]);rw[Af hc,e,Gt]
   (have aW:Hid (¬(Bq nm).1=0->(P.Az.take (k+1)).any (λnm=>decide ((Bq nm).1=0))=false):=λhz=>by rw[bN,We,i2];simp[hz]);have aQ:Hid ((Bq nm).1=0->P.Az.any (λnm=>decide ((Bq nm).1=0))=true):=λhz=>Ma.2 ⟨nm,aP,by simp[hz]⟩;generalize hX:Bq nm=X at aS aJ aW aQ bP;obtain⟨s,n⟩:=X;dsimp only at aS aJ aW aQ bP;obtain⟨r1,r2⟩:=bP;have b3:=A1 i1;have bG:=A1 i3;have dW:=A1 i4;(have dM:(k:Int)<(P.Az.length:Int):=by omega);have hk0:=BJ k;by_cases bE:s=0
   ·subst bE;have aM:=A1 (eJ.o ix aU.o (aQ.o rfl));go_wp2_with (go_at_call 97;refine aS.k ?_;rintro w6 aD;have aH:=A1 aD);go_ret3;exact .inl ⟨7,aM.o,rfl,bG.o.tr aH.o⟩
   ·(have hsb0:(s==0)=false:=by simpa using bE);by_cases a7:s=2
    ·subst a7;(have bL:Hid ((Gg (P.Az.take (k+1))).getLastD 0=n):=by rw[aJ.o,Ai rfl];rfl);go_wp2_with (fail);refine aS.k ?_;rintro w6 aD;have eB:=b3.o.al aD (λh=>h);have g63:=eB.c3;have f63:=eB.fz 3;have dH:=A1 (eB.s3 n);have aH:=A1 aD;go_wp2;go_roundw
     ·have k7:A4 (One ab) wr (w6.sC ab 3 (A0 n)):=(aH.o.aT (S:=One ab)).ao (b:=ab) rfl 3 _;exact⟨k+1,by go_num,by omega,by rw[bL.o];exact dH.o,aW.o (by decide),bG.o.AH k7 λx Y aA=>by have e':x=ab:=Y;have:=aL.o;have:=cS.o.Ak;omega,dW.o.tr k7⟩
     ·simp[intOf];omega
    ·(have hsb2:(s==2)=false:=by simpa using a7);(have bL:Hid ((Gg (P.Az.take (k+1))).getLastD 0=(Gg (P.Az.take k)).getLastD 0):=by rw[aJ.o,Af a7];rfl);have bZ:=A1 (aW.o bE);go_wp2_with (go_at_call 97;refine aS.k ?_;rintro w6 aD;have aH:=A1 aD);go_roundw
     ·exact⟨k+1,by go_num,by omega,by rw[bL.o];exact b3.o.al aH.o (λh=>h),bZ.o,bG.o.tr aH.o,dW.o.bl aH.o⟩
     ·simp[intOf];omega
  ·(have dA:k=P.Az.length:=by omega);subst dA;rw[C5]at i1 i2;(have dM:¬((P.Az.length:Int)<(P.Az.length:Int)):=by omega);have b5:A4 (One ab) d wr:=(cD.o.aT (S:=One ab)).tr i4;(have b8:xb≠ab:=by have:=bM.o.lt;have:=aL.o;omega);have bY:=bM.o.al b5 b8;(have cL:Dg wr sv ix.sd:=DF.Am bI.o b5 λg I h=>by have h':g=ab:=h;have:=DF.lt bI.o I;have:=aL.o;omega);have eG:=A1 (eW.o ix aU.o wr ab xb sv i3 i1.c0 i1.c1 bY.c4 cL);have b3:=A1 i1;have eF:=A1 i2;have bG:=A1 i3;have dW:=A1 i4;have b1:=A1 b8;have cE:=A1 bY;have dU:=A1 cL;have cQ:Hid (ab<wr.heap.size):=b3.o.fF;go_wp2_with (fail);refine eG.m ?_;rintro e w3 (⟨hs,rfl,hc3⟩|⟨l,v3,hs,rfl,hv3,hc3⟩)
   ·have aM:=A1 (eP.o ix aU.o eF.o hs);have aI:=A1 hc3;go_wp2;go_ret3;exact .inl ⟨7,aM.o,rfl,bG.o.tr aI.o⟩
   have d3:=(cE.o.al hc3 (λh=>h)).c3;have aO:=A1 hs;have cY:=A1 hv3;have aI:=A1 hc3;have dC:Hid (A4 Aa w w3):=bG.o.tr hc3;have eH:=A1 (eX.o ix aU.o w3 dC.o);have eI:=A1 (eO.o ix l aU.o eF.o aO.o);have dS:=A1 (eM.o ix l aU.o eF.o aO.o);have cI:=A1 (dX.o ix.Bd);go_wp2_with (fail);refine eH.m ?_;rintro e w4 (⟨hp,rfl,hc4⟩|⟨hp,jb,lv,v4,rfl,hj,hv4,hjf,hvo4,hc4⟩)
   ·have aM:=A1 (eI.o hp);have bB:=A1 hc4;generalize (P.pd (BU ix.Bd P.Az)).2=E at hp aM ⊢;(have bT:(E !=0)=true:=by simpa using hp);go_wp2;go_ret3;exact .inl ⟨E,aM.o,rfl,dC.o.tr bB.o⟩
   have dL:=A1 (dS.o hp);have hpe:(P.pd (BU ix.Bd P.Az)).2=0:=hp;have b4:=b3.o.al (aI.o.tr hc4) (λh=>h);have g42:=b4.c2;have f42:=b4.fz 2;have eS:=A1 (b4.s2 jb);have aR:A4 (One ab) w4 (w4.sC ab 2 (A5 jb)):=(A4.C (One ab) w4).ao (b:=ab) rfl 2 _;have cN:A4 (One ab) w3 (w4.sC ab 2 (A5 jb)):=(hc4.aT (S:=One ab)).tr aR;have bS:A4 (One ab) wr (w4.sC ab 2 (A5 jb)):=(aI.o.aT (S:=One ab)).tr cN;(have bX:w.heap.size<=ab:=by have:=aL.o;have:=cS.o.Ak;omega);(have cT:A4 Aa w (w4.sC ab 2 (A5 jb)):=bG.o.AH bS λx Y aA=>by have e':x=ab:=Y;omega);have hr3:wr.heap.size<=w3.heap.size:=aI.o.Ak;(have aE:∀g,sv.ownBlock=some g->g<ab:=λg I=>by have:=DF.lt bI.o I;have:=aL.o;omega);(have bD:xb<ab:=by have:=bM.o.lt;have:=aL.o;omega);(have aB:∀k,Dr jb lv (.pointer none) k->ab<k:=λk z=>by have:=hjf k z;have:=cQ.o;omega);(have j5:DR (w4.sC ab 2 (A5 jb)) jb b lv (.pointer none) (P.bX ix.Bd):=hj.Am aR λk z h=>by have e':k=ab:=h;have:=aB k z;omega);have eK:Ct (w4.sC ab 2 (A5 jb)) ab b xb jb sv (.slice none 0 0) lv (.pointer none) (Ar.AV P ix) P Ft:=
    ⟨eS.o,cE.o.al bS b1.o,DF.Am dU.o bS (λg I h=>by have e':g=ab:=h;have:=aE g I;omega),DF.bU,j5,eN.o _ cT,λk z=>Bn (aV.o k z) cT.Ak,
     λk z hf=>by
      have h0:=aV.o k hf;rcases z with rfl|rfl|z|z|z
      ·omega
      ·have:=aZ.o;omega
      ·have:=bR.o k z;have:=aZ.o;omega
      ·simp[Value.ownBlock]at z
      ·have:=aB k z;omega,
     λg I=>⟨by have:=aE g I;omega,by have:=bR.o g I;omega,λh=>by have:=aB g h;have:=aE g I;omega⟩,
     λg I=>by simp[Value.ownBlock]at I,
     λk z=>⟨by have:=aB k z;omega,by have:=aB k z;omega⟩⟩
   have dF:=A1 (e0.o ix aU.o _ ab xb jb sv lv cT eK);have aT:=A1 eK;have cH:=A1 hv4;have a2:=A1 hvo4;have bB:=A1 hc4;have cZ:=A1 cN;have dD:=A1 cT;have aF:=A1 bX;have bQ:=A1 aE;have bF:=A1 bD;have a3:=A1 aB;obtain⟨bV,cC,rfl,v41,eD,-⟩:=B8 hv4;unfold maxLen at eD;go_wp2_with (fail);refine dF.m ?_;rintro e w6⟨v5,v6,rfl,b9,-,bW,-,aD⟩;obtain⟨W,L,rfl,v51,dT,-⟩:=B8 b9;unfold maxLen at dT;have b6:=eS.o.al aD (λh=>h);have g64:=b6.c4;have f64:=b6.fz 4;have dH:=A1 (b6.s4 (Value.slice W ((Ar.AV P ix).aY P).length L));have aR:A4 (One ab) w6 (w6.sC ab 4 (Value.slice W ((Ar.AV P ix).aY P).length L)):=(A4.C (One ab) w6).ao (b:=ab) rfl 4 _;have aK:A4 (One ab) (w4.sC ab 2 (A5 jb)) (w6.sC ab 4 (Value.slice W ((Ar.AV P ix).aY P).length L)):=(aD.aT (S:=One ab)).tr aR;(have bK:A4 Aa w (w6.sC ab 4 (Value.slice W ((Ar.AV P ix).aY P).length L)):=dD.o.AH aK λx Y aA=>by have e':x=ab:=Y;have:=aF.o;omega);(have h45:w4.heap.size<=(w4.sC ab 2 (A5 jb)).heap.size:=by simp);(have aG:∀g,(Value.slice W ((Ar.AV P ix).aY P).length L).ownBlock=some g->w4.heap.size<=g:=λg I=>by have:=bW g I;omega);(have h34:ab<w4.heap.size:=by have:=cQ.o;have:=aI.o.Ak;have:=bB.o.Ak;omega);have eY:Ct (w6.sC ab 4 (Value.slice W ((Ar.AV P ix).aY P).length L)) ab b xb jb sv (Value.slice W ((Ar.AV P ix).aY P).length L) lv (.pointer none) {Ar.AV P ix with AR:=(Ar.AV P ix).aY P} P Ft:=
    ⟨dH.o,aT.o.ix.al aK b1.o,DF.Am aT.o.sd aK (λg I h=>by have e':g=ab:=h;have:=bQ.o g I;omega),
     DF.Am (Dy.rd b9) aR (λg I h=>by have e':g=ab:=h;have:=aG g I;omega),
     aT.o.jn.Am aK (λk z h=>by have e':k=ab:=h;have:=a3.o k z;omega),eN.o _ bK,λk z=>Bn (aV.o k z) bK.Ak,
     λk z hf=>by
      rcases z with h|h|h|h|h
      ·exact aT.o.Dn k (.inl h) hf
      ·exact aT.o.Dn k (.inr (.inl h)) hf
      ·exact aT.o.Dn k (.inr (.inr (.inl h))) hf
      ·have:=aG k h;have:=aV.o k hf;have:=aF.o;omega
      ·exact aT.o.Dn k (.inr (.inr (.inr (.inr h)))) hf,
     aT.o.FP,
     λg I=>⟨by have:=aG g I;omega,by have:=aG g I;have:=bF.o;omega,λh=>by have:=bW g I;have:=aT.o.jn.lt h;omega⟩,
     aT.o.G8⟩
   have cF:Hid (∀k,FM ab xb jb sv (Value.slice W ((Ar.AV P ix).aY P).length L) lv (.pointer none) k->w.heap.size<=k):=λk z=>by
    rcases z with rfl|rfl|h|h|h
    ·exact aF.o
    ·exact aZ.o
    ·have:=bR.o k h;have:=aZ.o;omega
    ·have:=aG k h;have:=aF.o;omega
    ·have:=a3.o k h;have:=aF.o;omega
   have dN:A4 (One ab) w3 (w6.sC ab 4 (Value.slice W ((Ar.AV P ix).aY P).length L)):=cZ.o.tr aK;have a8:=eZ.o ix aU.o l aO.o (w6.sC ab 4 (Value.slice W ((Ar.AV P ix).aY P).length L)) wr.heap.size v3 (cY.o.fS dN λk z=>by have e':k=ab:=z;have:=cQ.o;omega);have a4:=dL.o;generalize hPL:l.flatMap (·.2)=PL at a8 a4;have cU:=A1 a4;have dE:=A1 a8.1;have dQ:=A1 a8.2;have b2:=A1 eY;have bH:=A1 bK;have a0:Hid (B1 (w6.sC ab 4 (Value.slice W ((Ar.AV P ix).aY P).length L)) (.slice bV (P.pd (BU ix.Bd P.Az)).1.length cC) (P.pd (BU ix.Bd P.Az)).1):=Au cH.o λg I=>by
    have h1:=a2.o g I;have hlt4:=Aw cH.o I;(have a5:g≠ab:=by have:=cQ.o;have:=aI.o.Ak;omega);have e1:=aK.Al g (by omega) (λh=>a5 h);rw[e1];exact Fw _ _ _ _ (λe=>a5 e)
   (have HO47:Hid (∀g,(Value.slice bV (P.pd (BU ix.Bd P.Az)).1.length cC).ownBlock=some g->w.heap.size<=g):=λg I=>by have:=a2.o g I;have:=dC.o.Ak;omega);go_wp2_with (fail);refine dE.m ?_;rintro e w8⟨v8,rfl,cG,cV,cA⟩;obtain⟨bC,bA,rfl,v81,dR,-⟩:=B8 cG;unfold maxLen at dR;have dY:=A1 cG;have a6:=A1 cV;have cJ:=A1 cA;have cM:=A1 (Src.bP GP (Au a0.o λg I=>cA.Al g (Aw a0.o I) (λh=>h)) (Hu (P.pd (BU ix.Bd P.Az)).1));(have cX:Hid ((PL.length+(P.pd (BU ix.Bd P.Az)).1.length)*24<=140737488355328):=by have:=dQ.o;have:=cI.o;unfold Hid;omega);go_wp2_with (at_builtin;refine CU rfl (.tmp 84) (.tmp 85) 97 97 rfl 113 i0 _ 3 24 GP hi hz0 hz1 hz2 rfl (by decide) (.slice bC PL.length bA) PL.length (B5 PL) (by rfl) dY.o _ (P.pd (BU ix.Bd P.Az)).1.length _ (by rfl) cM.o cX.o ?_;intro a9 cB w9 hA;have eU:=A1 hA);go_ret3;have hA:=eU.o;have dI:=hA.Am (S:=λk=>(Value.slice bC PL.length bA).ownBlock=some k) λ_ h=>h;have aY:A4 (λk=>(Value.slice bC PL.length bA).ownBlock=some k) (w6.sC ab 4 (Value.slice W ((Ar.AV P ix).aY P).length L)) w9:=(cJ.o.aT).tr dI;have dJ:=cJ.o.Ak;have a1:∀g,(Value.slice a9 (PL.length+(P.pd (BU ix.Bd P.Az)).1.length) cB).ownBlock=some g->(w6.sC ab 4 (Value.slice W ((Ar.AV P ix).aY P).length L)).heap.size<=g:=λg I=>by
    rcases hA.BY with h|h
    ·rw[h]at I;exact a6.o g I
    ·rw[h]at I;cases I;exact dJ
   refine .inr ⟨_,_,ab,_,λk=>Ft k\/FM ab xb jb sv (Value.slice W ((Ar.AV P ix).aY P).length L) lv (.pointer none) k,cU.o,rfl,?_,⟨xb,jb,sv,(Value.slice W ((Ar.AV P ix).aY P).length L),lv,.pointer none,Ft,b2.o.aM (λk z=>aY.Al k (b2.o.b0 z) λh=>by have:=a6.o k h;have:=b2.o.b0 z;omega) aY.Ak,λ_ h=>h⟩,λk z=>?_,λk z=>Bn (b2.o.b0 z) aY.Ak,λg I=>⟨λhf=>?_,?_⟩,?_⟩
   ·(have e:(PL++(P.pd (BU ix.Bd P.Az)).1).length=PL.length+(P.pd (BU ix.Bd P.Az)).1.length:=by simp);unfold B1;rw[Ig,e];exact hA.AB
   ·rcases z with z|z
    ·exact .inl z
    ·exact .inr (cF.o k z)
   ·have:=a1 g I;have:=b2.o.b0 hf;omega
   ·have:=a1 g I;have:=bH.o.Ak;omega
   ·exact bH.o.AH aY λx Y aA=>by have:=a6.o x Y;have:=bH.o.Ak;omega
end
section
def Y5(w:gx)(I:Nat)(od:Int)(p:Pu)(L:A8 w I 0 (A0 od)):
 Ag 111 #[DK p,A5 I] w (Aj (.bool (decide (od<=p.2.1))) λw'=>A4 Aa w w'):=by
 obtain⟨z,E,h⟩:=p;unfold DK;dsimp only
 have d:Ce (w.aC #[A0 z,A0 E,A0 h] 113) w.heap.size z E h:=Bl w _;have k:A4 Aa w (w.aC #[A0 z,A0 E,A0 h] 113):=(A4.C _ w).aj _;have c1:=d.c1;have hw2:=k.ah L;have K:=A1 k
 go_enter func111,ntmps111
 go_wp2;go_ret;exact⟨rfl,K.o⟩
def A1A(w:gx)(v:gy)(l:gD Pu)(h:B1 w v l)(ob:Nat)(od:Int)(hw:A8 w ob 0 (A0 od)):
 Ag 159 #[v,.func (Fn.func 111) #[] #[A5 ob]] w λe w'=>∃i:Int,e=.returned (A0 i)/\decide (0<=i)=l.any (λp=>decide (od<=p.2.1))/\A4 Aa w w':=by
 obtain⟨va,vcap,rfl,v1,v2,v3,-⟩:=B8 h;unfold maxLen at v2;have H:=A1 h;have aJ:=A1 hw;have aI:=A1 v3
 go_enter func159,ntmps159
 go_wp2;go_loopw [8] (λiv wr=>∃k:Nat,iv=A0 k/\k<=l.length/\Hid ((l.take k).any (λp=>decide (od<=p.2.1))=false/\A4 Aa w wr)) (λiv _=>l.length-(intOf iv).toNat)
 ·exact⟨0,rfl,by omega,by simp,A4.C _ _⟩
 ·obtain⟨k,rfl,hk,hI⟩:=hrel;have⟨i1,i2⟩:=hI.o;by_cases z:k<l.length
  ·obtain⟨g,rfl⟩:=aI.o (by omega);have⟨q1,q2,q3⟩:=Hv l k z;have O:l.take (k+1)=l.take k++[l[k]'z]:=Dq z;have E:=BV z;generalize hp:(l[k]'z)=p at q1 q2 q3 O E;have e1:=i2.ah (Bv H.o rfl q1);have e2:=i2.ah (Bv H.o rfl q2);have e3:=i2.ah (Bv H.o rfl q3);have W:=A1 (Y5 wr ob od p (i2.ah aJ.o));have X:=A1 i2;(have aG:Hid (decide (od<=p.2.1)=false->(l.take (k+1)).any (λp=>decide (od<=p.2.1))=false):=λh=>by rw[O,We,i1];simp at h ⊢;exact h);have aF:Hid (decide (od<=p.2.1)=true->l.any (λp=>decide (od<=p.2.1))=true):=λh=>Ma.2 ⟨p,E,h⟩;generalize hd:decide (od<=p.2.1)=d at W aG aF;obtain⟨p1,p2,p3⟩:=p;unfold DK at W;dsimp only at e1 e2 e3 W;(have Y:(k:Int)<(l.length:Int):=by omega);have aB:=BJ k;cases d with
   | true=>
    have aD:=A1 (aF.o rfl);go_wp2_with (fail);refine W.k ?_;rintro w6 L;have I:=A1 L;go_wp2;go_ret;exact⟨_,rfl,by rw[aD.o];exact Cu aB,X.o.tr I.o⟩
   | false=>
    have aE:=A1 (aG.o rfl);go_wp2_with (fail);refine W.k ?_;rintro w6 L;have I:=A1 L;go_wp2;go_roundw
    ·exact⟨k+1,by go_num,by omega,aE.o,X.o.tr I.o⟩
    ·simp[intOf];omega
  ·(have aA:k=l.length:=by omega);subst aA;rw[C5]at i1;have aH:=A1 i1;have X:=A1 i2;(have Y:¬((l.length:Int)<(l.length:Int)):=by omega);clear hI i1 i2;go_wp2;go_ret;exact⟨_,rfl,by rw[aH.o];rfl,X.o⟩
def A2M(w:gx)(v:gy)(l:gD Pu)(h:B1 w v l)(z:Nat)(od:Int)(O:A8 w z 0 (A0 od)):
 Ag 110 #[v,.func (Fn.func 111) #[] #[A5 z]] w (Aj (.bool (l.any (λp=>decide (od<=p.2.1)))) λw'=>A4 Aa w w'):=by
 have E:=A1 (A1A w v l h z od O);obtain⟨va,vcap,rfl,v1,v2,-⟩:=B8 h;generalize hd:l.any (λp=>decide (od<=p.2.1))=d at E ⊢
 go_enter func110,ntmps110
 go_wp2_with (fail);refine E.m ?_;rintro e w1⟨i,rfl,W,X⟩;have I:=A1 W;have L:=A1 X;go_wp2;go_ret;exact⟨by rw[<-I.o];rfl,L.o⟩
end
section
def A12(w:gx)(x y:gy)(d z:gD Pu)(h1:B1 w x d)(h2:B1 w y z):
 Ag 114 #[x,y] w (Aj (.bool (decide (d=z))) λw'=>A4 Aa w w'):=by
 obtain⟨va,vcap,rfl,v1,v2,v3,-⟩:=B8 h1;obtain⟨ua,ucap,rfl,u1,u2,u3,-⟩:=B8 h2;unfold maxLen at v2 u2;have aL:=A1 h1;have aO:=A1 h2;have aU:=A1 v3;have aT:=A1 u3;by_cases hl:d.length=z.length
 case neg=>
  have aJ:¬d=z:=λe=>hl (by rw[e]);rw[Cv aJ];have aP:((d.length:Int)!=(z.length:Int))=true:=by simp;omega
  go_enter func114,ntmps114
  go_wp2;go_ret;exact⟨rfl,A4.C _ _⟩
 case pos=>
 have aI:=A1 hl;have aP:((d.length:Int)!=(z.length:Int))=false:=by simp;omega
 go_enter func114,ntmps114
 go_wp2;go_loopw [13] (λiv wr=>∃k:Nat,iv=A0 k/\k<=d.length/\Hid (d.take k=z.take k/\A4 Aa w wr)) (λiv _=>d.length-(intOf iv).toNat)
 ·exact⟨0,rfl,by omega,by simp,A4.C _ _⟩
 ·obtain⟨k,rfl,hk,hI⟩:=hrel;have⟨i1,i2⟩:=hI.o;by_cases L:k<d.length
  ·(have E:k<z.length:=by have:=aI.o;omega);obtain⟨g,rfl⟩:=aU.o (by omega);obtain⟨g',rfl⟩:=aT.o (by omega);have⟨p1,p2,p3⟩:=Hv d k L;have⟨q1,q2,q3⟩:=Hv z k E;have aD:d.take (k+1)=d.take k++[d[k]'L]:=Dq L;have aE:z.take (k+1)=z.take k++[z[k]'E]:=Dq E;(have O:d=z->(d[k]'L)=(z[k]'E):=λe=>by subst e;rfl);obtain⟨p,hp⟩:∃p,(d[k]'L)=p:=⟨_,rfl⟩;obtain⟨q,hq⟩:∃q,(z[k]'E)=q:=⟨_,rfl⟩;rw[hp]at p1 p2 p3 aD O;rw[hq]at q1 q2 q3 aE O;(have aQ:Hid (p=q->d.take (k+1)=z.take (k+1)):=λe=>by rw[aD,aE,i1,e]);have aA:Hid (¬p=q->decide (d=z)=false):=λh=>Cv λe=>h (O e);have aR:Hid (∀W,A4 Aa wr W->A8 W g (k*3) (A0 p.1)/\A8 W g (k*3+1) (A0 p.2.1)/\A8 W g (k*3+2) (A0 p.2.2)/\A8 W g' (k*3) (A0 q.1)/\A8 W g' (k*3+1) (A0 q.2.1)/\A8 W g' (k*3+2) (A0 q.2.2)):=λW hx=>
    ⟨hx.ah (i2.ah (Bv aL.o rfl p1)),hx.ah (i2.ah (Bv aL.o rfl p2)),hx.ah (i2.ah (Bv aL.o rfl p3)),hx.ah (i2.ah (Bv aO.o rfl q1)),hx.ah (i2.ah (Bv aO.o rfl q2)),hx.ah (i2.ah (Bv aO.o rfl q3))⟩
   have aF:=A1 i2;obtain⟨Y,pb,pc⟩:=p;obtain⟨X,qb,qc⟩:=q;dsimp only at aR;(have aK:(k:Int)<(d.length:Int):=by omega);(have hkj:(k:Int)<(z.length:Int):=by omega);have hk0:=BJ k;have aS:=aR.o wr.drew (A4.C _ wr).aa;clear hI i1 i2 p1 p2 p3 q1 q2 q3 aD aE O hp hq E;go_wp2;refine Br (λw'=>A8 w' g (k*3) (A0 Y)/\A8 w' g (k*3+1) (A0 pb)/\A8 w' g (k*3+2) (A0 pc)/\A8 w' g' (k*3) (A0 X)/\A8 w' g' (k*3+1) (A0 qb)/\A8 w' g' (k*3+2) (A0 qc)) 8
    (Ba [0,1,2,3,4,5,6,7] []) aS ?_
   iterate 8 refine B4 ?_
   refine Bo ?_;by_cases I:(Y,pb,pc)=(X,qb,qc)
   ·have aN:=A1 (aQ.o I);(obtain⟨rfl,rfl,rfl⟩:Y=X/\pb=qb/\pc=qc:=by simpa using I);clear I aQ aA;go_wp2;go_roundw
    ·exact⟨k+1,by go_num,by omega,aN.o,aF.o.aa⟩
    ·simp[intOf];omega
   ·have aB:=A1 (aA.o I);have aM:¬Y=X\/(Y=X/\¬pb=qb)\/(Y=X/\pb=qb/\¬pc=qc):=by
     by_cases ha:Y=X
     ·by_cases hb:pb=qb
      ·exact .inr (.inr ⟨ha,hb,λhc=>I (by rw[ha,hb,hc])⟩)
      ·exact .inr (.inl ⟨ha,hb⟩)
     ·exact .inl ha
    clear I aQ aA;rcases aM with ha|⟨rfl,hb⟩|⟨rfl,rfl,hc⟩
    ·(have aG:(Y==X)=false:=by simpa using ha);go_wp2;go_ret;exact⟨by rw[aB.o];rfl,aF.o.aa⟩
    ·(have aG:(pb==qb)=false:=by simpa using hb);go_wp2;go_ret;exact⟨by rw[aB.o];rfl,aF.o.aa⟩
    ·(have aG:(pc==qc)=false:=by simpa using hc);go_wp2;go_ret;exact⟨by rw[aB.o];rfl,aF.o.aa⟩
  ·(have aH:k=d.length:=by omega);have he:d=z:=by
    have h1:=i1;rw[aH,C5]at h1;rw[aI.o,C5]at h1;exact h1
   have aF:=A1 i2;(have aK:¬((k:Int)<(d.length:Int)):=by omega);have aV:=A1 he;clear hI i1 i2 he aH;go_wp2;go_ret;exact⟨by rw[Cu aV.o];rfl,aF.o⟩
def Yn{aA b:Nat}(w:gx)(O W:Nat)(x:Int×gD Pu)(h:JL w aA b O x)(pv:gy)(l:gD Pu)(hp:A8 w W 0 pv)(hl:B1 w pv l):
 Ag 113 #[A5 O,A5 W] w (Aj (.bool (decide (x.2=l))) λw'=>A4 Aa w w'):=by
 obtain⟨sv,s1,s2,-,-⟩:=h;obtain⟨sa,E,rfl,c1,c2,-⟩:=B8 s2;obtain⟨pa,z,rfl,d1,d2,-⟩:=B8 hl;have f4:A8 w.drew O 4 (.slice sa x.2.length E):=s1.c4;have L:A8 w.drew W 0 (.slice pa l.length z):=hp;have Y:=A1 (A12 w.drew _ _ x.2 l (Au s2 λ_ _=>rfl) (Au hl λ_ _=>rfl));generalize hd:decide (x.2=l)=d at Y ⊢;generalize hn1:x.2.length=n1 at Y f4
 go_enter func113,ntmps113
 go_wp2;refine Br (λw'=>A8 w' O 4 (.slice sa n1 E)/\A8 w' W 0 (.slice pa l.length z)) 6
  (Ba [0,1,2,3,4,5] [5]) ⟨f4,L⟩ ?_
 iterate 5 refine B4 ?_
 refine Bf λK hK=>?_;go_simp;refine Y.k ?_;rintro w6 I;refine hK _ _ ⟨I.ah f4,I.ah L⟩ (λhS=>?_);have X:Hid (A4 Aa w w6):=((A4.C _ w).aa).tr I;refine Bo ?_;go_wp2;go_ret;exact⟨rfl,X.o⟩
def A1B{aN b:Nat}(w:gx)(v:gy)(sd:gD (Int×gD Pu))(h:GR w aN b v sd)(pb:Nat)(pv:gy)(l:gD Pu)(hp:A8 w pb 0 pv)(hl:B1 w pv l):
 Ag 112 #[v,.func (Fn.func 113) #[] #[A5 pb]] w λe w'=>
  ((e=.returned (A0 (-1))/\sd.find? (λs=>decide (s.2=l))=none)\/∃(k:Nat) (hk:k<sd.length),e=.returned (A0 k)/\sd.find? (λs=>decide (s.2=l))=some (sd[k]'hk))/\A4 Aa w w':=by
 obtain⟨W,j1,j2,j3,j4⟩:=h;obtain⟨va,vcap,rfl,v1,v2,v3,-⟩:=B8 j2;unfold maxLen at v2;have aO:=A1 j2;have aM:=A1 j4;have G:=A1 v3;have aL:=A1 hp;have aJ:=A1 hl
 go_enter func112,ntmps112
 go_wp2;go_loopw [8] (λiv wr=>∃k:Nat,iv=A0 k/\k<=sd.length/\Hid ((sd.take k).find? (λs=>decide (s.2=l))=none/\A4 Aa w wr)) (λiv _=>sd.length-(intOf iv).toNat)
 ·exact⟨0,rfl,by omega,by simp,A4.C _ _⟩
 ·obtain⟨k,rfl,hk,hI⟩:=hrel;have⟨i1,i2⟩:=hI.o;by_cases z:k<sd.length
  ·(have E:k<W.length:=by omega);obtain⟨g,rfl⟩:=G.o (by omega);have hc:A8 w g k (A5 (W[k]'E)):=Bv aO.o rfl (by simp[GZ,E]);have O:=aM.o k E z;have Y:sd=sd.take k++(sd[k]'z):: sd.drop (k+1):=by
    conv=>lhs;rw[<-E4 k sd,FK z]
   have X:sd.take (k+1)=sd.take k++[sd[k]'z]:=Dq z;generalize aH:(W[k]'E)=gb at hc O;have e1:=i2.ah hc;have SI:=A1 (Yn wr gb pb (sd[k]'z) (O.ak i2) pv l (i2.ah aL.o) (Au aJ.o λg hg=>i2.Al g (Aw aJ.o hg) (λh=>h)));have aA:=A1 i2;have aI:Hid (decide ((sd[k]'z).2=l)=false->(sd.take (k+1)).find? (λs=>decide (s.2=l))=none):=λh=>by
    rw[X,A4H,i1,List.find?_cons_of_neg (by rw[h];simp)];rfl
   have aE:Hid (decide ((sd[k]'z).2=l)=true->sd.find? (λs=>decide (s.2=l))=some (sd[k]'z)):=λh=>by
    have e:(sd.take k++(sd[k]'z):: sd.drop (k+1)).find? (λs=>decide (s.2=l))=some (sd[k]'z):=by
     rw[A4H,i1,List.find?_cons_of_pos (by exact h)];rfl
    rwa [<-Y]at e
   generalize hd:decide ((sd[k]'z).2=l)=d at SI aI aE;(have aB:(k:Int)<(sd.length:Int):=by omega);have hk0:=BJ k;clear hI i1 i2 hc O Y X aH hd;cases d with
   | true=>
    have aF:=A1 (aE.o rfl);clear aI aE;go_wp2_with (fail);refine SI.k ?_;rintro w6 I;have L:=A1 I;go_wp2;go_ret;exact⟨.inr ⟨k,z,rfl,aF.o⟩,aA.o.tr L.o⟩
   | false=>
    have aG:=A1 (aI.o rfl);go_wp2_with (fail);refine SI.k ?_;rintro w6 I;have L:=A1 I;clear I SI;go_wp2;go_roundw
    ·exact⟨k+1,by go_num,by omega,aG.o,aA.o.tr L.o⟩
    ·simp[intOf];omega
  ·(have aD:k=sd.length:=by omega);subst aD;rw[C5]at i1;have aK:=A1 i1;have aA:=A1 i2;(have aB:¬((sd.length:Int)<(sd.length:Int)):=by omega);clear hI i1 i2;go_wp2;go_ret;exact⟨.inl ⟨rfl,by simpa using aK.o⟩,aA.o⟩
end
def U0(sd:gD (Int×gD Pu))(od:Int)(l:gD Pu)(r:gD (gD Pu)):BX sd od (l::r)=if l.any (λp=>decide (od<=p.2.1))=false then BX sd od r else
 match sd.find? λs=>decide (s.2=l) with
 | none=>((BX sd od r).1,l::(BX sd od r).2)
 | some s=>(s.1::(BX sd od r).1,(BX sd od r).2):=rfl
def TZ(sd:gD (Int×gD Pu))(od:Int):∀ws:gD (gD Pu),(BX sd od ws).1.length+(BX sd od ws).2.length<=ws.length/\(∀n∈(BX sd od ws).1,∃s∈sd,s.1=n)/\(∀l∈(BX sd od ws).2,l∈ws)/\Dm (BX sd od ws).2<=Dm ws
 | []=>⟨Ao _,(λn h=>absurd h VV),(λl z=>z),Ao _⟩
 | l::r=>by
  have⟨h1,h2,h3,h4⟩:=TZ sd od r;rw[U0,Oa];split
  ·exact⟨by simp;omega,h2,λx d=>BC _ (h3 x d),by omega⟩
  ·split
   ·refine⟨by simp;omega,h2,λx d=>?_,by rw[Oa];omega⟩;rcases BS.1 d with rfl|d
    ·exact BI
    ·exact BC _ (h3 x d)
   ·rename_i s E;refine⟨by simp;omega,λn h=>?_,λx d=>BC _ (h3 x d),by dsimp only;omega⟩;rcases BS.1 h with rfl|h
    ·exact⟨s,A4w E,rfl⟩
    ·exact h2 n h
def Of{P:PD}:∀(E:gD Int) (l:gD (Int×gD Pu)),P.sd E=some l->∀x∈l,x.1∈E
 | [],l,h=>by cases h;exact λx z=>by cases z
 | n::r,l,h=>by
  unfold PD.sd at h;cases z:P.CD n with
  | none=>rw[z]at h;cases h
  | some q=>
   rw[z]at h;dsimp only at h;cases hy:P.sd r with
   | none=>rw[hy]at h;cases h
   | some y=>
    rw[hy]at h;cases h;intro x d;rcases BS.1 d with rfl|d
    ·exact BI
    ·exact BC _ (Of r y hy x d)
section
variable{N ab b a c m B:Nat}{A:Ar}{P:PD}{FT:Nat->Prop}
structure I8 (w5 w:gx) (B0:Nat) (vk vf:gy) (kk:gD Int) (ff:gD (gD Pu)):Prop where
 Am:A4 (λ_=>False) w5 w
 HV:DT w vk kk
 Kl:∀g,vk.ownBlock=some g->w5.heap.size<=g
 AV:∃fvs:gD gy,fvs.length=ff.length/\w.ownsRow 0 97 1 vf ff.length fvs/\(∀g,vf.ownBlock=some g->w5.heap.size<=g)/\(∀k (h1:k<fvs.length) (h2:k<ff.length),B1 w5 (fvs[k]'h1) (ff[k]'h2))/\∀x∈fvs,∀g,x.ownBlock=some g->B0<=g
def I8.aL{X w w':gx}{E:Nat}{L I:gy}{O:gD Int}{W:gD (gD Pu)}(h:I8 X w E L I O W)(z:A4 Aa w w'):I8 X w' E L I O W:=by
 have⟨fvs,f1,f2,f3,f4,f5⟩:=h.AV;exact⟨h.Am.tr z,Au h.HV λg d=>z.Al g (Aw h.HV d) (λh=>h),h.Kl,fvs,f1,Au f2 λg d=>z.Al g (Aw f2 d) (λh=>h),f3,f4,f5⟩
def I8.gl{w5 w w':gx}{aA:Nat}{O E X:gy}{z:gD Int}{Y:gD (gD Pu)}{n:Int}(h:I8 w5 w aA O X z Y)(L:App w w' 3 1 O E (z.length+1) (E8 z++E8 [n])):I8 w5 w' aA E X (z++[n]) Y:=by
 have hc:=L.Am (S:=λk=>O.oB k) λ_ h=>h;have⟨fvs,f1,f2,f3,f4,f5⟩:=h.AV;refine⟨h.Am.AH hc λx W hlt=>by have:=h.Kl x W;omega,?_,λg d=>?_,fvs,f1,Au f2 λg d=>hc.Al g (Aw f2 d) λW=>IY f2 h.HV (by decide) d W,f3,f4,f5⟩
 ·have e:(z++[n]).length=z.length+1:=by simp
  unfold DT;rw[Lv,e];exact L.AB
 ·rcases L.BY with I|I
  ·rw[I]at d;exact h.Kl g d
  ·rw[I]at d;cases d;exact h.Am.Ak
def I8.addF{Y w w':gx}{aA:Nat}{vk L W x:gy}{kk:gD Int}{z:gD (gD Pu)}{l:gD Pu}(h:I8 Y w aA vk L kk z)(X:B1 Y x l)(aD:∀g,x.ownBlock=some g->aA<=g)(d:gD gy)(f1:d.length=z.length)(f2:w.ownsRow 0 97 1 L z.length d)(f3:∀g,L.ownBlock=some g->Y.heap.size<=g)(f4:∀k (I:k<d.length) (h2:k<z.length),B1 Y (d[k]'I) (z[k]'h2))(f5:∀x∈d,∀g,x.ownBlock=some g->aA<=g)(hA:App w w' 97 1 L W (z.length+1) (d++[x])):I8 Y w' aA vk W kk (z++[l]):=by
 have hc:=hA.Am (S:=λk=>L.oB k) λ_ h=>h;refine⟨h.Am.AH hc λx X hlt=>by have:=f3 x X;omega,Au h.HV λg E=>hc.Al g (Aw h.HV E) λX=>IY h.HV f2 (by decide) E X,h.Kl,d++[x],by simp[f1],?_,λg E=>?_,λk I h2=>?_,λy O g E=>?_⟩
 ·have e:(z++[l]).length=z.length+1:=by simp
  rw[e];exact hA.AB
 ·rcases hA.BY with I|I
  ·rw[I]at E;exact f3 g E
  ·rw[I]at E;cases E;exact h.Am.Ak
 ·by_cases hk:k<z.length
  ·rw[Fs (show k<d.length by omega),Fs hk];exact f4 k (by omega) hk
  ·(have aB:k=z.length:=by simp at h2;omega);have e1:(d++[x])[k]'I=x:=by
    (have:k=d.length:=by omega);subst this;simp
   (have e2:(z++[l])[k]'h2=l:=by subst aB;simp);rw[e1,e2];exact X
 ·rcases AX.1 O with O|O
  ·exact f5 y O g E
  ·rw[J8.1 O]at E;exact aD g E
end
section
variable{N ab b a c m B:Nat}{A:Ar}{P:PD}{FT:Nat->Prop}
def A3O(hS:Gc N)(hN:N<=134217728)(w:gx)(h:AD w ab b A P FT)(dB:∀k,FT k->k<w.heap.size)(wa od:Int)(hw:1<=wa/\wa<=4611686018427387904)(hall:∀sd,P.sd A.ix.sd=some sd->(sd.flatMap (·.2)++(P.pd A.j.An).1).length<=N/\∀p∈sd.flatMap (·.2)++(P.pd A.j.An).1,Bm p)(aI:A.ix.sd.length<=1073741824/\A.ix.sd.length*m<=4398046511104)(cP:0<=A.Ac/\A.Ac+N<=9223372036854775807)(bS:Ay (A.j.Ac+1))(a7:∀x∈A.ix.sd,Ay x)(hF:Fit P a c m)(hl:CT (a+N+2) (c+2*a+2*N+4) (m+37*N+12))(hm:A.j.An.length*m<=70368744177664)(hn:∀n∈A.ix.sd,CK n)(bJ:∀n∈A.j.An,CK n)(cX:A.j.An.length<=1073741824)(hL:Lets B w)(bV:∀k,FT k->B<=k):
 Ag 70 #[A5 ab,A0 wa,A0 od] w (Aj (A0 (A.aN P wa od).1) λw'=>Ap w FT w' (λw' aK=>AD w' ab b (A.aN P wa od).2.1 (A.aN P wa od).2.2 aK)):=by
 have⟨i0,hi,hz0,hz1,hz2⟩:=DL IT;obtain⟨j0,hj,eK,dL,dX⟩:=Pf;obtain⟨s0,X,dT,eT,dK⟩:=SC;have⟨xb,jb,sv,ov,lv,jo,Ft,hv,hsub⟩:=id h;have a6:CT a c m:=⟨by have:=hl.a;omega,by have:=hl.c;omega,by have:=hl.m;omega⟩;have k0:A4 Aa w (w.aC #[A0 od] 3):=(A4.C _ w).aj _;have b5:(w.aC #[A0 od] 3).heap[w.heap.size]?=some (.cells #[A0 od] 3 (0,0)):=Bl w _;have dE:Hid (P.sd A.ix.sd=none->A.aN P wa od=(7,A,P)):=λh=>by unfold Ar.aN;rw[h]
 have dG:Hid (∀sd,P.sd A.ix.sd=some sd->(P.pd A.j.An).2≠0->A.aN P wa od=((P.pd A.j.An).2,A,P)):=λsd h hp=>by unfold Ar.aN;rw[h];dsimp only;rw[Ai hp]
 have dI:Hid (∀sd,P.sd A.ix.sd=some sd->(P.pd A.j.An).2=0->A.aN P wa od=A.aH P ((BX sd od (C3 wa (sd.flatMap (·.2)++(P.pd A.j.An).1))).1.mergeSort λx y=>decide (x<=y)) (BX sd od (C3 wa (sd.flatMap (·.2)++(P.pd A.j.An).1))).2):=λsd h hp=>by
  unfold Ar.aN;rw[h];dsimp only;rw[Af (by simp[hp])]
 obtain⟨R,hR⟩:∃R,A.aN P wa od=R:=⟨_,rfl⟩;rw[hR]at dE dG dI ⊢;have H:=A1 h;have aM:=A1 dB;have aD:Hid (∀E n,A4 Aa w E->R=(n,A,P)->R.1=n/\Ap w FT E (λw' aK=>AD w' ab b R.2.1 R.2.2 aK)):=λE n Y he=>by
  subst he;exact⟨rfl,Y.aT,FT,H.o.ak Y,λk hk=>Bn (aM.o k hk) Y.Ak,λk hk=>.inl hk⟩
 have dU:=A1 (Yd _ (hv.ak k0) hF a6 hn aI.1 (hL.aL k0));have eD:Hid (∀E,A4 Aa w E->_):=λE Y=>Oz E (hv.ak Y).dk (hv.ak Y).lt (hv.ak Y).jn hF a6 hm bJ (hL.aL Y);have e4:Hid (∀E,A4 Aa w E->E.cell? (A9 ab 2)=some (A5 jb)):=λE Y=>(hv.ak Y).Ae.c2
 have eM:Hid (∀sd,P.sd A.ix.sd=some sd->∀E dQ v,GR E dQ b v sd->Ag 101 #[v] E λe w'=>∃v',e=.returned v'/\B1 w' v' (sd.flatMap (·.2))/\(∀g,v'.oB g->E.heap.size<=g)/\A4 Aa E w'):=λsd X E dQ v z=>by
  have⟨q1,q2⟩:=Og hF A.ix.sd sd X;exact SM E dQ v sd z (by rw[q1];exact aI.1) q2 (by rw[q1];exact aI.2)
 have bB:Hid (∀sd,P.sd A.ix.sd=some sd->∀E v,B1 E v (sd.flatMap (·.2)++(P.pd A.j.An).1)->_):=λsd X E v z=>Uk hS hN E v wa _ (hall sd X).1 z (λp hp=>((hall sd X).2 p hp).2.1) hw
 have bL:Hid (∀sd,P.sd A.ix.sd=some sd->(P.pd A.j.An).2=0->∀E kv fv,A4 Aa w E->DT E kv ((BX sd od (C3 wa (sd.flatMap (·.2)++(P.pd A.j.An).1))).1.mergeSort λx y=>decide (x<=y))->(∀g,kv.oB g->w.heap.size<=g)->Q7 E fv (BX sd od (C3 wa (sd.flatMap (·.2)++(P.pd A.j.An).1))).2 FT->
  Ag 107 #[A5 ab,kv,fv] E (Aj (A0 R.1) λw'=>Ap w FT w' (λw' aK=>AD w' ab b R.2.1 R.2.2 aK))):=λsd X hp E kv fv Y hk bN hf=>by
  have⟨z1,z2,z3⟩:=Pm wa (sd.flatMap (·.2)++(P.pd A.j.An).1);have⟨y1,y2,y3,y4⟩:=TZ sd od (C3 wa (sd.flatMap (·.2)++(P.pd A.j.An).1));have⟨n1,n2⟩:=hall sd X;have aZ:∀n∈(BX sd od (C3 wa (sd.flatMap (·.2)++(P.pd A.j.An).1))).1.mergeSort (λx y=>decide (x<=y)),n∈A.ix.sd:=λn hn=>by
   obtain⟨s,eG,rfl⟩:=y2 n (A4x.1 hn);exact Of _ _ X s eG
  rw[dI.o sd X hp];have b9:((BX sd od (C3 wa (sd.flatMap (·.2)++(P.pd A.j.An).1))).1.mergeSort (λx y=>decide (x<=y))).length=(BX sd od (C3 wa (sd.flatMap (·.2)++(P.pd A.j.An).1))).1.length:=Qo _
  refine(S4 E (H.o.ak Y) (λk hk=>Bn (aM.o k hk) Y.Ak) kv _ hk (λg L=>⟨λz=>by have:=bN g L;have:=aM.o g z;omega,AP hL.1 (bN g L)⟩) fv _ hf
   (λl hl=>⟨λp hp=>n2 p ((z3 l (y3 l hl)).1 p hp),by have:=(z3 l (y3 l hl)).2;omega⟩) ⟨cP.1,by omega⟩ bS (λx z=>a7 x (aZ x z)) hF ⟨by have:=hl.a;omega,by have:=hl.c;omega,by have:=hl.m;rw[b9];omega⟩ (by rw[b9];omega) hn bJ (λx z=>hn x (aZ x z)) aI.1 cX (hL.aL Y) bV).mono ?_
  rintro e w'⟨h1,h2⟩;exact⟨h1,Ap.ba (Y.aT) (λk hk=>hk.elim .inl λh=>.inr (bN k h)) h2⟩
 have a0:Hid (∀sd,P.sd A.ix.sd=some sd->(sd.flatMap (·.2)++(P.pd A.j.An).1).length<=134217728/\(C3 wa (sd.flatMap (·.2)++(P.pd A.j.An).1)).length<=134217728):=λsd X=>by
  have h1:=(hall sd X).1;have h2:=(Pm wa (sd.flatMap (·.2)++(P.pd A.j.An).1)).1;omega
 have dS:Hid (∀sd,P.sd A.ix.sd=some sd->∀x∈sd,Ay x.1):=λsd X x z=>a7 _ (Of _ _ X x z);have dN:=A1 k0;have cI:=A1 b5;clear hR h hv dB hsub hall aI cP bS a7 hF hl hm hn bJ cX hL bV a6 k0 b5 hw hS
 go_enter func70,ntmps70
 go_wp2_with (fail);refine dU.m ?_;rintro e w1 (⟨X,rfl,hc1⟩|⟨sd,v1,X,rfl,hv1,hc1⟩)
 ·have cS:=A1 (aD.o w1 7 (dN.o.tr hc1) (dE.o X));clear X hc1 dU dE dG dI aD eD eM bB bL;go_wp2;go_ret;exact⟨by rw[cS.o.1];rfl,cS.o.2⟩
 have aJ:=A1 X;have cV:=A1 hv1;have dH:Hid (A4 Aa w w1):=dN.o.tr hc1;have cT:Hid (w1.cell? (A9 w.heap.size 0)=some (A0 od)):=hc1.ah (by simp only[World.cell?,cI.o];rfl);have aL:=A1 (eD.o w1 dH.o);have d2:=e4.o w1 dH.o;have aT:=A1 (dG.o sd aJ.o);have I:=A1 (bL.o sd aJ.o);have aA:=A1 (bB.o sd aJ.o);have O:=A1 (a0.o sd aJ.o);have aO:=A1 (eM.o sd aJ.o);clear X hv1 hc1 dU dE dG dI eD eM bB bL a0 dS dN cI;obtain⟨ps,cB⟩:∃ps,(P.pd A.j.An).1=ps:=⟨_,rfl⟩;obtain⟨pe,cY⟩:∃pe,(P.pd A.j.An).2=pe:=⟨_,rfl⟩;rw[cB]at aL I aA O;rw[cY]at aL I aT;clear cB cY;go_wp2_with (fail);refine aL.m ?_;rintro e w2⟨v2,rfl,aU,cF,aG⟩;by_cases hp:pe=0
 case neg=>
  have hpb:(pe !=0)=true:=by simpa using hp
  have cS:=A1 (aD.o w2 pe (dH.o.tr aG) (aT.o hp));clear aU cF aG aL I aA aO aD aT hp;go_wp2;go_ret;exact⟨by rw[cS.o.1];rfl,cS.o.2⟩
 case pos=>
 subst hp;obtain⟨pl,cJ⟩:∃pl,sd.flatMap (·.2)=pl:=⟨_,rfl⟩;rw[cJ]at I aA O aO;have e6:Hid (A4 Aa w w2):=dH.o.tr aG;have bA:=A1 (cV.o.ak aG);have bX:=A1 (aG.ah cT.o);have bU:=A1 (aO.o w2 _ v1 bA.o);obtain⟨v2a,v2c,rfl,v21,eU,-⟩:=B8 aU;unfold maxLen at eU;have cN:=A1 aU;clear cJ aU cF aG aL aD aT aO cV cT d2;go_wp2_with (fail);refine bU.m ?_;rintro e w3⟨v3,rfl,bF,cZ,bD⟩;obtain⟨cG,cO,rfl,v31,dJ,-⟩:=B8 bF;unfold maxLen at dJ;have bQ:=A1 bF;have dA:=A1 cZ;have b2:=A1 bD;have a3:=A1 (Src.bP GP (Au cN.o λg L=>bD.Al g (Aw cN.o L) (λh=>h)) (Hu ps));have bP:Hid ((pl.length+ps.length)*24<=140737488355328):=by have:=O.o.1;rw[B3]at this;unfold Hid;omega
 clear bF cZ bD bU;go_wp2_with (at_builtin;refine CU rfl (.tmp 35) (.tmp 36) 97 97 rfl 113 i0 _ 3 24 GP hi hz0 hz1 hz2 rfl (by decide) (.slice cG pl.length cO) pl.length (B5 pl) (by rfl) bQ.o _ ps.length _ (by rfl) a3.o bP.o ?_;intro a4 cM w4 hA;have dP:=A1 hA;clear hA);have bW:=dP.o.Am (S:=λk=>(Value.slice cG pl.length cO).oB k) λ_ h=>h;have cC:B1 w4 (.slice a4 (pl.length+ps.length) cM) (pl++ps):=by
  have e:(pl++ps).length=pl.length+ps.length:=by simp
  unfold B1;rw[Ig,e];exact dP.o.AB
 have aN:A4 Aa w2 w4:=b2.o.AH bW λx z dV=>by have:=dA.o x z;omega
 have eX:=A1 (aA.o w4 _ cC);have b8:=A1 (bA.o.ak aN);have cD:=A1 (aN.ah bX.o);have eW:Hid (A4 Aa w w4):=e6.o.tr aN;clear bW cC aN aA bA bX dP a3 bP b2 dA bQ;refine eX.m ?_;rintro e w5⟨v5,vs,rfl,aQ,aW⟩;obtain⟨ws,cH⟩:∃ws,C3 wa (pl++ps)=ws:=⟨_,rfl⟩;rw[cH]at aQ I O;obtain⟨v5a,v5c,rfl,v51,eC,cA,-⟩:=B8 aQ.Bp;unfold maxLen at eC;have aV:=A1 aQ;have e3:=A1 cA;have cL:=A1 (b8.o.ak aW);have b6:=A1 (aW.ah cD.o);have eQ:Hid (A4 Aa w w5):=eW.o.tr aW;have a9:Hid (ws.length<=134217728):=O.o.2;obtain⟨ob,b0⟩:∃ob,w.heap.size=ob:=⟨_,rfl⟩;rw[b0]at b6 ⊢;clear cH aQ cA aW eX b8 cD b0;go_wp2;go_loopw [10,11,41] (λvk vf iv wr=>∃(k:Nat) (kk:gD Int) (ff:gD (gD Pu)),iv=A0 k/\k<=ws.length/\kk.length+ff.length<=k/\Hid (I8 w5 wr w4.heap.size vk vf kk ff/\BX sd od ws=(kk++(BX sd od (ws.drop k)).1,ff++(BX sd od (ws.drop k)).2))) (λ_ _ iv _=>ws.length-(intOf iv).toNat)
 ·exact⟨0,[],[],rfl,by omega,by simp,⟨A4.C _ _,Co _ _ _ _,λg L=>by simp[Value.ownBlock]at L,[],rfl,Co _ _ _ _,λg L=>by simp[Value.ownBlock]at L,λk h1=>by simp at h1,λx z=>by cases z⟩,by simp⟩
 ·obtain⟨k,kk,ff,rfl,hk,bG,hI⟩:=hrel;have⟨i1,i2⟩:=hI.o;obtain⟨ka,kc,rfl,kc1,eL,-⟩:=B8 i1.HV;have⟨fvs,f1,f2,f3,f4,f5⟩:=i1.AV;obtain⟨fa,fc,rfl,fc1,dR,-⟩:=B8 f2;unfold maxLen at eL dR;by_cases aH:k<ws.length
  ·(have aF:k<vs.length:=by have:=aV.o.Be;omega);obtain⟨g,rfl⟩:=e3.o (by omega);have Y:=Bv aV.o.Bp (g:=g) rfl (show vs[k]?=some (vs[k]'aF) from Dz aF);have z:=aV.o.ls k aF aH;have bC:=aV.o.li (vs[k]'aF) (BV aF);have bM:=FK aH;obtain⟨x,bY⟩:∃x,(vs[k]'aF)=x:=⟨_,rfl⟩;obtain⟨l,cE⟩:∃l,(ws[k]'aH)=l:=⟨_,rfl⟩;rw[bY]at Y z bC;rw[cE]at z bM;rw[bM,U0]at i2;obtain⟨xa,xc,rfl,x1,x2,-⟩:=B8 z;have e1:=i1.Am.ah Y;have kA:A4 Aa wr (wr.aC #[.slice xa l.length xc] 97):=(A4.C _ wr).aj _;have aR:A4 Aa w5 (wr.aC #[.slice xa l.length xc] 97):=i1.Am.tr kA;have pA:(wr.aC #[.slice xa l.length xc] 97).heap[wr.heap.size]?=some (.cells #[.slice xa l.length xc] 97 (0,0)):=Bl wr _;have pc:(wr.aC #[.slice xa l.length xc] 97).cell? (A9 wr.heap.size 0)=some (.slice xa l.length xc):=D7 pA;have b3:=A1 (A2M _ _ l (Au z λg L=>aR.Al g (Aw z L) (λh=>h)) ob od (aR.ah b6.o));have aY:=A1 i1;have eS:=A1 i2;have dZ:=A1 f1;have bO:=A1 f2;have eJ:=A1 f3;have dF:=A1 f4;have eN:=A1 f5;have eV:=A1 z;have dO:=A1 bC;have e7:=A1 aR;have bT:=A1 kA;have eZ:=A1 pc;(have dW:(k:Int)<(ws.length:Int):=by omega);have hk0:=BJ k;obtain⟨d,hd⟩:∃d,l.any (λp=>decide (od<=p.2.1))=d:=⟨_,rfl⟩;rw[hd]at b3 eS;clear hI i1 i2 f1 f2 f3 f4 f5 Y z bC bM bY cE kA aR pA hd;cases d with
   | false=>
    (have a2:Hid (BX sd od ws=(kk++(BX sd od (ws.drop (k+1))).1,ff++(BX sd od (ws.drop (k+1))).2)):=by have:=eS.o;rwa [Ai rfl]at this);go_wp2_with (fail);refine b3.k ?_;rintro w6 aB;have eP:=A1 (aY.o.aL (bT.o.tr aB));clear aB b3 pc;go_wp2;go_roundw
    ·exact⟨k+1,kk,ff,by go_num,aH,JO bG,eP.o,a2.o⟩
    ·simp[intOf];omega
   | true=>
    have a2:=A1 eS.o;rw[Af (by simp)]at a2;have⟨gbs,g1,g2,g3,g4⟩:=cL.o;obtain⟨va,vc,rfl,va1,eB,cQ,-⟩:=B8 g2;unfold maxLen at eB;have e2:=A1 cQ;have eI:=A1 g1;have eF:=A1 g2;have eH:=A1 g4;clear cQ g1 g2 g3 g4;go_wp2_with (fail);refine b3.k ?_;rintro w6 aB;have aP:A4 Aa w5 w6:=e7.o.tr aB;have dY:=A1 (A1B w6 _ sd (cL.o.ak aP) wr.heap.size (.slice xa l.length xc) l (aB.ah eZ.o) (Au eV.o λg L=>aP.Al g (Aw eV.o L) (λh=>h)));have b1:Hid (A4 Aa wr w6):=bT.o.tr aB;have eR:=A1 aP;have eA:=A1 (aB.ah eZ.o);clear aB b3 aP pc;go_wp2_with (fail);refine dY.m ?_;rintro e w7⟨(⟨rfl,hf⟩|⟨k2,bZ,rfl,hf⟩),W⟩
    ·rw[hf]at a2;(have eE:Hid (BX sd od ws=(kk++(BX sd od (ws.drop (k+1))).1,(ff++[l])++(BX sd od (ws.drop (k+1))).2)):=by have:=a2.o;unfold Hid;rw[this];simp);have pc7:=W.ah eA.o;have k7:A4 Aa wr (w7.aC #[.slice xa l.length xc] 97):=(b1.o.tr W).aj _;have aS:=A1 (aY.o.aL k7);have a1:=A1 (Au bO.o λg L=>k7.Al g (Aw bO.o L) (λh=>h));have bH:=A1 (Src.bc (size:=1) (B:=w7.heap.size) underlying174 w7 #[.slice xa l.length xc] 97 (by simp) 1 1 rfl (by simp[Value.oneCell']));(have bK:Hid ((ff.length+1)*24<=140737488355328):=by have:=a9.o;unfold Hid;omega);clear hf W k7 dY;go_wp2_with (at_builtin;refine CU rfl (.tmp 54) (.tmp 56) 174 174 rfl 97 s0 _ 1 24 underlying174 X dT eT dK rfl (by decide) (.slice fa ff.length fc) ff.length fvs (by rfl) a1.o _ 1 _ (by rfl) bH.o bK.o ?_;intro a8 dD w8 hA;have a5:=A1 hA;clear hA);have bE:=A1 (aS.o.addF eV.o dO.o fvs dZ.o a1.o eJ.o dF.o eN.o a5.o);go_roundw
     ·exact⟨k+1,kk,ff++[l],by go_num,aH,by rw[B3];exact Qe bG,bE.o,eE.o⟩
     ·simp[intOf];omega
    ·rw[hf]at a2;obtain⟨gv,rfl⟩:=e2.o (by omega);(have aX:k2<gbs.length:=by have:=eI.o;omega);have aE:A4 Aa w5 w7:=eR.o.tr W;have bI:=(eH.o k2 aX bZ).ak aE;have eO:=aE.ah (Bv eF.o (g:=gv) rfl (show (GZ gbs)[k2]?=some (A5 (gbs[k2]'aX)) by simp[GZ,aX]));obtain⟨gb,dC⟩:∃gb,(gbs[k2]'aX)=gb:=⟨_,rfl⟩;rw[dC]at bI eO;obtain⟨sg,b7⟩:∃sg,(sd[k2]'bZ)=sg:=⟨_,rfl⟩;rw[b7]at bI a2;obtain⟨n,sl⟩:=sg;obtain⟨pv,hb,-,-,-⟩:=bI;have c3:=hb.c3;dsimp only at c3;(have eE:Hid (BX sd od ws=((kk++[n])++(BX sd od (ws.drop (k+1))).1,ff++(BX sd od (ws.drop (k+1))).2)):=by have:=a2.o;unfold Hid;rw[this];simp);have k7:A4 Aa wr (w7.aC #[A0 n] 3):=(b1.o.tr W).aj _;have aS:=A1 (aY.o.aL k7);have bH:=A1 (Src.bc (size:=1) (B:=w7.heap.size) Hk w7 #[A0 n] 3 (by simp) 1 1 rfl (Ko [n]));(have bK:Hid ((kk.length+1)*8<=140737488355328):=by have:=a9.o;unfold Hid;omega);(have hk2i:(k2:Int)<(sd.length:Int):=by omega);have hk20:=BJ k2;clear hf W k7 dY hb dC b7 aE;go_wp2_with (at_builtin;refine CU rfl (.tmp 58) (.tmp 66) 26 26 rfl 3 j0 _ 1 8 Hk hj eK dL dX rfl (by decide) (.slice ka kk.length kc) kk.length (E8 kk) (by rfl) aS.o.HV _ 1 _ (by rfl) bH.o bK.o ?_;intro a8 dD w8 hA;have a5:=A1 hA;clear hA);have bE:=A1 (aS.o.gl a5.o);go_roundw
     ·exact⟨k+1,kk++[n],ff,by go_num,aH,by rw[B3,Nat.add_right_comm];exact Qe bG,bE.o,eE.o⟩
     ·simp[intOf];omega
  ·(have dM:k=ws.length:=by omega);subst dM;rw[GX]at i2;(have b4:BX sd od ws=(kk,ff):=by simpa[BX] using i2);rw[b4]at I;(have dW:¬((ws.length:Int)<(ws.length:Int)):=by omega);have e0:=A1 (XY wr _ kk i1.HV (by have:=a9.o;omega));have aY:=A1 i1;have dZ:=A1 f1;have bO:=A1 f2;have eJ:=A1 f3;have dF:=A1 f4;have eN:=A1 f5;clear hI i1 i2 f1 f2 f3 f4 f5 b4;go_wp2_with (fail);refine e0.k ?_;rintro w7⟨bR,W⟩;(have aE:A4 Aa w5 w7:=aY.o.Am.AH W λx z dV=>by have:=aY.o.Kl x z;omega);have cU:A4 Aa w w7:=eQ.o.tr aE
   have eY:=A1 (I.o trivial w7 _ (.slice fa ff.length fc) cU bR (λg L=>AP eQ.o.Ak (aY.o.Kl g L))
    ⟨fvs,dZ.o,Au bO.o λg L=>W.Al g (Aw bO.o L) (λz=>IY bO.o aY.o.HV (by decide) L z),
     λk h1 h2=>Au (dF.o k h1 h2) λg L=>aE.Al g (Aw (dF.o k h1 h2) L) (λh=>h),
     λg L z=>by have:=eJ.o g L;have:=aM.o g z;have:=eQ.o.Ak;omega,
     λx z g L hf=>by have:=eN.o x z g L;have:=aM.o g hf;have:=eW.o.Ak;omega⟩)
   clear bR W aE cU e0 I;go_wp2_with (fail);refine eY.k ?_;rintro w8 hI;have e5:=A1 hI;clear hI eY;go_wp2;go_ret;exact⟨rfl,e5.o⟩
end
end
end Go.Proofs.YtodcnkbblippnaaGreatDoor
