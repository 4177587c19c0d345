/- Part 37 of a proof: walks of the program. -/
import Derived.Test.YtodcnkbblippnabGreatDoorPart36
namespace Go.Proofs.YtodcnkbblippnabGreatDoor
set_option maxRecDepth 100000
set_option maxHeartbeats 32000000
set_option linter.defProp false
open Go.Proofs.Tryz
section
open Go.RowKit
attribute [local go_sem ↓] Cz
def RJ(l:List Pu):(Ba l).length=l.length*3:=by
 induction l with
 | nil=>rfl
 | cons p r ih=>obtain⟨a,b,c⟩:=p;simp only[Ba,BM,ih];omega
def RI:∀(l:List Pu) (k:Nat) (_:k<l.length) (p:Pu),Ba (l.set k p)=(((Ba l).set (k*3) (.int .i64 p.1)).set (k*3+1) (.int .i64 p.2.1)).set (k*3+2) (.int .i64 p.2.2)
 | [],k,h,p=>by simp at h
 | (a,b,c):: r,0,_,p=>by obtain⟨p1,p2,p3⟩:=p;simp[Ba]
 | (a,b,c):: r,k+1,h,p=>by
  have H:=RI r k (by simpa using h) p;have z:(k+1)*3=k*3+1+1+1:=by omega
  simp only[V3,Ba,H,z]
def AZ.bp{w:World}{g n cap:Nat}{l:List Pu}(h:w.ownsRow 0 90 3 (AN g n cap) n (Ba l))(k:Nat)(z:k<l.length)(p:Pu):
 (((w.setCell (Ad g (k*3)) (A0 p.1)).setCell (Ad g (k*3+1)) (A0 p.2.1)).setCell (Ad g (k*3+2)) (A0 p.2.2)).ownsRow 0 90 3 (AN g n cap) n (Ba (l.set k p)):=by
 rw[RI l k z p];exact(((h.stored (k*3) _).1.stored (k*3+1) _).1.stored (k*3+2) _).1
def X7{α:Type}(A C:List α)(x y:α):((A++y::x::C).set (A.length+1) y).set A.length x=A++x::y::C:=by
 have h:(A++y::x::C).set (A.length+1) y=A++y::y::C:=by
  rw[K7 _ _ (by omega)];simp
 rw[h,K7 _ _ (by omega)];simp
def AZ.fH{w:World}{g n cap:Nat}{A C:List Pu}{x y:Pu}(h:w.ownsRow 0 90 3 (.slice (some ⟨g,0,none⟩) n cap) n (Ba (A++y::x::C))):
 (w.cell? ⟨g,A.length*3,none⟩=some (.int .i64 y.1)/\w.cell? ⟨g,A.length*3+1,none⟩=some (.int .i64 y.2.1)/\w.cell? ⟨g,A.length*3+2,none⟩=some (.int .i64 y.2.2))/\
 (w.cell? ⟨g,(A.length+1)*3,none⟩=some (.int .i64 x.1)/\w.cell? ⟨g,(A.length+1)*3+1,none⟩=some (.int .i64 x.2.1)/\w.cell? ⟨g,(A.length+1)*3+2,none⟩=some (.int .i64 x.2.2))/\∀o,w.frozen? ⟨g,o,none⟩=false:=by
 have⟨q1,q2,q3⟩:=He (A++y::x::C) A.length (by simp);have⟨r1,r2,r3⟩:=He (A++y::x::C) (A.length+1) (by simp);have z:(A++y::x::C)[A.length]'(by simp)=y:=by simp
 have H:(A++y::x::C)[A.length+1]'(by simp)=x:=by
  rw[Gl (by omega)];simp
 rw[z]at q1 q2 q3;rw[H]at r1 r2 r3;exact⟨⟨BB h rfl q1,BB h rfl q2,BB h rfl q3⟩,⟨BB h rfl r1,BB h rfl r2,BB h rfl r3⟩,λo=>Ga h rfl o⟩
def A0m{α:Type}{lt:α->α->Bool}(W:BX lt){m:List α}{x:α}{q:Nat}(hm:B3 lt m)(_hq:q<=m.length)(Y:∀y∈m.drop q,lt x y=true)(h2:∀z,(m.take q).getLast?=some z->lt x z=false):
 B3 lt (m.take q++x::m.drop q)/\Bg lt (m++[x]) (m.take q++x::m.drop q):=by
 have I:=DK q m;have hA:B3 lt (m.take q++m.drop q):=by rw[I];exact hm
 have⟨a1,a2,a3⟩:=hA.al;have hx:∀y∈m.take q,lt x y=false:=by
  have O:B3 lt [x]:=MP _ _;have:=W.cD a1 O λz y H h=>by
   simp at h;subst h;exact h2 z H
  exact λy h=>this y h x (by simp)
 refine⟨B3.cB a1 (Di.2 ⟨λy h=>W.cc (Y y h),a2⟩) λy h z H=>?_,?_⟩
 ·rcases BF.1 H with rfl|H
  ·exact hx y h
  ·exact a3 y h z H
 ·have h3:=W.cQ Y;have X:=(Bg.C (lt:=lt) (m.take q)).al h3;rw[<-C6,I]at X;exact X
def To(w:World)(g cap wb:Nat)(len:Int)(l:List Pu)(a b:Nat)(hab:a<b)(hb:b<=l.length)(h:AZ w (AN g l.length cap) l)(hT:∀p∈l,AY p.2.1)(hl:1<=len/\len<=4611686018427387904)(hw:Aa w wb 0 (A0 len))(bH:wb≠g)(_hbig:l.length<=4294967296):
 Aj 193 #[AN g l.length cap,A0 a,A0 b,.func (Fn.func 103) #[] #[A7 wb]] w (Au (.tuple #[]) λw'=>
  ∃m,AZ w' (AN g l.length cap) (l.take a++m++l.drop b)/\m.length=b-a/\Bg (AE len) ((l.take b).drop a) m/\B3 (AE len) m/\A5 (One g) w w'):=by
 have KW:=FY len;obtain⟨n,hn⟩:∃n,l.length=n:=⟨_,rfl⟩;have bY:Hid (w.ownsRow 0 90 3 (AN g n cap) n (Ba l)):=by have:=h;unfold AZ at this;rw[hn]at this;exact this
 rw[hn]at hb ⊢;have aS:n<=cap/\cap<=9223372036854775807:=by
  have⟨a',c',e,h1,h2,_⟩:=Bb bY.o;cases e;unfold maxLen at h2;omega
 obtain⟨hc1,hc2⟩:=aS;have b6:=A4 hT;have cA:=A4 hw;have cF:=A4 hl;have a8:=A4 hn;have bJ:=A4 bH;have eia:wrap64 ((a:Int)+1)=(a:Int)+1:=by unfold wrap64;omega
 go_enter func193,ntmps193
 go_wp2;go_loopw [8] (λiv wr=>∃i:Nat,iv=A0 ((i:Int)+1)/\a<=i/\i+1<=b/\Hid (∃m,wr.ownsRow 0 90 3 (AN g n cap) n (Ba (l.take a++m++l.drop (i+1)))/\m.length=i+1-a/\Bg (AE len) ((l.take (i+1)).drop a) m/\B3 (AE len) m/\A5 (One g) w wr)) (λiv _=>b-(intOf iv).toNat)
 ·refine⟨a,rfl,by omega,by omega,(l.take (a+1)).drop a,?_,?_,Bg.C _,?_,A5.C _ _⟩
  ·have e:l.take a++(l.take (a+1)).drop a++l.drop (a+1)=l:=by
    have:=DK (a+1) l
    conv=>rhs;rw[<-this]
    congr 1
    have h2:=DK a (l.take (a+1));rw[K4]at h2;rw[show min a (a+1)=a by omega]at h2;exact h2
   rw[e];exact bY.o
  ·have:=a8.o;simp;omega
  ·have aT:((l.take (a+1)).drop a).length<=1:=by simp;omega
   match hx:(l.take (a+1)).drop a,aT with
   | [],_=>exact List.Pairwise.nil
   | [x],_=>exact MP _ _
   | x::y::r,hl=>simp at hl
 ·obtain⟨i,rfl,hai,hib,hI⟩:=hrel;have⟨m,i1,i2,i3,i4,i5⟩:=hI.o;by_cases hi1:i+1<b
  ·obtain⟨w1,bC⟩:∃w1,w1=wr:=⟨_,rfl⟩;subst bC;(have aG:i+1<l.length:=by have:=a8.o;omega);have a6:=Fy aG;have a2:=Dz aG;have aX:=BS aG;generalize hx:(l[i+1]'aG)=x at a6 a2 aX;rw[a6]at i1;have b9:=A4 i1;have b7:=A4 i2;have b2:=A4 i3;have cC:=A4 i4;have cD:=A4 i5;have bA:Hid ((l.take (i+1+1)).drop a=(l.take (i+1)).drop a++[x]):=by
    unfold Hid;rw[a2,Ll (by simp;omega)]
   have bQ:=A4 (b6.o x aX);(have aY:Hid ((l.take a).length=a):=by unfold Hid;have:=a8.o;simp;omega);(have bF:(i:Int)+1<(b:Int):=by omega);go_wp2
   have aD:Hid (∀(X:World) (q:Nat),q<=m.length->(∀y∈m.drop q,AE len x y=true)->(∀z,(m.take q).getLast?=some z->AE len x z=false)->X.ownsRow 0 90 3 (AN g n cap) n (Ba ((l.take a++m.take q)++x::(m.drop q++l.drop (i+1+1))))->A5 (One g) w X->
    ∃m',X.ownsRow 0 90 3 (AN g n cap) n (Ba (l.take a++m'++l.drop (i+1+1)))/\m'.length=i+1+1-a/\Bg (AE len) ((l.take (i+1+1)).drop a) m'/\B3 (AE len) m'/\A5 (One g) w X):=λX q hq h1 h2 h3 h4=>by
    have⟨d1,d2⟩:=A0m KW cC.o hq h1 h2;refine⟨m.take q++x::m.drop q,?_,?_,?_,d1,h4⟩
    ·(have e:l.take a++(m.take q++x::m.drop q)++l.drop (i+1+1)=(l.take a++m.take q)++x::(m.drop q++l.drop (i+1+1)):=by simp);rw[e];exact h3
    ·have:=b7.o;simp;omega
    ·rw[bA.o];exact(b2.o.al (Bg.C _)).AJ d2
   go_loopw [9] (λjv wr=>∃j q:Nat,jv=A0 (j:Int)/\j<=i+1/\Hid (j=a+q/\q<=m.length/\wr.ownsRow 0 90 3 (AN g n cap) n (Ba ((l.take a++m.take q)++x::(m.drop q++l.drop (i+1+1))))/\(∀y∈m.drop q,AE len x y=true)/\A5 (One g) w wr)) (λjv _=>(intOf jv).toNat)
   ·refine⟨i+1,m.length,by go_num,Aq _,by have:=b7.o;omega,Aq _,?_,(λy hy=>by rw[Gm]at hy;cases hy),cD.o⟩;rw[Cj,Gm,F7];exact b9.o
   ·obtain⟨j,q,rfl,bL,hJ⟩:=hrel;have⟨j1,j2,j3,j4,j5⟩:=hJ.o;by_cases bI:q=0
    ·subst bI;(have bM:j=a:=by omega);subst bM;have aM:=A4 (λnq=>aD.o (wr.drewN nq) 0 (C8 _) j4 (λz hz=>by simp at hz) (AA j3 λ_ _=>rfl) (j5.bb nq));(have hjj:¬((j:Int)<(j:Int)):=by omega);clear hJ j1 j2 j3 j4 j5 aD;go_wp2;go_quiet (fail);go_wp2;go_roundw
     ·exact⟨i+1,by go_num,by omega,by omega,aM.o _⟩
     ·simp[intOf];omega
    ·obtain⟨q,rfl⟩:∃q',q=q'+1:=⟨q-1,by omega⟩;obtain⟨P,hP⟩:∃P,a+q=P:=⟨_,rfl⟩;(have bW:j=P+1:=by omega);subst bW;(have aA:q<m.length:=by omega);have aB:=Dz aA;have aO:=Fy aA;generalize hy:(m[q]'aA)=y at aB aO;(have aE:∀z,(m.take (q+1)).getLast?=some z->z=y:=λz hz=>by rw[aB]at hz;simpa using hz.symm);have aU:AY y.2.1:=by
      (have bR:y∈m:=by rw[<-hy];exact BS aA);have:=(b2.o.bA.DP KW bR);exact b6.o y (Iv (Lh this))
     (have aJ:(l.take a++m.take q).length=P:=by have:=aY.o;rw[AX,this,BU];omega);(have e0:(l.take a++m.take (q+1))++x::(m.drop (q+1)++l.drop (i+1+1))=(l.take a++m.take q)++y::x::(m.drop (q+1)++l.drop (i+1+1)):=by rw[aB];simp);have aF:=j3;rw[e0]at aF;have⟨⟨y1,y2,y3⟩,⟨x1,x2,x3⟩,fz⟩:=AZ.fH aF;rw[aJ]at y1 y2 y3 x1 x2 x3;have a0:=A4 (λX bK=>Ms X wb len x y bQ.o aU cF.o bK);have bU:=A1I len x y;have aN:=Mr (len:=len) (p:=x) (q:=y);generalize bT:GP len x y=cc at a0 bU aN;have aH:=j5.bB cA.o (λe=>bJ.o e);have b1:=A4 j3;have aZ:=A4 aF;have b5:=A4 j4;have b0:=A4 j5;have a3:=A4 aO;have HTQ:=A4 aB;have aK:=A4 aE;have Y:=A4 aJ;have cE:=A4 hP;have aW:=A4 aA;have bO:=A4 bL;have a5:=A4 aN;(have hPn:(P:Int)+1<(n:Int):=by omega);(have hPn2:(P:Int)<(n:Int):=by omega);have hP0:=Cd P;(have hPa:(a:Int)<(P:Int)+1:=by omega);(have pk:(0:Int)<=(P:Int)+1:=by omega);have bG:IntKind.i64.wrap (P:Int)=P:=GN (by omega);(have ew1:IntKind.i64.wrap ((P:Int)+1-1)=P:=by rw[Jg];exact bG);(have ew2:wrap64 ((P:Int)+1-1)=P:=by unfold wrap64;omega);(have ew3:wrap64 (P:Int)=P:=by unfold wrap64;omega);have tk:=EA (P+1);obtain⟨xa,H,xc⟩:=x;obtain⟨O,W,I⟩:=y;dsimp only at y1 y2 y3 x1 x2 x3;unfold DB at a0;dsimp only at a0;have a7:Hid (∀X,A5 Ab wr X->Aa X g (P*3) (A0 O)/\Aa X g (P*3+1) (A0 W)/\Aa X g (P*3+2) (A0 I)/\Aa X g ((P+1)*3) (A0 xa)/\Aa X g ((P+1)*3+1) (A0 H)/\Aa X g ((P+1)*3+2) (A0 xc)):=λX hx=>
      ⟨hx.an y1,hx.an y2,hx.an y3,hx.an x1,hx.an x2,hx.an x3⟩
     have bZ:=a7.o wr.drew (A5.C _ wr).ad;have aQ:=A4 (a0.o wr.drew aH);clear hJ j1 j2 j3 aF j4 j5 aB aO aE aJ hP aN aU hy bT e0 a0 aH aA fz;by_cases aR:cc<0
     ·(have bS:¬(0<=cc):=by omega);go_wp2;refine Ce (λw'=>Aa w' g (P*3) (A0 O)/\Aa w' g (P*3+1) (A0 W)/\Aa w' g (P*3+2) (A0 I)/\Aa w' g ((P+1)*3) (A0 xa)/\Aa w' g ((P+1)*3+1) (A0 H)/\Aa w' g ((P+1)*3+2) (A0 xc)) 16
       (BD [0,1,2,3,4,5,6,7,8,9,10,11,12,13,14,15] [14]) bZ ?_
      iterate 14 refine Bq ?_
      refine By λK hK=>?_;go_simp;refine aQ.k ?_;rintro w6 aL;have k6:=((A5.C Ab wr).ad).tr aL;refine hK _ _ (a7.o w6 k6) (λhS=>?_);have b3:=A4 k6;have b8:=a7.o w6 k6;refine Bq ?_;refine Cc ?_;obtain⟨y1,y2,y3,x1,x2,x3⟩:=b8;have bX:Hid (w6.ownsRow 0 90 3 (AN g n cap) n (Ba ((l.take a++m.take q)++(O,W,I):: (xa,H,xc):: (m.drop (q+1)++l.drop (i+1+1))))):=AA aZ.o λg' hg=>b3.o.Ao g' (AG aZ.o hg) (λh=>h);have fz:∀o,w6.frozen? (Ad g o)=false:=λo=>Ga bX.o rfl o;go_wp2;refine Ls 15 (λw'=>Aa w' g (P*3) (A0 O)/\Aa w' g (P*3+1) (A0 W)/\Aa w' g (P*3+2) (A0 I)/\Aa w' g ((P+1)*3) (A0 xa)/\Aa w' g ((P+1)*3+1) (A0 H)/\Aa w' g ((P+1)*3+2) (A0 xc)) 16
       [(0,1),(1,1),(5,1),(6,1),(7,1),(8,1),(9,1),(10,2),(11,2),(12,2),(13,1),(14,1),(2,2),(3,2),(4,2),(15,0)] ⟨y1,y2,y3,x1,x2,x3⟩ ?_
      iterate 7 refine I0 ?_
      iterate 3 refine I1 ?_
      iterate 2 refine I0 ?_
      iterate 3 refine I1 ?_
      refine Lu λK hK=>?_;go_simp;refine hK _ _ ?_;refine Lt ?_;have e1:((l.take a++m.take q)++(O,W,I):: (xa,H,xc):: (m.drop (q+1)++l.drop (i+1+1))).length=((l.take a++m.take q)++(O,W,I):: (xa,H,xc):: (m.drop (q+1)++l.drop (i+1+1))).length:=rfl;have aP:=AZ.bp bX.o (P+1) (by have:=Y.o;rw[AX,Y.o];simp) (O,W,I);have bP:=AZ.bp aP P (by have:=Y.o;rw[J9,AX,Y.o];simp) (xa,H,xc);have a1:=X7 (l.take a++m.take q) (m.drop (q+1)++l.drop (i+1+1)) (xa,H,xc) (O,W,I);rw[Y.o]at a1;rw[a1]at bP;have aI:∀hh,(((l.take a++m.take q)++(O,W,I):: (xa,H,xc):: (m.drop (q+1)++l.drop (i+1+1))).set (P+1) (O,W,I))[P]'hh=(O,W,I):=λhh=>by
       rw[A20 (by omega)];rw[Gl (by rw[Y.o];exact Aq _)];simp[Y.o]
      have⟨p1,p2,p3⟩:=He _ P (show P<(((l.take a++m.take q)++(O,W,I):: (xa,H,xc):: (m.drop (q+1)++l.drop (i+1+1))).set (P+1) (O,W,I)).length by rw[J9,AX,Y.o];simp);rw[aI]at p1 p2 p3;have z1:=BB aP rfl p1;have z2:=BB aP rfl p2;have z3:=BB aP rfl p3;dsimp only at aP bP z1 z2 z3;have bE:=A4 bP;have bV:∀o,((((w6.setCell (Ad g ((P+1)*3)) (A0 O)).setCell (Ad g ((P+1)*3+1)) (A0 W)).setCell (Ad g ((P+1)*3+2)) (A0 I))).drew.frozen? (Ad g o)=false:=λo=>Ga aP rfl o;have b4:Hid (A5 (One g) wr (((((((w6.setCell (Ad g ((P+1)*3)) (A0 O)).setCell (Ad g ((P+1)*3+1)) (A0 W)).setCell (Ad g ((P+1)*3+2)) (A0 I)).drew.setCell (Ad g (P*3)) (A0 xa)).setCell (Ad g (P*3+1)) (A0 H)).setCell (Ad g (P*3+2)) (A0 xc)))):=
       ((((((b3.o.aZ (S:=One g)).ao (b:=g) rfl _ _).ao (b:=g) rfl _ _).ao (b:=g) rfl _ _).ad.ao (b:=g) rfl _ _).ao (b:=g) rfl _ _).ao (b:=g) rfl _ _
      have a4:Hid ((((((((w6.setCell (Ad g ((P+1)*3)) (A0 O)).setCell (Ad g ((P+1)*3+1)) (A0 W)).setCell (Ad g ((P+1)*3+2)) (A0 I)).drew.setCell (Ad g (P*3)) (A0 xa)).setCell (Ad g (P*3+1)) (A0 H)).setCell (Ad g (P*3+2)) (A0 xc))).ownsRow 0 90 3 (AN g n cap) n (Ba ((l.take a++m.take q)++(xa,H,xc):: (O,W,I):: (m.drop (q+1)++l.drop (i+1+1))))):=AA bE.o λ_ _=>rfl;have bD:((((w6.setCell (Ad g ((P+1)*3)) (A0 O)).setCell (Ad g ((P+1)*3+1)) (A0 W)).setCell (Ad g ((P+1)*3+2)) (A0 I))).drew.cell? (Ad g (P*3))=some (A0 O):=z1;have bN:((((w6.setCell (Ad g ((P+1)*3)) (A0 O)).setCell (Ad g ((P+1)*3+1)) (A0 W)).setCell (Ad g ((P+1)*3+2)) (A0 I))).drew.cell? (Ad g (P*3+1))=some (A0 W):=z2;have a9:((((w6.setCell (Ad g ((P+1)*3)) (A0 O)).setCell (Ad g ((P+1)*3+1)) (A0 W)).setCell (Ad g ((P+1)*3+2)) (A0 I))).drew.cell? (Ad g (P*3+2))=some (A0 I):=z3;generalize (((w6.setCell (Ad g ((P+1)*3)) (A0 O)).setCell (Ad g ((P+1)*3+1)) (A0 W)).setCell (Ad g ((P+1)*3+2)) (A0 I)).drew=w7 at bV b4 a4 bD bN a9 ⊢;go_wp2;go_roundw
      ·refine⟨P,q,rfl,ES bO.o,cE.o.symm,ES aW.o,?_,?_,?_⟩
       ·(have e2:(l.take a++m.take q)++(xa,H,xc):: (m.drop q++l.drop (i+1+1))=(l.take a++m.take q)++(xa,H,xc):: (O,W,I):: (m.drop (q+1)++l.drop (i+1+1)):=by rw[a3.o];rfl);rw[e2];exact AA a4.o λ_ _=>rfl
       ·intro z hz;rw[a3.o]at hz;rcases BF.1 hz with rfl|hz
        ·exact a5.o.1 aR
        ·exact b5.o z hz
       ·exact b0.o.tr b4.o
      ·simp[intOf]
     ·(have bS:0<=cc:=by omega);have aM:Hid (∀X,A5 Ab wr X->∃m',X.ownsRow 0 90 3 (AN g n cap) n (Ba (l.take a++m'++l.drop (i+1+1)))/\m'.length=i+1+1-a/\Bg (AE len) ((l.take (i+1+1)).drop a) m'/\B3 (AE len) m'/\A5 (One g) w X):=λX hx=>
       aD.o X (q+1) aW.o b5.o (λz hz=>by
        rw[aK.o z hz];cases hk:AE len (xa,H,xc) (O,W,I) with
        | false=>rfl
        | true=>exact absurd (a5.o.2 hk) aR) (AA b1.o λg' hg=>hx.Ao g' (AG b1.o hg) (λh=>h)) (b0.o.b0 hx)
      go_wp2;refine Ce (λw'=>Aa w' g (P*3) (A0 O)/\Aa w' g (P*3+1) (A0 W)/\Aa w' g (P*3+2) (A0 I)/\Aa w' g ((P+1)*3) (A0 xa)/\Aa w' g ((P+1)*3+1) (A0 H)/\Aa w' g ((P+1)*3+2) (A0 xc)) 16
       (BD [0,1,2,3,4,5,6,7,8,9,10,11,12,13,14,15] [14]) bZ ?_
      iterate 14 refine Bq ?_
      refine By λK hK=>?_;go_simp;refine aQ.k ?_;rintro w6 aL;have k6:=((A5.C Ab wr).ad).tr aL;refine hK _ _ (a7.o w6 k6) (λhS=>?_);have aV:=A4 (aM.o w6 k6);refine Bq ?_;refine Cc ?_;go_wp2;go_roundw
      ·exact⟨i+1,by go_num,by omega,by omega,aV.o⟩
      ·simp[intOf];omega
  ·(have bB:i+1=b:=by omega);subst bB;have cB:=A4 hI.o;(have bF:¬((i:Int)+1<((i+1:Nat):Int)):=by omega);go_wp2;go_end0;have⟨m',q1,q2,q3,q4,q5⟩:=cB.o;refine⟨rfl,m',?_,q2,q3,q4,q5⟩;unfold AZ;rw[C6]at q1
   try rw[C6]
   (have e:(l.take a++(m'++l.drop (i+1))).length=n:=by have:=a8.o;simp;omega);rw[e];exact q1
def FN(N:Nat):Prop:=∀(w:World) (v:Value) (wb:Nat) (len:Int) (l:List Pu),l.length<=N->AZ w v l->(∀p∈l,AY p.2.1)->(1<=len/\len<=4611686018427387904)->w.cell? ⟨wb,0,none⟩=some (.int .i64 len)->(∀g,v.ownBlock=some g->wb≠g)->
 Calls Tryz.prog 102 #[v,.func (Fn.func 103) #[] #[.pointer (some ⟨wb,0,none⟩)]] w λe w'=>e=.returned (.tuple #[])/\AZ w' v (E8 (AE len) l)/\A5 (λk=>v.ownBlock=some k) w w'
def QB{α:Type}{lt:α->α->Bool}(l:List α):(E8 lt l).length=l.length:=by
 have ins:∀(x:α) (s:List α),(EZ lt x s).length=s.length+1:=by
  intro x s
  induction s with
  | nil=>rfl
  | cons y r ih=>unfold EZ;split<;>simp[ih]
 have key:∀(l s:List α),(l.foldl (λs x=>EZ lt x s) s).length=s.length+l.length:=by
  intro l
  induction l with
  | nil=>intro s;simp
  | cons x r ih=>intro s;rw[Pp,ih,ins];simp;omega
 have:=key l [];simpa[E8] using this
def Tn(w:World)(v c:Value)(a b:Nat)(ha:b<=a+1)(hb:a<=4294967296):
 Aj 193 #[v,A0 a,A0 b,c] w (Au (.tuple #[]) λw'=>w=w'):=by
 have eia:wrap64 ((a:Int)+1)=(a:Int)+1:=by unfold wrap64;omega
 go_enter func193,ntmps193
 go_wp2;refine IB 1 ?_;rw[G8];go_wp2;go_end0;exact⟨rfl,rfl⟩
def WR(w:World)(v:Value)(wb:Nat)(len:Int)(l:List Pu)(hn:l.length<=19)(h:AZ w v l)(X:∀p∈l,AY p.2.1)(hl:1<=len/\len<=4611686018427387904)(hw:Aa w wb 0 (A0 len))(z:∀g,v.ownBlock=some g->wb≠g):
 Aj 146 #[v,A0 l.length,.func (Fn.func 103) #[] #[A7 wb]] w (Au (.tuple #[]) λw'=>AZ w' v (E8 (AE len) l)/\A5 (λk=>v.ownBlock=some k) w w'):=by
 have H:Hid (Aj 193 #[v,A0 ((0:Nat):Int),A0 l.length,.func (Fn.func 103) #[] #[A7 wb]] w (Au (.tuple #[]) λw'=>AZ w' v (E8 (AE len) l)/\A5 (λk=>v.oB k) w w')):=by
  by_cases I:l.length=0
  ·have e:l=[]:=G4.1 I;subst e;refine(Tn w v _ 0 0 (by omega) (by omega)).k ?_;rintro w' rfl;exact⟨rfl,h,A5.C _ _⟩
  ·obtain⟨av,cap,rfl,h1,h2,h3,-,-⟩:=Bb h;obtain⟨g,rfl⟩:=h3 (by omega);refine(To w g cap wb len l 0 l.length (by omega) (Aq _) h X hl hw (z g rfl) (by omega)).k ?_;rintro w'⟨m,Y,q2,q3,q4,q5⟩;have e1:m=E8 (AE len) l:=(FY len).ek q4 (by simpa using q3);refine⟨rfl,?_,q5.ae λk _ O=>by have e:k=g:=O;subst e;rfl⟩;rw[<-e1];have:=Y;simp only[EL,F7,Gm,Fz]at this;exact this
 rw[show ((0:Nat):Int)=0 from rfl]at H;have h20:¬((20:Int)<=(l.length:Int)):=by omega
 go_enter func146,ntmps146
 go_wp2;refine IB 1 ?_;rw[G8];go_wp2_with (fail);refine H.k ?_;rintro w2⟨hp,hc⟩;have W:=A4 hp;have aA:=A4 hc;go_wp2;refine IB 1 ?_;rw[G8];go_wp2;go_end0;exact⟨rfl,W.o,aA.o⟩
end
section
open Go.RowKit
structure DM (w:World) (B0:Nat) (v:Value) (vs:List Value) (ws:List (List Pu)):Prop where
 Bx:w.ownsRow 0 72 1 v ws.length vs
 ls:∀(k:Nat) (h1:k<vs.length) (h2:k<ws.length),AZ w (vs[k]'h1) (ws[k]'h2)
 lo:∀g,v.ownBlock=some g->B0<=g
 li:∀x∈vs,∀g,x.ownBlock=some g->B0<=g
 J0:vs.Pairwise λx y=>∀g,x.ownBlock=some g->¬y.ownBlock=some g
section
variable{w w':World}{B0:Nat}{v:Value}{vs:List Value}{ws:List (List Pu)}
def DM.Bi(h:DM w B0 v vs ws):vs.length=ws.length:=by have:=h.Bx.1;omega
def DM.b4(w:World)(B0:Nat):DM w B0 (.slice none 0 0) [] []:=
 ⟨CL _ _ _ _,λk h=>by simp at h,λg z=>by simp[Value.ownBlock]at z,λx H=>by simp at H,List.Pairwise.nil⟩
def DM.ak{S:Nat->Prop}(h:DM w B0 v vs ws)(X:A5 S w w')(W:∀k,S k->k<B0):DM w' B0 v vs ws:=
 ⟨AA h.Bx λg z=>X.Ao g (AG h.Bx z) λI=>by have:=W g I;have:=h.lo g z;omega,
  λk H O=>AA (h.ls k H O) λg z=>X.Ao g (AG (h.ls k H O) z) λI=>by have:=W g I;have:=h.li _ (BS H) g z;omega,h.lo,h.li,h.J0⟩
def DM.aP(h:DM w B0 v vs ws)(z:A5 Ab w w'):DM w' B0 v vs ws:=h.ak z λ_ h=>h.elim
def DM.lt(h:DM w B0 v vs ws){x:Value}(I:x∈vs){g:Nat}(H:x.ownBlock=some g):g<w.heap.size:=by
 obtain⟨k,z,rfl⟩:=Ee I;exact AG (h.ls k z (by have:=h.Bi;omega)) H
def DM.ne(h:DM w B0 v vs ws){x:Value}(I:x∈vs){g:Nat}(H:x.ownBlock=some g):¬v.ownBlock=some g:=by
 obtain⟨k,z,rfl⟩:=Ee I;exact Im (h.ls k z (by have:=h.Bi;omega)) h.Bx (by decide) H
def DM.cj{X:Value}(h:DM w B0 v vs ws)(W:App w w' 72 1 v X (ws.length+1) (vs++[.slice none 0 0]))(hB:B0<=w.heap.size):DM w' B0 X (vs++[.slice none 0 0]) (ws++[[]]):=by
 have hc:=W.An (S:=λk=>v.ownBlock=some k) λ_ h=>h;have hl:=h.Bi;refine⟨?_,λk H Y=>?_,λg z=>?_,λx I g z=>?_,?_⟩
 ·have e:(ws++[[]]).length=ws.length+1:=by simp
  rw[e];exact W.AP
 ·by_cases O:k<ws.length
  ·rw[F9 (show k<vs.length by omega),F9 O];exact AA (h.ls k (by omega) O) λg z=>hc.Ao g (AG (h.ls k (by omega) O) z) (h.ne (BS (by omega)) z)
  ·have e1:(vs++[Value.slice none 0 0])[k]'H=.slice none 0 0:=by
    (have:k=vs.length:=by simp at H;omega);subst this;simp
   have e2:(ws++[[]])[k]'Y=[]:=by
    (have:k=ws.length:=by simp at Y;omega);subst this;simp
   rw[e1,e2];exact CL _ _ _ _
 ·rcases W.Cu with H|H
  ·rw[H]at z;exact h.lo g z
  ·rw[H]at z;cases z;exact hB
 ·rcases AU.1 I with I|I
  ·exact h.li x I g z
  ·simp at I;subst I;simp[Value.ownBlock]at z
 ·exact Eu.2 ⟨h.J0,MP _ _,λx _ y hy g _ z=>by simp at hy;subst hy;simp[Value.ownBlock]at z⟩
def DM.e8{z:List (List Pu)}{H:List Value}{lv:Value}{l l':List Pu}(h:DM w B0 v (H++[lv]) (z++[l]))(hc:A5 (λk=>lv.ownBlock=some k) w w')(hl:AZ w' lv l'):DM w' B0 v (H++[lv]) (z++[l']):=by
 have O:=h.Bi;have hln:H.length=z.length:=by simpa using O
 refine⟨?_,λk h1 h2=>?_,h.lo,h.li,h.J0⟩
 ·have e:(z++[l']).length=(z++[l]).length:=by simp
  rw[e];exact AA h.Bx λg I=>hc.Ao g (AG h.Bx I) λhx=>h.ne (x:=lv) (by simp) hx I
 ·by_cases hk:k<z.length
  ·(have X:k<(z++[l]).length:=by simp;omega);have Y:=h.ls k h1 X;rw[F9 hk]at Y ⊢;refine AA Y λg I=>hc.Ao g (AG Y I) λhx=>?_;rw[F9 (show k<H.length by omega)]at I;exact(Eu.1 h.J0).2.2 _ (BS (show k<H.length by omega)) lv (by simp) g I hx
  ·(have W:k=z.length:=by simp at h2;omega);(have e2:(z++[l'])[k]'h2=l':=by subst W;simp);have e1:(H++[lv])[k]'h1=lv:=by
    (have:k=H.length:=by omega);subst this;simp
   rw[e1,e2];exact hl
def DM.eW{X n0 W:Nat}{H:List (List Pu)}{z:List Value}{lv lv':Value}{l l':List Pu}(h:DM w B0 (.slice (some ⟨X,0,none⟩) n0 W) (z++[lv]) (H++[l]))(hc:A5 (λk=>lv.ownBlock=some k) w w')(hl:AZ w' lv' l')(ho:∀g,lv'.ownBlock=some g->lv.ownBlock=some g\/w.heap.size<=g)(hB:B0<=w.heap.size):
 DM (w'.setCell ⟨X,z.length,none⟩ lv') B0 (.slice (some ⟨X,0,none⟩) n0 W) (z++[lv']) (H++[l']):=by
 have aB:=h.Bi;have hln:z.length=H.length:=by simpa using aB
 have aJ:n0=(H++[l]).length:=by
  have⟨a',c',e,_⟩:=Bb h.Bx;cases e;rfl
 subst aJ;have hg0:=AG h.Bx rfl;have Y:=AA h.Bx λg I=>hc.Ao g (AG h.Bx I) λO=>h.ne (x:=lv) (by simp) O I;have aK:∀g,lv'.ownBlock=some g->g≠X:=λg I e=>by
  subst e;exact Im hl Y (by decide) I rfl
 have kz:A5 (One X) w' (w'.setCell ⟨X,z.length,none⟩ lv'):=(A5.C (One X) w').ao (b:=X) rfl _ _;have aA:=(Y.stored z.length lv').1;have aD:(z++[lv]).set z.length lv'=z++[lv']:=by rw[K7 _ _ (Aq _)];simp
 rw[aD]at aA;refine⟨?_,λk h1 h2=>?_,h.lo,λx O g I=>?_,?_⟩
 ·have e:(H++[l']).length=(H++[l]).length:=by simp
  rw[e];exact aA
 ·by_cases hk:k<H.length
  ·(have aI:k<(z++[lv]).length:=by simp;omega);(have aH:k<(H++[l]).length:=by simp;omega);have h3:=h.ls k aI aH;rw[F9 hk,F9 (show k<z.length by omega)]at h3 ⊢;have aE:z[k]'(by omega)∈z++[lv]:=AU.2 (.inl (BS (by omega)));refine AA h3 λg I=>?_;have b1:=hc.Ao g (AG h3 I) λO=>(Eu.1 h.J0).2.2 _ (BS (show k<z.length by omega)) lv (by simp) g I O
   have b2:=kz.Ao g (Bm (AG h3 I) hc.Am) λe=>h.ne aE I (by have e':=e;subst e';rfl);rw[b2,b1]
  ·(have aF:k=H.length:=by simp at h2;omega);(have e2:(H++[l'])[k]'h2=l':=by subst aF;simp);have e1:(z++[lv'])[k]'h1=lv':=by
    (have:k=z.length:=by omega);subst this;simp
   rw[e1,e2];exact AA hl λg I=>kz.Ao g (AG hl I) (aK g I)
 ·rcases AU.1 O with O|O
  ·exact h.li x (AU.2 (.inl O)) g I
  ·simp at O;subst O;rcases ho g I with h1|h1
   ·exact h.li lv (by simp) g h1
   ·omega
 ·have⟨d1,d2,d3⟩:=Eu.1 h.J0;refine Eu.2 ⟨d1,MP _ _,λx O y hy g I aG=>?_⟩;simp at hy;subst hy;rcases ho g aG with h1|h1
  ·exact d3 x O lv (by simp) g I h1
  ·have:=h.lt (AU.2 (.inl O)) I;omega
end
def Vx(len:Int)(l:List Pu)(i:Nat)(z:i<l.length)(first:Bool)(h:Pu)(ws:List (List Pu)):
 Ej len (l.drop i) first h ws=Ej len (l.drop (i+1)) false (l[i]'z) (EC len ws first h (l[i]'z)):=by
 rw[Fy z];rfl
def GJ(h:List (List Pu))(last:List Pu)(p:Pu):List (List Pu):=
 if last≠[]/\Cq p (last.getLastD (0,0,0))=0 then h++[last.dropLast++[p]] else h++[last++[p]]
def PX(len:Int)(ws:List (List Pu))(first:Bool)(z p:Pu)(h:first=true\/BH p.2.1 len≠BH z.2.1 len):EC len ws first z p=GJ ws [] p:=by
 unfold EC GJ;dsimp only
 rw[Ah h];simp
def Vz(len:Int)(z:List (List Pu))(l:List Pu)(H p:Pu)(h:BH p.2.1 len=BH H.2.1 len):EC len (z++[l]) false H p=GJ z l p:=by
 have e:(if (false=true\/BH p.2.1 len≠BH H.2.1 len) then (z++[l])++[[]] else z++[l])=z++[l]:=Ae (by simp[h]);have I:(z++[l]).getLastD []=l:=by rw[Ka];simp
 have O:(z++[l]).dropLast=z:=by simp
 unfold EC GJ;simp only[e,I,O]
end
end Go.Proofs.YtodcnkbblippnabGreatDoor
