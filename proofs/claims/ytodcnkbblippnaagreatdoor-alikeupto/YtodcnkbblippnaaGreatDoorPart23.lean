/- Part 23 of a proof: walks of the program. -/
import Derived.Test.YtodcnkbblippnaaGreatDoorPart22
namespace Go.Proofs.YtodcnkbblippnaaGreatDoor
set_option maxRecDepth 100000
set_option maxHeartbeats 32000000
set_option linter.defProp false
open Go.Proofs.Tryz
section
open Go.ChangeAt Go.ChangeShapes Go.RowKit Go.WideShapes
def Tryz.fx:Tryz.prog.cellsOf 26=1:=by kernel_rfl
section
variable {H:Type} {enc:TypeId×Value->H} {W:World} {sp:Nat->Bool} {aA:Nat}
def Qv{c:Value}{x:DataW H×List MemPlace}(h:DataW.trod enc Tryz.prog W 0 sp true aA 26 [c]=some x):Iv W.heap.size W c:=by
 rcases Deep.open_slice underlying26 h with⟨I,-⟩|⟨a,len,cap,m,n,E,Pl,I,-,hlc,Y,hm,-,X⟩
 ·obtain rfl:c=.slice none 0 0:=(Jo I).1;exact Iv.bT _ _ ⟨none,0,rfl,by simp,λj O=>by simp at O⟩
 ·obtain rfl:c=.slice (some a) len cap:=(Jo I).1;rw[Tryz.ew]at X;by_cases h0:len=0
  ·subst h0;exact⟨[],⟨some a,cap,rfl,by simp,λj O=>by simp at O⟩,by simp,λad n c x hn e _=>absurd (by cases e;rfl) hn⟩
  ·have key:∀i,i<len->∃k,W.cell? (a.add (i*1))=some (.int .i64 k)/\AN k:=λi L=>by
    obtain⟨aB,hc,ht⟩:=X i (by rw[hm];split<;>omega);obtain⟨k,e1,-,w1⟩:=Ng underlying3 ht;obtain⟨hl,-,z⟩:=World.cells?_some hc;obtain rfl:aB=[.int .i64 k]:=e1;have:=z 0 (by decide);exact⟨k,by simpa[Addr.add] using this,Jt w1⟩
   obtain⟨g,o,spot⟩:=a;obtain⟨k0,d,-⟩:=key 0 (by omega);have aD:spot=none:=by
    cases spot with
    | none=>rfl
    | some s=>
     simp[Addr.add,World.cell?]at d;split at d<;>cases d
   subst aD;have hg:g<W.heap.size:=by
    have:=GN W _ d;simpa[Addr.add] using this
   have ha:∀i,(⟨g,o,none⟩:Addr).add (i*1)=⟨g,o+i,none⟩:=λi=>by
    unfold Addr.add;by_cases h1:i=0<;>simp[h1]
   obtain⟨f,hf⟩:∃f:Nat->Int,∀i,i<len->W.cell? ⟨g,o+i,none⟩=some (.int .i64 (f i))/\AN (f i):=by
    refine⟨λi=>if L:i<len then (key i L).choose else 0,λi L=>?_⟩;have h2:=(key i L).choose_spec;simp only[L,P4];exact⟨by rw[<-ha];exact h2.1,h2.2⟩
   (have hl:((List.range len).map f).length=len:=by simp);refine⟨(List.range len).map f,⟨some ⟨g,o,none⟩,cap,by rw[hl],by rw[hl];unfold maxLen at Y;omega,λj O=>⟨g,o,rfl,hg,?_⟩⟩,λt ht=>?_,λad n c x _ e1 e2=>by cases e1;cases e2;exact hg⟩
   ·rw[hl]at O;simpa using(hf j O).1
   ·obtain⟨i,L,rfl⟩:=Ct.1 ht;exact(hf i (Lt.1 L)).2
end
def Tryz.et:Tryz.prog.cellsOf 72=5:=by kernel_rfl
section
variable {H:Type} {enc:TypeId×Value->H} {W:World} {sp:Nat->Bool} {aA:Nat}
def Si{I:List Value}{x:DataW H×List MemPlace}(h:DataW.trod enc Tryz.prog W 0 sp true aA 72 I=some x):
 ∃z a b c O,I=[.int .i64 z,.int .i64 a,.int .i64 b,.int .i64 c,O]/\AN a/\AN b/\AN c/\6<=Rows.uptoBulk x.1/\Iv W.heap.size W O:=by
 obtain⟨xs,n,rfl,L,X,hx,E⟩:=DataW.trod_struct underlying72 h;rw[Tryz.et]at X;have hx5:xs.length=5:=hx;have d:6<=Rows.uptoBulk x.1:=by
  have h5:=Un (xs.map (·.1));rw[F9]at h5;rw[L];simp only[Rows.uptoBulk];omega
 match I,X with
 | [c0,c1,c2,c3,c4],_=>
 have f0:DataW.trod enc Tryz.prog W 0 sp true n 3 (([c0,c1,c2,c3,c4].drop 0).take (Tryz.prog.cellsOf 3))=xs[0]?:=E 0 _ rfl;have f1:DataW.trod enc Tryz.prog W 0 sp true n 3 (([c0,c1,c2,c3,c4].drop 1).take (Tryz.prog.cellsOf 3))=xs[1]?:=E 1 _ rfl;have f2:DataW.trod enc Tryz.prog W 0 sp true n 3 (([c0,c1,c2,c3,c4].drop 2).take (Tryz.prog.cellsOf 3))=xs[2]?:=E 2 _ rfl;have f3:DataW.trod enc Tryz.prog W 0 sp true n 3 (([c0,c1,c2,c3,c4].drop 3).take (Tryz.prog.cellsOf 3))=xs[3]?:=E 3 _ rfl;have f4:DataW.trod enc Tryz.prog W 0 sp true n 26 (([c0,c1,c2,c3,c4].drop 4).take (Tryz.prog.cellsOf 26))=xs[4]?:=E 4 _ rfl;rw[Tryz.fx]at f4;rw[Tryz.ew]at f0 f1 f2 f3;rw[E2 (by omega)]at f0 f1 f2 f3 f4;obtain⟨z,e0,-,-⟩:=Ng underlying3 f0;obtain⟨a,e1,-,Y⟩:=Ng underlying3 f1;obtain⟨b,e2,-,w2⟩:=Ng underlying3 f2;obtain⟨c,e3,-,w3⟩:=Ng underlying3 f3;obtain rfl:c0=.int .i64 z:=(Jo (show [c0]=[.int .i64 z] from e0)).1;obtain rfl:c1=.int .i64 a:=(Jo (show [c1]=[.int .i64 a] from e1)).1;obtain rfl:c2=.int .i64 b:=(Jo (show [c2]=[.int .i64 b] from e2)).1;obtain rfl:c3=.int .i64 c:=(Jo (show [c3]=[.int .i64 c] from e3)).1;exact⟨z,a,b,c,c4,rfl,Jt Y,Jt w2,Jt w3,d,Qv f4⟩
def Xf{v:Value}{d:DataW H}{ps:List MemPlace}(hv:∃a len cap,v=.slice a len cap)(h:DataW.Trod enc Tryz.prog W 0 (λ_=>true) true 55 v d ps)(hd:Rows.uptoBulk d<=1048576):
 ∃g o n cap,UQ W g o n/\(n<=180000/\6*n<=Rows.uptoBulk d)/\(n≠0->g<W.heap.size)/\(v=.slice (some ⟨g,o,none⟩) n cap\/(n=0/\∃x,v=.slice x 0 cap)):=by
 obtain⟨ad,O,cp,rfl⟩:=hv;obtain⟨aA,h⟩:=h;rcases Deep.open_slice underlying55 h with⟨L,-⟩|⟨a,len,cap,m,n,E,Pl,L,-,hlc,-,hm,hx,aB⟩
 ·simp[Value.cells]at L;obtain⟨rfl,rfl,rfl⟩:=L;exact⟨0,0,0,0,λi X=>absurd X (MT _),⟨by decide,Cf _⟩,λh=>absurd rfl h,.inr ⟨rfl,none,rfl⟩⟩
 ·simp[Value.cells]at L;obtain⟨rfl,rfl,rfl⟩:=L;rw[Tryz.et]at aB;have aE:O<=180000/\6*O<=Rows.uptoBulk d:=by
   have e:d=.slice ((List.range O).map E) ((List.range (m-O)).map λj=>E (O+j)):=Ei Prod.fst hx;rw[e]at hd ⊢;simp only[Rows.uptoBulk]at hd ⊢;have:=A2a ((List.range O).map E) λx hx=>by
    obtain⟨i,X,rfl⟩:=Ct.1 hx;have hi':=Lt.1 X;obtain⟨aD,hc,ht⟩:=aB i (by rw[hm];split<;>omega);obtain⟨_,_,_,_,_,-,-,-,-,h6,-⟩:=Si ht;exact h6
   simp only[F9,Vg]at this;omega
  by_cases h0:O=0
  ·subst h0;exact⟨0,0,0,cp,λi X=>absurd X (MT _),⟨by decide,Cf _⟩,λh=>absurd rfl h,.inr ⟨rfl,some a,rfl⟩⟩
  ·have key:∀i,i<O->∃kd x y z tv,AN x/\AN y/\AN z/\W.cell? ((a.add (i*5)).add 0)=some (.int .i64 kd)/\W.cell? ((a.add (i*5)).add 1)=some (.int .i64 x)/\W.cell? ((a.add (i*5)).add 2)=some (.int .i64 y)/\W.cell? ((a.add (i*5)).add 3)=some (.int .i64 z)/\W.cell? ((a.add (i*5)).add 4)=some tv/\Iv W.heap.size W tv:=λi X=>by
    obtain⟨aD,hc,ht⟩:=aB i (by rw[hm];split<;>omega);obtain⟨-,-,I⟩:=World.cells?_some hc;obtain⟨kd,x,y,z,tv,rfl,ix,iy,iz,-,Y⟩:=Si ht;exact⟨kd,x,y,z,tv,ix,iy,iz,I 0 (by decide),I 1 (by decide),I 2 (by decide),I 3 (by decide),I 4 (by decide),Y⟩
   obtain⟨g,o,spot⟩:=a;obtain⟨kd,_,_,_,_,-,-,-,k0,-⟩:=key 0 (by omega);have aF:spot=none:=by
    cases spot with
    | none=>rfl
    | some s=>
     simp[Addr.add,World.cell?]at k0;split at k0<;>cases k0
   subst aF;have hg:g<W.heap.size:=by
    have:=GN W _ k0;simpa[Addr.add] using this
   refine⟨g,o,O,cp,λi X=>?_,aE,λ_=>hg,.inl rfl⟩;obtain⟨kd,x,y,z,tv,ix,iy,iz,s0,s1,s2,s3,s4,Y⟩:=key i X;have ha:∀j,((⟨g,o,none⟩:Addr).add (i*5)).add j=⟨g,o+i*5+j,none⟩:=λj=>by
    unfold Addr.add;by_cases h1:i*5=0<;>by_cases h2:j=0<;>simp[h1,h2]
   rw[ha]at s0 s1 s2 s3 s4;exact⟨kd,x,y,z,tv,ix,iy,iz,s0,s1,s2,s3,s4,Y⟩
end
end
section
open Go.RowKit
attribute [local go_sem ↓] CE
def AW.bA{w:World}{g n cap:Nat}{l:List Pu}(h:w.ownsRow 0 113 3 (AJ g n cap) n (B9 l))(k:Nat)(d:k<l.length)(p:Pu)(I:l[k]'d=p):
 w.cell? (Aa g (k*3))=some (A0 p.1)/\A7 w g (k*3+1) (A0 p.2.1)/\A7 w g (k*3+2) (A0 p.2.2):=by
 obtain⟨z,H,E⟩:=He l k d;rw[I]at z H E;exact⟨BC h rfl z,BC h rfl H,BC h rfl E⟩
def ON{α:Type}(A C:List α)(x:α)(h:A.length<(A++x::C).length):(A++x::C)[A.length]'h=x:=by
 rw[Gm (As _)];simp
def Jz{α:Type}(A C:List α)(x y:α):(A++x::C).set A.length y=A++y::C:=by
 rw[Kf _ _ (As _)];simp
def Wt{a b c n:Nat}(hn:n<=9223372036854775807)(hbn:b+c<=n)(hab:a+c<=b)(i:Nat)(hi:i<c):
 a+i<n/\b+i<n/\IntKind.i64.wrap ((a:Int)+(i:Int))=((a+i:Nat):Int)/\IntKind.i64.wrap ((b:Int)+(i:Int))=((b+i:Nat):Int)/\wrap64 ((a:Int)+(i:Int))=((a+i:Nat):Int)/\wrap64 ((b:Int)+(i:Int))=((b+i:Nat):Int)/\((a+i:Nat):Int)<(n:Int)/\((b+i:Nat):Int)<(n:Int):=by
 refine⟨by omega,by omega,?_,?_,by unfold wrap64;omega,by unfold wrap64;omega,by omega,by omega⟩
 ·simp[IntKind.wrap,IntKind.bits,IntKind.signed];omega
 ·simp[IntKind.wrap,IntKind.bits,IntKind.signed];omega
section
variable {w w':World} {g cap n:Nat}
def Wv(w:World)(g cap n:Nat)(A X M Y Z:List Pu)(cv:Value)(aE:X.length=Y.length)(hn:n=(A++X++M++Y++Z).length)(h:w.ownsRow 0 113 3 (AJ g n cap) n (B9 (A++X++M++Y++Z))):
 Ag 273 #[AJ g n cap,A0 A.length,A0 ((A.length+X.length+M.length:Nat):Int),A0 X.length,cv] w (Al (.tuple #[]) λw'=>
  w'.ownsRow 0 113 3 (AJ g n cap) n (B9 (A++Y++M++X++Z))/\A3 (One g) w w'):=by
 obtain⟨a,ha⟩:∃a,A.length=a:=⟨_,rfl⟩;obtain⟨b,hb⟩:∃b,A.length+X.length+M.length=b:=⟨_,rfl⟩;obtain⟨c,hc⟩:∃c,X.length=c:=⟨_,rfl⟩;have aD:n<=cap/\cap<=9223372036854775807:=by
  obtain⟨a',c',e,h1,h2,_⟩:=B8 h;cases e;unfold maxLen at h2;omega
 obtain⟨aV,aN⟩:=aD;have aT:b+c<=n:=by rw[hn];simp only[AY];omega
 have aS:a+c<=b:=by omega
 obtain⟨d,E⟩:∃d:Nat->List Pu,d=λi=>A++(Y.take i++X.drop i)++M++(X.take i++Y.drop i)++Z:=⟨_,rfl⟩;have aB:Hid (∀i,i<c->∃x y,(∀hk,(d i)[a+i]'hk=x)/\(∀hk,(d i)[b+i]'hk=y)/\(d i).length=n/\(∀hk,((d i).set (a+i) y)[b+i]'hk=y)/\((d i).set (a+i) y).set (b+i) x=d (i+1)):=λi hi=>by
  have H:i<X.length:=by omega
  have L:i<Y.length:=by omega
  have dx:X.drop i=X[i]'H::X.drop (i+1):=Fw H;have dy:Y.drop i=Y[i]'L::Y.drop (i+1):=Fw L;have tx:X.take (i+1)=X.take i++[X[i]'H]:=Dn H;have ty:Y.take (i+1)=Y.take i++[Y[i]'L]:=Dn L;obtain⟨x,hx⟩:∃x,X[i]'H=x:=⟨_,rfl⟩;obtain⟨y,hy⟩:∃y,Y[i]'L=y:=⟨_,rfl⟩;rw[hx]at dx tx;rw[hy]at dy ty;have e1:d i=(A++Y.take i)++x::((X.drop (i+1)++M++X.take i)++y::(Y.drop (i+1)++Z)):=by
   rw[E];dsimp only;rw[dx,dy];simp
  have e2:d (i+1)=(A++Y.take i)++y::((X.drop (i+1)++M++X.take i)++x::(Y.drop (i+1)++Z)):=by
   rw[E];dsimp only;rw[tx,ty];simp
  have l1:(A++Y.take i).length=a+i:=by simp;omega
  have e3:∀z:Pu,(A++Y.take i)++z::((X.drop (i+1)++M++X.take i)++y::(Y.drop (i+1)++Z))=((A++Y.take i)++z::(X.drop (i+1)++M++X.take i))++y::(Y.drop (i+1)++Z):=λz=>by simp
  have l2:∀z:Pu,((A++Y.take i)++z::(X.drop (i+1)++M++X.take i)).length=b+i:=λz=>by simp;omega
  have s1:(d i).set (a+i) y=((A++Y.take i)++y::(X.drop (i+1)++M++X.take i))++y::(Y.drop (i+1)++Z):=by
   rw[e1,<-l1,Jz,e3]
  refine⟨x,y,λhk=>?_,λhk=>?_,?_,λhk=>?_,?_⟩
  ·have:=ON (A++Y.take i) ((X.drop (i+1)++M++X.take i)++y::(Y.drop (i+1)++Z)) x (by simp);simp only[e1,<-l1];exact this
  ·have:=ON ((A++Y.take i)++x::(X.drop (i+1)++M++X.take i)) (Y.drop (i+1)++Z) y (by simp);simp only[e1,e3,<-l2 x];exact this
  ·rw[e1,hn];simp;omega
  ·have:=ON ((A++Y.take i)++y::(X.drop (i+1)++M++X.take i)) (Y.drop (i+1)++Z) y (by simp);simp only[s1,<-l2 y];exact this
  ·rw[s1,<-l2 y,Jz,e2];simp
 have aM:Hid (∀i,i<c->_):=Wt (AM aV aN) aT aS;have aW:Hid (w.ownsRow 0 113 3 (AJ g n cap) n (B9 (d 0))):=by
  unfold Hid;rw[E];simpa using h
 have aX:Hid (d c=A++Y++M++X++Z):=by
  unfold Hid;rw[E];dsimp only;rw[<-hc,C6,Gn,aE,C6,Gn];simp
 rw[hb,ha,hc];clear E h hn hb ha hc aE
 go_enter func273,ntmps273
 go_wp2;go_loopw [10] (λiv wr=>∃i:Nat,iv=A0 (i:Int)/\i<=c/\Hid (wr.ownsRow 0 113 3 (AJ g n cap) n (B9 (d i))/\A3 (One g) w wr)) (λiv _=>c-(intOf iv).toNat)
 case atStart=>exact⟨0,by go_num,by omega,aW.o,A3.I _ _⟩
 case round=>
  obtain⟨i,rfl,hic,hI⟩:=hrel;by_cases I:i<c
  ·have hltI:(i:Int)<(c:Int):=EU.2 I;obtain⟨aA,O,aK,aR,aO,aP,a0,a1⟩:=aM.o i I;obtain⟨i1,i2⟩:=hI.o;obtain⟨x,y,sx,sy,sl,sb,sn⟩:=aB.o i I;obtain⟨P,hP⟩:∃P,a+i=P:=⟨_,rfl⟩;obtain⟨Q,hQ⟩:∃Q,b+i=Q:=⟨_,rfl⟩;rw[hP]at sx sb sn aA aK aO a0;rw[hQ]at sy sb sn O aR aP a1;obtain⟨x1,x2,x3⟩:=AW.bA i1 P (MW aA sl.symm) x (sx _);obtain⟨y1,y2,y3⟩:=AW.bA i1 Q (MW O sl.symm) y (sy _);have P0:=C3 P;have Q0:=C3 Q;have tP:(P:Int).toNat=P:=Et P;have tQ:(Q:Int).toNat=Q:=Et Q;have aG:=AW.bh i1 P (MW aA sl.symm) y;have aI:=AW.bh aG Q (MW O ((Jh ..).trans sl).symm) x;rw[sn]at aI;have fz:∀o,wr.frozen? (Aa g o)=false:=λo=>G6 i1 rfl o;obtain⟨xa,xb,xc⟩:=x;obtain⟨ya,yb,W⟩:=y;dsimp only at x1 x2 x3 y1 y2 y3 aG aI;have aU:∀o,((((wr.setCell (Aa g (P*3)) (A0 ya)).setCell (Aa g (P*3+1)) (A0 yb)).setCell (Aa g (P*3+2)) (A0 W))).drew.frozen? (Aa g o)=false:=λo=>G6 aG rfl o;have z:=AW.bA aG Q (MW O ((Jh ..).trans sl).symm) _ (sb _);obtain⟨z1,z2,z3⟩:=z;dsimp only at z1 z2 z3;have aL:((((wr.setCell (Aa g (P*3)) (A0 ya)).setCell (Aa g (P*3+1)) (A0 yb)).setCell (Aa g (P*3+2)) (A0 W))).drew.cell? (Aa g (Q*3))=some (A0 ya):=z1;have aQ:((((wr.setCell (Aa g (P*3)) (A0 ya)).setCell (Aa g (P*3+1)) (A0 yb)).setCell (Aa g (P*3+2)) (A0 W))).drew.cell? (Aa g (Q*3+1))=some (A0 yb):=z2;have aJ:((((wr.setCell (Aa g (P*3)) (A0 ya)).setCell (Aa g (P*3+1)) (A0 yb)).setCell (Aa g (P*3+2)) (A0 W))).drew.cell? (Aa g (Q*3+2))=some (A0 W):=z3;have aZ:Hid (A3 (One g) w (((((((wr.setCell (Aa g (P*3)) (A0 ya)).setCell (Aa g (P*3+1)) (A0 yb)).setCell (Aa g (P*3+2)) (A0 W)).drew.setCell (Aa g (Q*3)) (A0 xa)).setCell (Aa g (Q*3+1)) (A0 xb)).setCell (Aa g (Q*3+2)) (A0 xc)))):=
    (((((i2.ao (b:=g) rfl _ _).ao (b:=g) rfl _ _).ao (b:=g) rfl _ _).af.ao (b:=g) rfl _ _).ao (b:=g) rfl _ _).ao (b:=g) rfl _ _
   have aH:Hid ((((((((wr.setCell (Aa g (P*3)) (A0 ya)).setCell (Aa g (P*3+1)) (A0 yb)).setCell (Aa g (P*3+2)) (A0 W)).drew.setCell (Aa g (Q*3)) (A0 xa)).setCell (Aa g (Q*3+1)) (A0 xb)).setCell (Aa g (Q*3+2)) (A0 xc))).ownsRow 0 113 3 (AJ g n cap) n (B9 (d (i+1)))):=aI;have aF:=A1 I;clear aG aI z1 z2 z3 i1 i2 sx sy sl sb sn hI aB aW aX hP hQ I aA O;go_wp2;refine LJ 21 (λw'=>A7 w' g (P*3) (A0 xa)/\A7 w' g (P*3+1) (A0 xb)/\A7 w' g (P*3+2) (A0 xc)/\A7 w' g (Q*3) (A0 ya)/\A7 w' g (Q*3+1) (A0 yb)/\A7 w' g (Q*3+2) (A0 W)) 22
    [(0,1),(1,1),(2,1),(3,1),(8,1),(9,1),(10,1),(11,1),(12,1),(13,1),(14,2),(15,2),(16,2),(17,2),(18,2),(19,1),(20,1),(4,2),(5,2),(6,2),(7,2),(21,0)] ⟨x1,x2,x3,y1,y2,y3⟩ ?_
   iterate 10 (refine HX ?_;(try simp only[An]))
   iterate 5 (refine HY ?_;(try simp only[An]))
   iterate 2 (refine HX ?_;(try simp only[An]))
   iterate 4 (refine HY ?_;(try simp only[An]))
   refine LL λK hK=>?_;go_simp;refine hK _ _ ?_
   (try simp only[An])
   refine LK ?_;simp only[BI,BH];generalize (((wr.setCell (Aa g (P*3)) (A0 ya)).setCell (Aa g (P*3+1)) (A0 yb)).setCell (Aa g (P*3+2)) (A0 W)).drew=w7 at aU aZ aH aL aQ aJ ⊢;go_wp2;go_roundw
   case rel=>exact⟨i+1,by go_num,aF.o,Ay aH.o λ_ _=>rfl,aZ.o⟩
   case measure=>
    have h:=aF.o;simp[intOf];omega
  ·(obtain rfl:i=c:=by omega);have aY:=A1 hI.o;(have hno:¬((i:Int)<(i:Int)):=by omega);go_wp2;go_end0;exact⟨rfl,by have h:=aY.o.1;rw[aX.o]at h;simpa using h,aY.o.2⟩
end
def Fu(n m:Nat)(T d:List Pu)(i j:Nat):Prop:=∃L U V R:List Pu,d=L++U++V++R/\T=L++V++U++R/\U.length=i/\V.length=j/\L.length+i=m/\0<i/\0<j/\d.length=n
def Ll(n:Nat)(d h:List Pu)(p q c:Nat):Prop:=∃A X M Y Z:List Pu,d=A++X++M++Y++Z/\h=A++Y++M++X++Z/\X.length=Y.length/\A.length=p/\A.length+X.length+M.length=q/\X.length=c/\n=d.length
def Fu.gt{n m i j:Nat}{T E:List Pu}(h:Fu n m T E i j)(hij:j<i):∃d,Ll n E d (m-i) m j/\Fu n m T d (i-j) j:=by
 obtain⟨L,U,V,R,W,Y,h1,h2,h3,h4,X,O⟩:=h;have I:U=U.take j++U.drop j:=(DK j U).symm;obtain⟨U1,z⟩:∃U1,U.take j=U1:=⟨_,rfl⟩;obtain⟨U2,H⟩:∃U2,U.drop j=U2:=⟨_,rfl⟩;have l1:U1.length=j:=by rw[<-z,BU];omega
 have l2:U2.length=i-j:=by rw[<-H,Cu];omega
 rw[z,H]at I;subst I;refine⟨L++V++U2++U1++R,⟨L,U1,U2,V,R,by rw[W];simp,rfl,by omega,by omega,by omega,by omega,O.symm⟩,L++V,U2,U1,R,rfl,by rw[Y];simp,l2,l1,by simp;omega,by omega,X,?_⟩;rw[<-O,W];simp;omega
def Fu.lt{n m i j:Nat}{T E:List Pu}(h:Fu n m T E i j)(hij:i<j):∃z,Ll n E z (m-i) (m+j-i) i/\Fu n m T z i (j-i):=by
 obtain⟨L,U,V,R,O,Y,h1,h2,h3,X,h5,I⟩:=h;have W:V=V.take (j-i)++V.drop (j-i):=(DK _ V).symm;obtain⟨V1,d⟩:∃V1,V.take (j-i)=V1:=⟨_,rfl⟩;obtain⟨V2,H⟩:∃V2,V.drop (j-i)=V2:=⟨_,rfl⟩;have l1:V1.length=j-i:=by rw[<-d,BU];omega
 have l2:V2.length=i:=by rw[<-H,Cu];omega
 rw[d,H]at W;subst W;refine⟨L++V2++V1++U++R,⟨L,U,V1,V2,R,by rw[O];simp,rfl,by omega,by omega,by omega,by omega,I.symm⟩,L,V2,V1,U++R,by simp,by rw[Y];simp,l2,l1,by omega,X,by omega,?_⟩;rw[<-I,O];simp;omega
def Fu.eq{n m i:Nat}{T d:List Pu}(h:Fu n m T d i i):Ll n d T (m-i) m i:=by
 obtain⟨L,U,V,R,E,I,H,h2,h3,h4,h5,z⟩:=h;exact⟨L,U,[],V,R,by rw[E];simp,by rw[I];simp,by omega,by omega,by simp;omega,H,z.symm⟩
def Fu.bF{n m i j:Nat}{T z:List Pu}(hn:n<=9223372036854775807)(h:Fu n m T z i j):
 i<=n/\j<=n/\IntKind.i64.wrap ((m:Int)-(i:Int))=((m-i:Nat):Int)/\wrap64 ((m:Int)-(i:Int))=((m-i:Nat):Int)/\IntKind.i64.wrap ((m:Int)+(j:Int))=((m+j:Nat):Int)/\wrap64 ((m:Int)+(j:Int))=((m+j:Nat):Int)/\
 IntKind.i64.wrap (((m+j:Nat):Int)-(i:Int))=((m+j-i:Nat):Int)/\wrap64 (((m+j:Nat):Int)-(i:Int))=((m+j-i:Nat):Int)/\
 (j<i->IntKind.i64.wrap ((i:Int)-(j:Int))=((i-j:Nat):Int)/\wrap64 ((i:Int)-(j:Int))=((i-j:Nat):Int))/\(i<j->IntKind.i64.wrap ((j:Int)-(i:Int))=((j-i:Nat):Int)/\wrap64 ((j:Int)-(i:Int))=((j-i:Nat):Int)):=by
 obtain⟨L,U,V,R,O,e2,Y,X,h3,h4,h5,H⟩:=h;have hl:L.length+i+j<=n:=by rw[<-H,O];simp;omega
 clear O e2 H Y X;have W:∀x:Int,-9223372036854775808<=x->x<=9223372036854775807->IntKind.i64.wrap x=x/\wrap64 x=x:=λx a b=>by
  refine⟨?_,by unfold wrap64;omega⟩;simp[IntKind.wrap,IntKind.bits,IntKind.signed];omega
 have d:∀(x:Int) (k:Nat),x=(k:Int)->k<=9223372036854775807->IntKind.i64.wrap x=(k:Int)/\wrap64 x=(k:Int):=λx k e hk=>by
  subst e;exact W _ (by omega) (by omega)
 have E:=d ((m:Int)-i) (m-i) (by omega) (by omega);have A2:=d ((m:Int)+j) (m+j) (by omega) (by omega);have I:=d (((m+j:Nat):Int)-i) (m+j-i) (by omega) (by omega);exact⟨by omega,by omega,E.1,E.2,A2.1,A2.2,I.1,I.2,λh=>d _ _ (by omega) (by omega),λh=>d _ _ (by omega) (by omega)⟩
section
variable {w w':World} {g cap n:Nat}
def Ll.b6{d z:List Pu}{p q c:Nat}(h:Ll n d z p q c)(E:Value)(H:w.ownsRow 0 113 3 (AJ g n cap) n (B9 d)):
 Ag 273 #[AJ g n cap,A0 (p:Int),A0 (q:Int),A0 (c:Int),E] w (Al (.tuple #[]) λw'=>
  w'.ownsRow 0 113 3 (AJ g n cap) n (B9 z)/\A3 (One g) w w'):=by
 obtain⟨A,X,M,Y,Z,rfl,rfl,e,rfl,rfl,rfl,I⟩:=h;exact Wv w g cap n A X M Y Z E e I H
def Xj(w:World)(g cap n:Nat)(A U V Z:List Pu)(cv:Value)(hu:U≠[])(hv:V≠[])(hn:n=(A++U++V++Z).length)(h:w.ownsRow 0 113 3 (AJ g n cap) n (B9 (A++U++V++Z))):
 Ag 263 #[AJ g n cap,A0 A.length,A0 ((A.length+U.length:Nat):Int),A0 ((A.length+U.length+V.length:Nat):Int),cv] w (Al (.tuple #[]) λw'=>
  w'.ownsRow 0 113 3 (AJ g n cap) n (B9 (A++V++U++Z))/\A3 (One g) w w'):=by
 have O:n<=9223372036854775807:=by
  obtain⟨a',c',e,h1,h2,_⟩:=B8 h;cases e;unfold maxLen at h2;omega
 have aP:=Ji.2 hu;have aT:=Ji.2 hv;have aG:A.length+U.length+V.length<=n:=by rw[hn];simp;omega
 obtain⟨T,hT⟩:∃T,A++V++U++Z=T:=⟨_,rfl⟩;obtain⟨C,hC⟩:∃C,A++U++V++Z=C:=⟨_,rfl⟩;obtain⟨a,ha⟩:∃a,A.length=a:=⟨_,rfl⟩;obtain⟨m,hm⟩:∃m,A.length+U.length=m:=⟨_,rfl⟩;obtain⟨b,hb⟩:∃b,A.length+U.length+V.length=b:=⟨_,rfl⟩;obtain⟨i0,aL⟩:∃i0,U.length=i0:=⟨_,rfl⟩;obtain⟨j0,aH⟩:∃j0,V.length=j0:=⟨_,rfl⟩;have aM:Hid (Fu n m T C i0 j0):=⟨A,U,V,Z,hC.symm,hT.symm,aL,aH,by omega,by omega,by omega,by rw[hn,hC]⟩;have ei:IntKind.i64.wrap ((m:Int)-(a:Int))=(i0:Int)/\wrap64 ((m:Int)-(a:Int))=(i0:Int):=by
  refine⟨?_,by unfold wrap64;omega⟩;simp[IntKind.wrap,IntKind.bits,IntKind.signed];omega
 have ej:IntKind.i64.wrap ((b:Int)-(m:Int))=(j0:Int)/\wrap64 ((b:Int)-(m:Int))=(j0:Int):=by
  refine⟨?_,by unfold wrap64;omega⟩;simp[IntKind.wrap,IntKind.bits,IntKind.signed];omega
 obtain⟨aA,aF⟩:=ei;obtain⟨aD,aE⟩:=ej;have I:Hid (∀z i j,Fu n m T z i j->_):=λz i j h=>Fu.bF O h;rw[hC]at h;rw[hT,hb,hm,ha];have aN:=A1 h;clear h hn hu hv aP aT aG hT hC ha hm hb aL aH O
 go_enter func263,ntmps263
 go_wp2;go_loopw [10,11] (λiv jv wr=>∃(i j:Nat) (z:List Pu),iv=A0 (i:Int)/\jv=A0 (j:Int)/\Hid (Fu n m T z i j/\wr.ownsRow 0 113 3 (AJ g n cap) n (B9 z)/\A3 (One g) w wr)) (λiv jv _=>(intOf iv).toNat+(intOf jv).toNat)
 case atStart=>exact⟨i0,j0,C,by go_num,by go_num,aM.o,aN.o,A3.I _ _⟩
 case round=>
  obtain⟨i,j,z,rfl,rfl,hI⟩:=hrel;obtain⟨L,i2,i3⟩:=hI.o;obtain⟨z1,z2,z3,z4,z5,z6,z7,z8,z9,H⟩:=I.o _ _ _ L;obtain⟨p,hp⟩:∃p,m-i=p:=⟨_,rfl⟩;obtain⟨q,hq⟩:∃q,m+j-i=q:=⟨_,rfl⟩;obtain⟨mj,E⟩:∃mj,m+j=mj:=⟨_,rfl⟩;rw[hp]at z3 z4;rw[hq,E]at z7 z8;rw[E]at z5 z6;have aQ:=A1 i3;by_cases he:i=j
  ·subst he;have S:=A1 ((Fu.eq L).b6 cv i2);rw[hp]at S;clear hI L i2 i3 z1 z2 z5 z6 z7 z8 z9 H hp hq E I aM aN aA aF aD aE;go_wp2_with (go_at_call 273;refine(S.o).mono ?_;rintro e w5⟨rfl,X,Y⟩;have R:=A1 (And.intro X (aQ.o.tr Y));clear X Y);go_end0;exact⟨rfl,R.o⟩
  ·have hne:((i:Int)=(j:Int))=False:=Mo λh=>he (Int.ofNat_inj.1 h);by_cases W:j<i
   ·obtain⟨aB,aK,aI⟩:=Fu.gt L W;have S:=A1 (aK.b6 cv i2);rw[hp]at S;obtain⟨y1,y2⟩:=z9 W;have aO:(j:Int)<(i:Int):=EU.2 W;have aJ:=A1 aI;have aS:=A1 W;obtain⟨d,hd⟩:∃d,i-j=d:=⟨_,rfl⟩;rw[hd]at y1 y2 aJ;have aR:=A1 hd;(have P2:Hid (0<j):=by obtain⟨_,_,_,_,_,_,_,_,_,_,h5,_⟩:=L;exact h5);clear hI L i2 i3 z1 z2 z5 z6 z7 z8 z9 H hp hq E I aM aN aA aF aD aE aK aI W hd;go_wp2_with (go_at_call 273;refine(S.o).mono ?_;rintro e w5⟨rfl,X,Y⟩;have R:=A1 (And.intro X (aQ.o.tr Y));clear X Y);go_roundw
    case rel=>exact⟨d,j,aB,by go_num,by go_num,aJ.o,R.o⟩
    case measure=>
     have h1:=aS.o;have h2:=aR.o;have h3:=P2.o;simp[intOf];omega
   ·have hl:i<j:=Nat.lt_of_le_of_ne (Iz W) he;obtain⟨aB,aK,aI⟩:=Fu.lt L hl;have S:=A1 (aK.b6 cv i2);rw[hp,hq]at S;obtain⟨y1,y2⟩:=H hl;(have aO:((j:Int)<(i:Int))=False:=by simp;exact Iz W);have aJ:=A1 aI;have aS:=A1 hl;obtain⟨d,hd⟩:∃d,j-i=d:=⟨_,rfl⟩;rw[hd]at y1 y2 aJ;have aR:=A1 hd;(have P2:Hid (0<i):=by obtain⟨_,_,_,_,_,_,_,_,_,h5,_,_⟩:=L;exact h5);clear hI L i2 i3 z1 z2 z9 H hp hq E I aM aN aA aF aD aE aK aI W hl hd;go_wp2_with (go_at_call 273;refine(S.o).mono ?_;rintro e w5⟨rfl,X,Y⟩;have R:=A1 (And.intro X (aQ.o.tr Y));clear X Y);go_roundw
    case rel=>exact⟨i,d,aB,by go_num,by go_num,aJ.o,R.o⟩
    case measure=>
     have h1:=aS.o;have h2:=aR.o;have h3:=P2.o;simp[intOf];omega
end
end
section
open Go.RowKit
section
variable {α:Type} {lt:α->α->Bool}
def B1.b9{l:List α}(h:B1 lt l)(k:Nat):B1 lt (l.take k):=(B1.an (by rw[DK];exact h)).1
def B1.ck{l:List α}(h:B1 lt l)(k:Nat):B1 lt (l.drop k):=(B1.an (a:=l.take k) (by rw[DK];exact h)).2.1
def B1.Cb{l:List α}(h:B1 lt l)(k:Nat):∀x∈l.take k,∀y∈l.drop k,lt y x=false:=(B1.an (a:=l.take k) (by rw[DK];exact h)).2.2
def B1.G7(x:α):B1 lt [x]:=MZ _ x
def BT.eV(z:BT lt){x:α}{V:List α}(h:B1 lt V)(k:Nat)(O:∀y,(V.take k).getLast?=some y->lt y x=true)(L:∀y,(V.drop k).head?=some y->lt y x=false):
 B1 lt (V.take k++x::V.drop k)/\Bh lt (x::V) (V.take k++x::V.drop k):=by
 have I:=z.dA (h.b9 k) (B1.G7 x) λa y d H=>by cases H;exact O y d
 have X:=z.cO (B1.G7 x) (h.ck k) λa y H d=>by cases H;exact L y d
 refine⟨B1.cJ (h.b9 k) (Db.2 ⟨λy d=>X x (by simp) y d,h.ck k⟩) λu hu v E=>?_,?_⟩
 ·rcases BR.1 E with rfl|E
  ·exact z.cm (I v (by simp) u hu)
  ·exact h.Cb k u hu v E
 ·have m:=(z.eb (x:=x) (ys:=V.take k) λy d=>I x (by simp) y d).an (Bh.I (lt:=lt) (V.drop k));have Y:x::V.take k++V.drop k=x::V:=by rw[Fx,DK]
  have W:V.take k++[x]++V.drop k=V.take k++x::V.drop k:=by simp
  rw[Y,W]at m;exact m
def BT.fT(z:BT lt){y:α}{U:List α}(h:B1 lt U)(k:Nat)(W:∀x,(U.take k).getLast?=some x->lt y x=false)(O:∀x,(U.drop k).head?=some x->lt y x=true):
 B1 lt (U.take k++y::U.drop k)/\Bh lt (U++[y]) (U.take k++y::U.drop k):=by
 have L:=z.cO (h.b9 k) (B1.G7 y) λx a d H=>by cases H;exact W x d
 have I:=z.dA (B1.G7 y) (h.ck k) λx a H d=>by cases H;exact O x d
 refine⟨B1.cJ (h.b9 k) (Db.2 ⟨λx d=>z.cm (I x d y (by simp)),h.ck k⟩) λu hu v E=>?_,?_⟩
 ·rcases BR.1 E with rfl|E
  ·exact L u hu v (by simp)
  ·exact h.Cb k u hu v E
 ·have m:=(Bh.I (lt:=lt) (U.take k)).an (z.df (y:=y) (xs:=U.drop k) λx d=>I x d y (by simp));have X:U.take k++(U.drop k++[y])=U++[y]:=by rw[<-Cc,DK]
  rw[X]at m;exact m
def Md{l:List α}{k:Nat}(d:k+1<=l.length):(l.take (k+1)).getLast?=some (l[k]'d):=by
 rw[Dn d];exact List.getLast?_concat
def head_drop{l:List α}{k:Nat}(d:k<l.length):(l.drop k).head?=some (l[k]'d):=by
 rw[Fw d];rfl
end
section
variable {α:Type} {lt:α->α->Bool}
def G0(lt:α->α->Bool)(D:List α)(n s0 d s r:Nat):Prop:=
 s0<=s/\s<=r/\r<=d/\(s0<s->∀x y,D[s-1]?=some x->D[n-s]?=some y->lt y x=false)/\(r<d->∀x y,D[r]?=some x->D[n-1-r]?=some y->lt y x=true)
def A1h{A U V Z D:List α}{n s0 X s:Nat}(hD:D=A++U++V++Z)(hU:2<=U.length)(hV:2<=V.length)(hn:n=(A.length+(A.length+U.length+V.length))/2+(A.length+U.length))(O:if (A.length+(A.length+U.length+V.length))/2<A.length+U.length then s0=n-(A.length+U.length+V.length)/\X=(A.length+(A.length+U.length+V.length))/2 else s0=A.length/\X=A.length+U.length)(h:G0 lt D n s0 X s s):∃U1 U2 V1 V2,U=U1++U2/\V=V1++V2/\A.length+U1.length=s/\n-s=A.length+U.length+V1.length/\U1.length+V1.length=(A.length+(A.length+U.length+V.length))/2-A.length/\
  (∀x y,U1.getLast?=some x->V2.head?=some y->lt y x=false)/\(∀x y,V1.getLast?=some y->U2.head?=some x->lt y x=true):=by
 obtain⟨h1,-,h3,h4,h5⟩:=h;generalize hmid:(A.length+(A.length+U.length+V.length))/2=mid at hn O ⊢;have hsa:A.length<=s/\s<=A.length+U.length/\A.length+U.length<=n-s/\n-s<=A.length+U.length+V.length:=by
  split at O<;>omega
 obtain⟨k,hk⟩:∃k,s=A.length+k:=⟨s-A.length,by omega⟩;obtain⟨j,hj⟩:∃j,n-s=A.length+U.length+j:=⟨n-s-(A.length+U.length),by omega⟩;have Y:k<=U.length:=by omega
 have W:j<=V.length:=by omega
 have l1:(U.take k).length=k:=by rw[BU];omega
 have l2:(V.take j).length=j:=by rw[BU];omega
 have I:∀i (H:i<U.length),D[A.length+i]?=some (U[i]'H):=λi H=>by
  rw[hD,IE (by simp;omega),IE (by simp;omega),Hs (by omega)];simp[H]
 have L:∀i (H:i<V.length),D[A.length+U.length+i]?=some (V[i]'H):=λi H=>by
  rw[hD,IE (by simp;omega),Hs (by simp)];simp[H]
 refine⟨U.take k,U.drop k,V.take j,V.drop j,(DK ..).symm,(DK ..).symm,by omega,by omega,by omega,λx y E z=>?_,λx y z E=>?_⟩
 ·rcases A3t k with h|h
  ·subst h;simp at E
  ·obtain⟨k,rfl⟩:∃q,k=q+1:=⟨k-1,by omega⟩;rw[Md Y]at E;rcases F7 j V.length with d|d
   ·rw[head_drop d]at z;refine h4 (by split at O<;>omega) x y ?_ ?_
    ·rw[show s-1=A.length+k by omega,I k (by omega)];exact E
    ·rw[hj,L j d];exact z
   ·rw[N7 d]at z;cases z
 ·rcases A3t j with h|h
  ·subst h;simp at z
  ·obtain⟨j,rfl⟩:∃q,j=q+1:=⟨j-1,by omega⟩;rw[Md W]at z;rcases F7 k U.length with d|d
   ·rw[head_drop d]at E;refine h5 (by split at O<;>omega) x y ?_ ?_
    ·rw[hk,I k d];exact E
    ·rw[show n-1-s=A.length+U.length+j by omega,L j (by omega)];exact z
   ·rw[N7 d]at E;cases E
def G0.up{D:List α}{n s0 z s r c:Nat}{x y:α}(h:G0 lt D n s0 z s r)(hc:s<=c/\c<r)(W:D[c]?=some x)(L:D[n-1-c]?=some y)(I:lt y x=false):G0 lt D n s0 z (c+1) r:=by
 obtain⟨h1,h2,O,h4,H⟩:=h;refine⟨by omega,by omega,O,λ_ a b E d=>?_,H⟩;rw[A3w,W]at E;rw[show n-(c+1)=n-1-c by omega,L]at d;cases E;cases d;exact I
def G0.eO{D:List α}{n s0 z s r c:Nat}{x y:α}(h:G0 lt D n s0 z s r)(hc:s<=c/\c<r)(W:D[c]?=some x)(O:D[n-1-c]?=some y)(L:lt y x=true):G0 lt D n s0 z s c:=by
 obtain⟨I,h2,h3,H,h5⟩:=h;refine⟨I,by omega,by omega,H,λ_ a b E d=>?_⟩;rw[W]at E;rw[O]at d;cases E;cases d;exact L
def G0.fq(D:List α)(n:Nat){s0 d:Nat}(h:s0<=d):G0 lt D n s0 d s0 d:=⟨As _,h,As _,λh=>absurd h (FZ _),λh=>absurd h (FZ _)⟩
def Eu(lt:α->α->Bool)(B:Nat)(P:Nat->Prop)(l:List α):Prop:=∀i,P i->B1 lt ((l.drop (i*B)).take B)
def A1i{A M M' Z:List α}(h:M.length=M'.length)(p q:Nat)(d:p+q<=A.length\/A.length+M.length<=p):((A++M++Z).drop p).take q=((A++M'++Z).drop p).take q:=by
 rcases d with d|d
 ·have e:∀X:List α,((A++X++Z).drop p).take q=(A.drop p).take q:=λX=>by
   rw[Cc,LB (by omega),GP (by rw[Cu];omega)]
  rw[e,e]
 ·have e:∀X:List α,A.length+X.length<=p->((A++X++Z).drop p).take q=(Z.drop (p-(A.length+X.length))).take q:=λX z=>by
   rw[LC,N7 (by simpa using z),Es,AY]
  rw[e M d,e M' (by omega),h]
def A1j{A M Z:List α}{p q:Nat}(hp:A.length=p)(d:M.length<=q)(z:M.length<q->Z=[]):((A++M++Z).drop p).take q=M:=by
 rw[Cc,LC,N7 (by omega),Es,show p-A.length=0 by omega,Dp];rcases F7 M.length q with h|h
 ·rw[z h,FF,Er d]
 ·rw[show q=M.length by omega,Ke]
def Eu.Co{l:List α}{B:Nat}(h:Eu lt B (λ_=>True) l)(d:l.length<=B):B1 lt l:=by
 have:=h 0 trivial
 rwa [Nat.zero_mul,Dp,Er d]at this
def QQ(l:List α){a b c:Nat}(h1:a<=b)(h2:b<=c):l=l.take a++(l.drop a).take (b-a)++(l.drop b).take (c-b)++l.drop c:=by
 have d:(l.drop a).take (b-a)++l.drop b=l.drop a:=by
  have:=DK (b-a) (l.drop a)
  rwa [List.drop_drop,show a+(b-a)=b by omega]at this
 have h:(l.drop b).take (c-b)++l.drop c=l.drop b:=by
  have:=DK (c-b) (l.drop b)
  rwa [List.drop_drop,show b+(c-b)=c by omega]at this
 rw[Cc,Cc,h,d,DK]
end
end
section
open Go.RowKit
attribute [local go_sem ↓] CE
def SX{m s r L n:Nat}(hn:n<=4294967296)(h:s<r)(hr:r<=L)(hm:m+L<=n):
 wrap64 (((m+s:Nat):Int)+((m+r:Nat):Int))=((m+s+(m+r):Nat):Int)/\IntKind.u64.wrap ((m+s+(m+r):Nat):Int)=((m+s+(m+r):Nat):Int)/\wrap64 (((m+s+(m+r):Nat):Int)/2)=((m+(s+r)/2:Nat):Int)/\
 (s+r)/2<r/\s<=(s+r)/2/\m+(s+r)/2<n/\wrap64 (((m+(s+r)/2:Nat):Int)+1)=((m+((s+r)/2+1):Nat):Int):=by
 refine⟨by unfold wrap64;omega,?_,by unfold wrap64;omega,by omega,by omega,by omega,by unfold wrap64;omega⟩;simp[IntKind.wrap,IntKind.bits,IntKind.signed];omega
def YP{a s n q:Nat}(hn:n<=4294967296)(h:a+1+s<=n)(hq:q<=s):
 wrap64 (((a+1+s:Nat):Int)-1)=((a+s:Nat):Int)/\IntKind.i64.wrap (((a+1+s:Nat):Int)-1)=((a+s:Nat):Int)/\wrap64 (((a+q:Nat):Int)+1)=((a+(q+1):Nat):Int)/\IntKind.i64.wrap (((a+q:Nat):Int)+1)=((a+(q+1):Nat):Int):=by
 refine⟨by unfold wrap64;omega,?_,by unfold wrap64;omega,?_⟩
 ·simp[IntKind.wrap,IntKind.bits,IntKind.signed];omega
 ·simp[IntKind.wrap,IntKind.bits,IntKind.signed];omega
def GZ(w:World)(g k:Nat)(p:Pu):World:=((w.setCell ⟨g,k*3,none⟩ (.int .i64 p.1)).setCell ⟨g,k*3+1,none⟩ (.int .i64 p.2.1)).setCell ⟨g,k*3+2,none⟩ (.int .i64 p.2.2)
def RS{w d:World}{g:Nat}(h:A3 (One g) d w)(k:Nat)(p:Pu):A3 (One g) d (GZ w g k p):=((h.ao (b:=g) rfl _ _).ao (b:=g) rfl _ _).ao (b:=g) rfl _ _
def R6{w:World}{g n cap:Nat}{l:List Pu}(h:w.ownsRow 0 113 3 (.slice (some ⟨g,0,none⟩) n cap) n (B9 l))(i j:Nat)(O:i<l.length)(H:j<l.length)(d:i≠j)(x y:Pu)(L:l[j]'H=y):
 (∀o,(GZ w g i y).drew.frozen? ⟨g,o,none⟩=false)/\((GZ w g i y).drew.cell? ⟨g,j*3,none⟩=some (.int .i64 y.1)/\(GZ w g i y).drew.cell? ⟨g,j*3+1,none⟩=some (.int .i64 y.2.1)/\(GZ w g i y).drew.cell? ⟨g,j*3+2,none⟩=some (.int .i64 y.2.2))/\
 (GZ (GZ w g i y).drew g j x).ownsRow 0 113 3 (.slice (some ⟨g,0,none⟩) n cap) n (B9 ((l.set i y).set j x))/\∀E,A3 (One g) E w->A3 (One g) E (GZ (GZ w g i y).drew g j x):=by
 have z:=Ay (AW.bh h i O y) λ_ _=>rfl;refine⟨λo=>G6 z rfl o,AW.bA z j (by rw[Jh];exact H) y ?_,AW.bh z j (by rw[Jh];exact H) x,λE I=>RS (RS I i y).af j x⟩;rw[A3I d];exact L
def Ta{α:Type}(V:List α)(x:α)(q:Nat)(h:q<=V.length):(V.take q++x::V.drop q).length=V.length+1:=by simp;omega
def Za{a s q P:Nat}(h:q<s)(e:a+q=P):a+s-(intOf (A0 ((P:Int)+1))).toNat<a+s-(intOf (A0 (P:Int))).toNat:=by simp[intOf];omega
def Oo{I J Q:Nat}(h1:I<=Q)(h2:Q<J):(intOf (A0 (J:Int))).toNat-(intOf (A0 ((Q:Int)+1))).toNat<(intOf (A0 (J:Int))).toNat-(intOf (A0 (I:Int))).toNat:=by simp[intOf];omega
def Oq{I J Q:Nat}(h1:I<=Q)(h2:Q<J):(intOf (A0 (Q:Int))).toNat-(intOf (A0 (I:Int))).toNat<(intOf (A0 (J:Int))).toNat-(intOf (A0 (I:Int))).toNat:=by simp[intOf];omega
def A0M{α:Type}{A V Z:List α}{x:α}{q:Nat}(d:q<V.length):∃y,(A++(V.take q++x::V.drop q)++Z)[A.length+q]?=some x/\(A++(V.take q++x::V.drop q)++Z)[A.length+q+1]?=some y/\
 ((A++(V.take q++x::V.drop q)++Z).set (A.length+q) y).set (A.length+q+1) x=A++(V.take (q+1)++x::V.drop (q+1))++Z:=by
 have z:(A++V.take q).length=A.length+q:=by simp;omega
 have H:(A++V.take q++[V[q]'d]).length=A.length+q+1:=by simp;omega
 have h:A++(V.take q++x::V.drop q)++Z=(A++V.take q)++x::(V[q]'d::(V.drop (q+1)++Z)):=by rw[Fw d];simp only[Cc,Fx]
 have I:A++(V.take (q+1)++x::V.drop (q+1))++Z=(A++V.take q++[V[q]'d])++x::(V.drop (q+1)++Z):=by rw[Dn d];simp
 have E:∀u,(A++V.take q)++u::(V[q]'d::(V.drop (q+1)++Z))=(A++V.take q++[u])++V[q]'d::(V.drop (q+1)++Z):=λu=>by simp
 refine⟨V[q]'d,?_,?_,?_⟩
 ·rw[h,<-z];simp
 ·rw[h,E,Hs (by simp;omega)];have:A.length+q+1-(A++V.take q++[x]).length=0:=by simp;omega
  rw[this];rfl
 ·rw[h,I,<-z,Jz,E,z,<-H,Jz]
def A2l{α:Type}{A U Z:List α}{y:α}{q:Nat}(d:q<U.length):∃u,(A++(U.take (q+1)++y::U.drop (q+1))++Z)[A.length+q+1]?=some y/\(A++(U.take (q+1)++y::U.drop (q+1))++Z)[A.length+q]?=some u/\
 ((A++(U.take (q+1)++y::U.drop (q+1))++Z).set (A.length+q+1) u).set (A.length+q) y=A++(U.take q++y::U.drop q)++Z:=by
 have E:(A++U.take q).length=A.length+q:=by simp;omega
 have H:∀u:α,(A++U.take q++[u]).length=A.length+q+1:=λu=>by simp;omega
 have h:A++(U.take (q+1)++y::U.drop (q+1))++Z=(A++U.take q++[U[q]'d])++y::(U.drop (q+1)++Z):=by rw[Dn d];simp
 have I:A++(U.take q++y::U.drop q)++Z=(A++U.take q)++y::(U[q]'d::(U.drop (q+1)++Z)):=by rw[Fw d];simp only[Cc,Fx]
 have z:∀u v:α,(A++U.take q++[u])++v::(U.drop (q+1)++Z)=(A++U.take q)++u::(v::(U.drop (q+1)++Z)):=λu v=>by simp
 refine⟨U[q]'d,?_,?_,?_⟩
 ·rw[h,<-H (U[q]'d)];simp
 ·rw[h,z,<-E];simp
 ·rw[h,I,<-H (U[q]'d),Jz,z,<-E,Jz]
section
variable {w w':World} {g cap n:Nat}
def Wq(w:World)(g cap n wb:Nat)(len:Int)(A V Z:List Pu)(x:Pu)(_hv:V≠[])(hn:n=(A++x::(V++Z)).length)(h:w.ownsRow 0 113 3 (AJ g n cap) n (B9 (A++x::(V++Z))))(hT:∀p∈x::V,AN p.2.1)(hA:B1 (Az len) V)(hl:1<=len/\len<=4611686018427387904)(hw:A7 w wb 0 (A0 len))(a5:wb≠g)(aH:n<=4294967296):
 Ag 244 #[AJ g n cap,A0 A.length,A0 ((A.length+1:Nat):Int),A0 ((A.length+1+V.length:Nat):Int),.func (Fn.func 155) #[] #[A5 wb]] w (Al (.tuple #[]) λw'=>
  ∃M,w'.ownsRow 0 113 3 (AJ g n cap) n (B9 (A++M++Z))/\M.length=V.length+1/\B1 (Az len) M/\Bh (Az len) (x::V) M/\A3 (One g) w w'):=by
 have KW:=Fj len;obtain⟨a,ha⟩:∃a,A.length=a:=⟨_,rfl⟩;obtain⟨m,hm⟩:∃m,a+1=m:=⟨_,rfl⟩;obtain⟨L,hL⟩:∃L,V.length=L:=⟨_,rfl⟩;obtain⟨b,hb⟩:∃b,m+L=b:=⟨_,rfl⟩;have aX:b<=n:=by rw[hn];simp;omega
 have bM:a<n:=by omega
 have aT:Hid (∀s r,s<r->r<=L->_):=λs r h hr=>SX (m:=m) aH h hr (hb ▸ aX);have bS:Hid (∀d,A3 Ab w d->∀q (H:q<V.length),A7 d g ((m+q)*3) (A0 (V[q]'H).1)/\A7 d g ((m+q)*3+1) (A0 (V[q]'H).2.1)/\A7 d g ((m+q)*3+2) (A0 (V[q]'H).2.2)):=λd hx q H=>by
  have e:(A++x::(V++Z))[m+q]'(by rw[<-hn];omega)=V[q]'H:=by
   rw[Gm (by omega)];(have:m+q-A.length=q+1:=by omega);simp only[this,PM];exact Fa H
  obtain⟨y1,y2,y3⟩:=AW.bA h (m+q) (by rw[<-hn];omega) _ e;exact⟨hx.al y1,hx.al y2,hx.al y3⟩
 have bZ:Hid (∀d,A3 Ab w d->A7 d g (a*3) (A0 x.1)/\A7 d g (a*3+1) (A0 x.2.1)/\A7 d g (a*3+2) (A0 x.2.2)):=λd hx=>by
  have e:(A++x::(V++Z))[a]'(by rw[<-hn];omega)=x:=by
   rw[Gm (by omega)];simp[ha]
  obtain⟨y1,y2,y3⟩:=AW.bA h a (by rw[<-hn];omega) _ e;exact⟨hx.al y1,hx.al y2,hx.al y3⟩
 have e1:wrap64 ((m:Int)-(a:Int))=1:=by unfold wrap64;omega
 have e2:IntKind.i64.wrap ((m:Int)-(a:Int))=1:=by rw[show (m:Int)-(a:Int)=1 by omega];rfl
 have a0:=C3 a;have aI:(a:Int)<(n:Int):=by omega
 have a1:n<=cap/\cap<=9223372036854775807:=by
  obtain⟨a',c',e,h1,h2,_⟩:=B8 h;cases e;unfold maxLen at h2;omega
 obtain⟨hc1,hc2⟩:=a1;have bL:=A1 hT;have b6:=A1 hw;have bT:=A1 hl;have HWB:=A1 a5;have bH:=A1 h;have bW:=A1 ha;have bB:Hid (∀ {d:World} (l:List Pu),d.ownsRow 0 113 3 (AJ g n cap) n (B9 l)->l.length=n):=λl hl=>by
  have:=hl.1;rw[RU]at this;omega
 have bC:Hid (n<=4294967296/\m+L<=n):=⟨aH,by rw[hb];exact aX⟩;have bN:=A1 hA;have b0:=A1 hm;have bK:=A1 hL;have HB:=A1 hb;rw[ha,hm,hL,hb];have aR:=hb.symm;clear h hT hw hl a5 hA hm hL aX bM aH hn ha _hv hb
 go_enter func244,ntmps244
 go_wp2;rename_i kA kB qA a3;clear kB;go_loopw [10,11] (λiv jv wr=>∃(s r:Nat),iv=A0 ((m+s:Nat):Int)/\jv=A0 ((m+r:Nat):Int)/\Hid (s<=r/\r<=L/\A3 Ab w wr/\(∀y,(V.take s).getLast?=some y->Az len y x=true)/\(∀y,(V.drop r).head?=some y->Az len y x=false))) (λiv jv _=>(intOf jv).toNat-(intOf iv).toNat)
 case atStart=>exact⟨0,L,by go_num,by rw[aR],Cf _,As _,A3.I _ _,(λy hy=>by simp at hy),(λy hy=>by rw[<-bK.o,Gn]at hy;cases hy)⟩
 case round=>
  obtain⟨s,r,rfl,rfl,hI⟩:=hrel;obtain⟨Y,i2,i3,i4,i5⟩:=hI.o;by_cases aD:s<r
  ·obtain⟨n1,n2,n3,n4,n5,n6,n7⟩:=aT.o s r aD i2;have bP:=EU.2 (Kc aD m);obtain⟨q,H⟩:∃q,(s+r)/2=q:=⟨_,rfl⟩;rw[H]at n3 n4 n5 n6 n7;(have X:q<V.length:=by rw[bK.o];exact Bk n4 i2);obtain⟨y,hy⟩:∃y,V[q]'X=y:=⟨_,rfl⟩;have a6:Hid (∀d,A3 Ab wr d->(A7 d g ((m+q)*3) (A0 y.1)/\A7 d g ((m+q)*3+1) (A0 y.2.1)/\A7 d g ((m+q)*3+2) (A0 y.2.2))/\A7 d g (a*3) (A0 x.1)/\A7 d g (a*3+1) (A0 x.2.1)/\A7 d g (a*3+2) (A0 x.2.2)):=λd hx=>by
    have a8:=i3.tr hx;have:=bS.o d a8 q X;rw[hy]at this;exact⟨this,bZ.o d a8⟩
   have a2:=bL.o y (Bx _ (hy ▸ BV X));have bD:=A1 (λd bU=>Mz d wb len y x a2 (bL.o x (BF ..)) bT.o bU);have aL:=My (len:=len) (p:=y) (q:=x);obtain⟨cc,bE⟩:∃cc,GK len y x=cc:=⟨_,rfl⟩;rw[bE]at bD aL;have aO:=i3.al b6.o;have b7:Hid (cc<0->∀z,(V.take (q+1)).getLast?=some z->Az len z x=true):=λhc z hz=>by
    rw[Md X,hy]at hz;cases hz;exact aL.1 hc
   have bY:Hid (¬cc<0->∀z,(V.drop q).head?=some z->Az len z x=false):=λhc z hz=>by
    rw[head_drop X,hy]at hz;cases hz;cases hk:Az len y x with
    | false=>rfl
    | true=>exact absurd (aL.2 hk) hc
   obtain⟨Q,hQ⟩:∃Q,m+q=Q:=⟨_,rfl⟩;rw[hQ]at n3 n6 n7 a6;have QI:=EU.2 n6;have Q0:=C3 Q;have tQ:=Et Q;have tA:=Et a;obtain⟨xa,xb,xc⟩:=x;obtain⟨ya,yb,yc⟩:=y;unfold Dt at bD;dsimp only at bD a6;have bI:=a6.o wr.drew (A3.I _ wr).af;have aJ:=A1 (bD.o wr.drew aO);obtain⟨I,W⟩:∃I,m+s=I:=⟨_,rfl⟩;obtain⟨J,aA⟩:∃J,m+r=J:=⟨_,rfl⟩;obtain⟨b4,aB⟩:∃b4,I+J=b4:=⟨_,rfl⟩;rw[W,aA,aB]at n1 n2;obtain⟨b5,aW⟩:∃b5,m+(q+1)=b5:=⟨_,rfl⟩;rw[aW]at n7;rw[W,aA,aB]at n3;rw[W,aA]at bP;have E:=A1 (And.intro Y (And.intro i2 (And.intro i3 (And.intro i4 (And.intro i5 (And.intro n4 (And.intro n5 (And.intro hQ (And.intro aW (And.intro W aA))))))))));rw[W,aA];clear hI Y i2 i3 i4 i5 n4 n5 n6 H hy a2 bE bD aO X aD aT bS bZ hQ aW W aA aB aR aL;by_cases aZ:cc<0
   ·go_wp2;clear n1 n2 n3;refine BP (λw'=>(A7 w' g (Q*3) (A0 ya)/\A7 w' g (Q*3+1) (A0 yb)/\A7 w' g (Q*3+2) (A0 yc))/\A7 w' g (a*3) (A0 xa)/\A7 w' g (a*3+1) (A0 xb)/\A7 w' g (a*3+2) (A0 xc)) 10
     (Bq [0,1,2,3,4,5,6,7,8,9] [9]) bI ?_
    iterate 9 (refine Bg ?_;(try simp only[An]))
    refine Bw λK hK=>?_;go_simp;refine aJ.m ?_;rintro e w6⟨rfl,aF⟩;have k6:=((A3.I Ab wr).af).tr aF;refine hK _ _ (a6.o w6 k6) (λhS=>?_);have bV:=A1 k6;clear hK K hS aF k6 bI aJ
    (try simp only[An])
    refine Bl ?_;simp only[BI,BH];clear a3;go_wp2;go_roundw
    case rel=>
     obtain⟨f1,f2,f3,f4,f5,f6,f7,f8,f9,f10,f11⟩:=E.o;exact⟨q+1,r,by rw[<-f8];rfl,by rw[f11],f6,f2,f3.tr bV.o,b7.o aZ,f5⟩
    case measure=>
     obtain⟨f1,f2,f3,f4,f5,f6,f7,f8,f9,f10,f11⟩:=E.o;exact Oo (by rw[<-f10,<-f8];exact Lp f7 m) (by rw[<-f11,<-f8];exact Kc f6 m)
   ·go_wp2;clear n1 n2 n3;refine BP (λw'=>(A7 w' g (Q*3) (A0 ya)/\A7 w' g (Q*3+1) (A0 yb)/\A7 w' g (Q*3+2) (A0 yc))/\A7 w' g (a*3) (A0 xa)/\A7 w' g (a*3+1) (A0 xb)/\A7 w' g (a*3+2) (A0 xc)) 10
     (Bq [0,1,2,3,4,5,6,7,8,9] [9]) bI ?_
    iterate 9 (refine Bg ?_;(try simp only[An]))
    refine Bw λK hK=>?_;go_simp;refine aJ.m ?_;rintro e w6⟨rfl,aF⟩;have k6:A3 Ab wr w6:=((A3.I Ab wr).af).tr aF;refine hK _ _ (a6.o w6 k6) (λhS=>?_);have bV:=A1 k6;clear hK K hS aF k6 bI aJ
    (try simp only[An])
    refine Bl ?_;simp only[BI,BH];clear a3;go_wp2;go_roundw
    case rel=>
     obtain⟨f1,f2,f3,f4,f5,f6,f7,f8,f9,f10,f11⟩:=E.o;exact⟨s,q,by rw[f10],by rw[f8],f7,ER (Bk f6 f2),f3.tr bV.o,f4,bY.o aZ⟩
    case measure=>
     obtain⟨f1,f2,f3,f4,f5,f6,f7,f8,f9,f10,f11⟩:=E.o;exact Oq (by rw[<-f10,<-f8];exact Lp f7 m) (by rw[<-f11,<-f8];exact Kc f6 m)
  ·obtain rfl:s=r:=Jg Y (Iz aD);have a4:¬(((m+s:Nat):Int)<((m+s:Nat):Int)):=LF _;have bR:=A1 (KW.eV bN.o s i4 i5);have bJ:Hid (wr.ownsRow 0 113 3 (AJ g n cap) n (B9 (A++(V.take 0++x::V.drop 0)++Z))):=by
    have:=Ay bH.o λg' hg=>i3.Ao g' (AB bH.o hg) (λh=>h);unfold Hid;simpa using this
   have bG:Hid (A3 (One g) w wr):=i3.aa λ_ _ h=>h.elim;(have a9:s<=V.length:=by rw[bK.o];exact i2);have bO:Hid (∀q,q<=s->_):=λq H=>YP (a:=a) (q:=q) bC.o.1 (AM (by rw[b0.o];exact Lp i2 m) bC.o.2) H;have bF:=A1 a9;obtain⟨ms,aV⟩:∃ms,m+s=ms:=⟨_,rfl⟩;(have bX:Hid (ms=a+1+s):=by unfold Hid;rw[<-aV,<-b0.o]);rw[aV]at a4 ⊢;clear hI Y i2 i3 i4 i5 aT bS bZ aR e1 e2 aV aD a9;generalize wr=w3 at bJ bG ⊢;go_wp2;go_loopw [13] (λkv wr=>∃q:Nat,kv=A0 ((a+q:Nat):Int)/\q<=s/\Hid (wr.ownsRow 0 113 3 (AJ g n cap) n (B9 (A++(V.take q++x::V.drop q)++Z))/\A3 (One g) w wr)) (λkv _=>a+s-(intOf kv).toNat)
   case atStart=>exact⟨0,by go_num,Cf _,bJ.o,bG.o⟩
   case round=>
    obtain⟨q,rfl,aK,hI⟩:=hrel;obtain⟨Y,i2⟩:=hI.o;obtain⟨z1,z2,z3,z4⟩:=bO.o q aK;rw[<-bX.o]at z1 z2;obtain⟨S,aE⟩:∃S,a+s=S:=⟨_,rfl⟩;rw[aE]at z1 z2;by_cases H:q<s
    ·obtain⟨y,f1,f2,f3⟩:=A0M (A:=A) (Z:=Z) (x:=x) (Bk H bF.o);rw[bW.o]at f1 f2 f3;obtain⟨P,hP⟩:∃P,a+q=P:=⟨_,rfl⟩;(have bA:a+(q+1)=P+1:=by rw[<-Lq,hP]);rw[hP]at f1 f2 f3;rw[hP,bA]at z3 z4;obtain⟨b1,a7⟩:=Hr.1 f1;obtain⟨b2,aS⟩:=Hr.1 f2;have hlt:((P:Nat):Int)<(S:Int):=EU.2 (by rw[<-hP,<-aE];exact Kc H a);obtain⟨x1,x2,x3⟩:=AW.bA Y P b1 x a7;obtain⟨y1,y2,y3⟩:=AW.bA Y (P+1) b2 y aS;obtain⟨aY,wv,aG,aN⟩:=R6 Y P (P+1) b1 b2 (Nat.ne_of_lt (V9 P)) x y aS;obtain⟨aQ,aU,aP⟩:=wv;have fz:∀o,wr.frozen? (Aa g o)=false:=λo=>G6 Y rfl o;have aM:=bB.o _ Y;rw[aM]at b1 b2;have PI:(P:Int)<(n:Int):=EU.2 b1;have P1I:(P:Int)+1<(n:Int):=EU.2 b2;have P0:=C3 P;have P10:(0:Int)<=(P:Int)+1:=Gp (P+1);have tP:(P:Int).toNat=P:=Et P;have tP1:((P:Int)+1).toNat=P+1:=Et (P+1);have z3':wrap64 ((P:Int)+1)=(P:Int)+1:=z3;have z4':IntKind.i64.wrap ((P:Int)+1)=(P:Int)+1:=z4;rw[f3]at aG;have O:=A1 (And.intro aG (aN w i2));have b3:=A1 (And.intro H hP);obtain⟨xa,xb,xc⟩:=x;obtain⟨ya,yb,yc⟩:=y;unfold GZ at aY aQ aU aP O;dsimp only at x1 x2 x3 y1 y2 y3 aY aQ aU aP O;rw[hP];clear hI Y i2 f1 f2 f3 b1 a7 b2 aS aG aN H hP bA aM aE z3 z4 aK bO bJ bG bR bH bL bN;go_wp2;refine LJ 15 (λw'=>A7 w' g (P*3) (A0 xa)/\A7 w' g (P*3+1) (A0 xb)/\A7 w' g (P*3+2) (A0 xc)/\A7 w' g ((P+1)*3) (A0 ya)/\A7 w' g ((P+1)*3+1) (A0 yb)/\A7 w' g ((P+1)*3+2) (A0 yc)) 16
      [(0,1),(1,1),(5,1),(6,1),(7,1),(8,1),(9,1),(10,2),(11,2),(12,2),(13,1),(14,1),(2,2),(3,2),(4,2),(15,0)] ⟨x1,x2,x3,y1,y2,y3⟩ ?_
     iterate 7 (refine HX ?_;(try simp only[An]))
     iterate 3 (refine HY ?_;(try simp only[An]))
     iterate 2 (refine HX ?_;(try simp only[An]))
     iterate 3 (refine HY ?_;(try simp only[An]))
     refine LL λK hK=>?_;go_simp;refine hK _ _ ?_;clear hK K
     (try simp only[An])
     refine LK ?_;simp only[BI,BH];clear x1 x2 x3 y1 y2 y3 fz;generalize (((wr.setCell (Aa g (P*3)) (A0 ya)).setCell (Aa g (P*3+1)) (A0 yb)).setCell (Aa g (P*3+2)) (A0 yc)).drew=w7 at aY aQ aU aP O ⊢;go_wp2;go_roundw
     case rel=>
      obtain⟨k1,k2⟩:=b3.o;exact⟨q+1,by rw[<-k2];rfl,k1,O.o⟩
     case measure=>
      obtain⟨k1,k2⟩:=b3.o;exact Za k1 k2
    ·obtain rfl:q=s:=Jg aK (Iz H);have a4:¬((S:Int)<(S:Int)):=LF _;rw[aE];have O:=A1 (And.intro Y i2);have bQ:=bF.o;have b8:Hid ((V.take q++x::V.drop q).length=V.length+1):=Ta V x q bQ;clear hI Y i2 H aE z3 z4 aK bO bJ bG bH bL bN;go_wp2;refine ME (Rh rfl _ _ _) rfl ?_;exact⟨rfl,V.take q++x::V.drop q,by simpa using O.o.1,by rw[<-bK.o];exact b8.o,bR.o.1,bR.o.2,O.o.2⟩
end
def Z9{a s r L n:Nat}(E:n<=4294967296)(h:s<r)(z:r<=L)(d:a+L<=n):
 wrap64 (((a+s:Nat):Int)+((a+r:Nat):Int))=((a+s+(a+r):Nat):Int)/\IntKind.u64.wrap ((a+s+(a+r):Nat):Int)=((a+s+(a+r):Nat):Int)/\wrap64 (((a+s+(a+r):Nat):Int)/2)=((a+(s+r)/2:Nat):Int)/\
 (s+r)/2<r/\s<=(s+r)/2/\a+(s+r)/2<n/\wrap64 (((a+(s+r)/2:Nat):Int)+1)=((a+((s+r)/2+1):Nat):Int):=SX E h z d
def Zb(P:Nat):(intOf (A0 (P:Int))).toNat<(intOf (A0 ((P:Int)+1))).toNat:=by simp[intOf]
def Zz{a s n q:Nat}(hn:n<=4294967296)(h:a+s<=n)(hq:q+1<=s):
 wrap64 (((a+q+1:Nat):Int)-1)=((a+q:Nat):Int)/\IntKind.i64.wrap (((a+q+1:Nat):Int)-1)=((a+q:Nat):Int):=by
 refine⟨by unfold wrap64;omega,?_⟩;simp[IntKind.wrap,IntKind.bits,IntKind.signed];omega
section
variable {w w':World} {g cap n:Nat}
def Ws(w:World)(g cap n wb:Nat)(len:Int)(A U Z:List Pu)(x:Pu)(hu:2<=U.length)(hn:n=(A++(U++x::Z)).length)(h:w.ownsRow 0 113 3 (AJ g n cap) n (B9 (A++(U++x::Z))))(hT:∀p∈x::U,AN p.2.1)(hA:B1 (Az len) U)(hl:1<=len/\len<=4611686018427387904)(hw:A7 w wb 0 (A0 len))(_hwb:wb≠g)(aH:n<=4294967296):
 Ag 244 #[AJ g n cap,A0 A.length,A0 ((A.length+U.length:Nat):Int),A0 ((A.length+U.length+1:Nat):Int),.func (Fn.func 155) #[] #[A5 wb]] w (Al (.tuple #[]) λw'=>
  ∃M,w'.ownsRow 0 113 3 (AJ g n cap) n (B9 (A++M++Z))/\M.length=U.length+1/\B1 (Az len) M/\Bh (Az len) (U++[x]) M/\A3 (One g) w w'):=by
 have KW:=Fj len;obtain⟨a,ha⟩:∃a,A.length=a:=⟨_,rfl⟩;obtain⟨L,hL⟩:∃L,U.length=L:=⟨_,rfl⟩;obtain⟨m,hm⟩:∃m,a+L=m:=⟨_,rfl⟩;have a0:m<n:=by rw[hn];simp;omega
 have aQ:Hid (∀s r,s<r->r<=L->_):=λs r h hr=>Z9 (a:=a) aH h hr (by omega);have bO:Hid (∀d,A3 Ab w d->∀q (E:q<U.length),A7 d g ((a+q)*3) (A0 (U[q]'E).1)/\A7 d g ((a+q)*3+1) (A0 (U[q]'E).2.1)/\A7 d g ((a+q)*3+2) (A0 (U[q]'E).2.2)):=λd hx q E=>by
  have e:(A++(U++x::Z))[a+q]'(by rw[<-hn];omega)=U[q]'E:=by
   rw[Gm (by omega)];(have:a+q-A.length=q:=by omega);simp only[this];exact Fa E
  obtain⟨y1,y2,y3⟩:=AW.bA h (a+q) (by rw[<-hn];omega) _ e;exact⟨hx.al y1,hx.al y2,hx.al y3⟩
 have bU:Hid (∀d,A3 Ab w d->A7 d g (m*3) (A0 x.1)/\A7 d g (m*3+1) (A0 x.2.1)/\A7 d g (m*3+2) (A0 x.2.2)):=λd hx=>by
  have e:(A++(U++x::Z))[m]'(by rw[<-hn];omega)=x:=by
   rw[Gm (by omega),Gm (by omega)];(have:m-A.length-U.length=0:=by omega);simp only[this,Ly]
  obtain⟨y1,y2,y3⟩:=AW.bA h m (by rw[<-hn];omega) _ e;exact⟨hx.al y1,hx.al y2,hx.al y3⟩
 have e1:wrap64 ((m:Int)-(a:Int))=(L:Int):=by unfold wrap64;omega
 have e2:IntKind.i64.wrap ((m:Int)-(a:Int))=(L:Int):=by simp[IntKind.wrap,IntKind.bits,IntKind.signed];omega
 have e3:((L:Int)=1)=False:=Mo (by omega);have e3':((L:Int)==1)=false:=by rw[GA];omega
 obtain⟨b,hb⟩:∃b,m+1=b:=⟨_,rfl⟩;have e4:wrap64 ((b:Int)-(m:Int))=1:=by unfold wrap64;omega
 have e5:IntKind.i64.wrap ((b:Int)-(m:Int))=1:=by rw[show (b:Int)-(m:Int)=1 by omega];rfl
 have m0:=C3 m;have mI:(m:Int)<(n:Int):=by omega
 have aX:n<=cap/\cap<=9223372036854775807:=by
  obtain⟨a',c',e,h1,h2,_⟩:=B8 h;cases e;unfold maxLen at h2;omega
 obtain⟨hc1,hc2⟩:=aX;have bD:=A1 hT;have b3:=A1 hw;have bP:=A1 hl;have bA:=A1 h;have bG:=A1 hA;have bE:=A1 hm;have aS:=A1 hL;have bS:=A1 ha;have a5:Hid (∀ {d:World} (l:List Pu),d.ownsRow 0 113 3 (AJ g n cap) n (B9 l)->l.length=n):=λl hl=>by
  have:=hl.1;rw[RU]at this;omega
 have a6:Hid (n<=4294967296/\m<n):=⟨aH,a0⟩;rw[ha,hL,hm,hb];clear h hT hw hl _hwb hA hm a0 aH hn ha hu hL hb
 go_enter func244,ntmps244
 go_wp2;rename_i kA kB qA bJ;clear kB;go_loopw [14,15] (λiv jv wr=>∃(s r:Nat),iv=A0 ((a+s:Nat):Int)/\jv=A0 ((a+r:Nat):Int)/\Hid (s<=r/\r<=L/\A3 Ab w wr/\(∀y,(U.take s).getLast?=some y->Az len x y=false)/\(∀y,(U.drop r).head?=some y->Az len x y=true))) (λiv jv _=>(intOf jv).toNat-(intOf iv).toNat)
 case atStart=>exact⟨0,L,by go_num,by rw[bE.o],Cf _,As _,A3.I _ _,(λy hy=>by simp at hy),(λy hy=>by rw[<-aS.o,Gn]at hy;cases hy)⟩
 case round=>
  obtain⟨s,r,rfl,rfl,hI⟩:=hrel;obtain⟨Y,i2,i3,i4,i5⟩:=hI.o;by_cases aE:s<r
  ·obtain⟨n1,n2,n3,n4,n5,n6,n7⟩:=aQ.o s r aE i2;have bL:((a+s:Nat):Int)<((a+r:Nat):Int):=EU.2 (Kc aE a);obtain⟨q,E⟩:∃q,(s+r)/2=q:=⟨_,rfl⟩;rw[E]at n3 n4 n5 n6 n7;(have X:q<U.length:=by rw[aS.o];exact Bk n4 i2);obtain⟨y,hy⟩:∃y,U[q]'X=y:=⟨_,rfl⟩;have bC:Hid (∀d,A3 Ab wr d->(A7 d g ((a+q)*3) (A0 y.1)/\A7 d g ((a+q)*3+1) (A0 y.2.1)/\A7 d g ((a+q)*3+2) (A0 y.2.2))/\A7 d g (m*3) (A0 x.1)/\A7 d g (m*3+1) (A0 x.2.1)/\A7 d g (m*3+2) (A0 x.2.2)):=λd hx=>by
    have a3:=i3.tr hx;have:=bO.o d a3 q X;rw[hy]at this;exact⟨this,bU.o d a3⟩
   have aY:AN y.2.1:=bD.o y (Bx _ (hy ▸ BV X));have a7:=A1 (λd bQ=>Mz d wb len x y (bD.o x (BF ..)) aY bP.o bQ);have aI:=My (len:=len) (p:=x) (q:=y);obtain⟨cc,a8⟩:∃cc,GK len x y=cc:=⟨_,rfl⟩;rw[a8]at a7 aI;have aL:A7 wr wb 0 (A0 len):=i3.al b3.o;have b4:Hid (¬cc<0->∀z,(U.take (q+1)).getLast?=some z->Az len x z=false):=λhc z hz=>by
    rw[Md X,hy]at hz;cases hz;cases hk:Az len x y with
    | false=>rfl
    | true=>exact absurd (aI.2 hk) hc
   have bT:Hid (cc<0->∀z,(U.drop q).head?=some z->Az len x z=true):=λhc z hz=>by
    rw[head_drop X,hy]at hz;cases hz;exact aI.1 hc
   obtain⟨Q,hQ⟩:∃Q,a+q=Q:=⟨_,rfl⟩;rw[hQ]at n3 n6 n7 bC;have QI:(Q:Int)<(n:Int):=EU.2 n6;have Q0:=C3 Q;have tQ:(Q:Int).toNat=Q:=Et Q;have tM:(m:Int).toNat=m:=Et m;obtain⟨xa,xb,xc⟩:=x;obtain⟨ya,yb,yc⟩:=y;unfold Dt at a7;dsimp only at a7 bC;have bV:=bC.o wr.drew (A3.I _ wr).af;have aW:=A1 (a7.o wr.drew aL);obtain⟨I,W⟩:∃I,a+s=I:=⟨_,rfl⟩;obtain⟨J,aA⟩:∃J,a+r=J:=⟨_,rfl⟩;obtain⟨bY,aB⟩:∃bY,I+J=bY:=⟨_,rfl⟩;rw[W,aA,aB]at n1 n2;obtain⟨bZ,aU⟩:∃bZ,a+(q+1)=bZ:=⟨_,rfl⟩;rw[aU]at n7;rw[W,aA,aB]at n3;rw[W,aA]at bL;have aD:=A1 (And.intro Y (And.intro i2 (And.intro i3 (And.intro i4 (And.intro i5 (And.intro n4 (And.intro n5 (And.intro hQ (And.intro aU (And.intro W aA))))))))));rw[W,aA];clear hI Y i2 i3 i4 i5 n4 n5 n6 E hy aY a8 a7 aL X aE aQ bO bU hQ aU W aA aB aI e1 e2 e4 e5;rcases PZ (cc<0) with O|O
   focus
    have aT:¬(0<=cc):=Int.not_le.2 O;have bH:decide (cc<0)=true:=CH O
   rotate_left
   focus
    have aT:0<=cc:=PX.1 O;have bH:decide (cc<0)=false:=CZ O
   iterate 2
    ·go_wp2;clear n1 n2 n3;refine BP (λw'=>(A7 w' g (Q*3) (A0 ya)/\A7 w' g (Q*3+1) (A0 yb)/\A7 w' g (Q*3+2) (A0 yc))/\A7 w' g (m*3) (A0 xa)/\A7 w' g (m*3+1) (A0 xb)/\A7 w' g (m*3+2) (A0 xc)) 10
      (Bq [0,1,2,3,4,5,6,7,8,9] [9]) bV ?_
     iterate 9 (refine Bg ?_;(try simp only[An]))
     refine Bw λK hK=>?_;go_simp;refine aW.m ?_;rintro e w6⟨rfl,a1⟩;have k6:A3 Ab wr w6:=((A3.I Ab wr).af).tr a1;refine hK _ _ (bC.o w6 k6) (λhS=>?_);have bX:=A1 k6;clear hK K hS a1 k6 bV aW
     (try simp only[An])
     refine Bl ?_;simp only[BI,BH];clear bJ;go_wp2;go_roundw
     case rel=>
      obtain⟨f1,f2,f3,f4,f5,f6,f7,f8,f9,f10,f11⟩:=aD.o
      first
       | exact⟨q+1,r,by rw[<-f8];rfl,by rw[f11],f6,f2,f3.tr bX.o,b4.o (by first|exact aT|exact PX.2 aT),f5⟩
       | exact⟨s,q,by rw[f10],by rw[f8],f7,ER (Bk f6 f2),f3.tr bX.o,f4,bT.o O⟩
     case measure=>
      obtain⟨f1,f2,f3,f4,f5,f6,f7,f8,f9,f10,f11⟩:=aD.o;(have g1:I<=Q:=by rw[<-f10,<-f8];exact Lp f7 a);(have g2:Q<J:=by rw[<-f11,<-f8];exact Kc f6 a)
      first
       | exact Oo g1 g2
       | exact Oq g1 g2
  ·obtain rfl:s=r:=Jg Y (Iz aE);have aZ:¬(((a+s:Nat):Int)<((a+s:Nat):Int)):=LF _;have bN:=A1 (KW.fT bG.o s i4 i5);have bB:Hid (wr.ownsRow 0 113 3 (AJ g n cap) n (B9 (A++(U.take L++x::U.drop L)++Z))):=by
    have:=Ay bA.o λg' hg=>i3.Ao g' (AB bA.o hg) (λh=>h);unfold Hid;rw[<-aS.o,C6,Gn];simpa using this
   have a9:Hid (A3 (One g) w wr):=i3.aa λ_ _ h=>h.elim;have bR:s<=L:=i2;have bK:Hid (∀q,q+1<=L->_):=λq E=>Zz (a:=a) (q:=q) (s:=L) a6.o.1 (by rw[bE.o];exact ER a6.o.2) E;obtain⟨S,hS⟩:∃S,a+s=S:=⟨_,rfl⟩;have bW:=A1 hS;rw[hS]at aZ ⊢;clear hI Y i2 i3 i4 i5 aQ bO bU e1 e2 e4 e5 hS aE;generalize wr=w3 at bB a9 ⊢;go_wp2;go_loopw [17] (λkv wr=>∃q:Nat,kv=A0 ((a+q:Nat):Int)/\s<=q/\q<=L/\Hid (wr.ownsRow 0 113 3 (AJ g n cap) n (B9 (A++(U.take q++x::U.drop q)++Z))/\A3 (One g) w wr)) (λkv _=>(intOf kv).toNat)
   case atStart=>exact⟨L,by rw[bE.o],bR,As _,bB.o,a9.o⟩
   case round=>
    obtain⟨q,rfl,aO,aF,hI⟩:=hrel;obtain⟨Y,i2⟩:=hI.o;by_cases E:s<q
    ·obtain⟨q,rfl⟩:=Nat.exists_eq_succ_of_ne_zero (Nat.ne_of_gt (Va (Cf s) E));obtain⟨z1,z2⟩:=bK.o q aF;obtain⟨y,f1,f2,f3⟩:=A2l (A:=A) (Z:=Z) (y:=x) (U:=U) (q:=q) (by rw[aS.o];exact aF);rw[bS.o]at f1 f2 f3;obtain⟨P,hP⟩:∃P,a+q=P:=⟨_,rfl⟩;(have a4:a+(q+1)=P+1:=by rw[<-Lq,hP]);rw[hP]at f1 f2 f3 z1 z2;obtain⟨b1,a2⟩:=Hr.1 f1;obtain⟨b2,aP⟩:=Hr.1 f2;have hlt:(S:Int)<((P:Nat):Int)+1:=EU.2 (show S<P+1 by rw[<-hP,<-bW.o];exact Kc E a);obtain⟨x1,x2,x3⟩:=AW.bA Y (P+1) b1 x a2;obtain⟨y1,y2,y3⟩:=AW.bA Y P b2 y aP;obtain⟨aV,wv,aG,aK⟩:=R6 Y (P+1) P b1 b2 (Nat.ne_of_gt (V9 P)) x y aP;obtain⟨aN,aR,aM⟩:=wv;have fz:∀o,wr.frozen? (Aa g o)=false:=λo=>G6 Y rfl o;have aJ:=a5.o _ Y;rw[aJ]at b1 b2;have PI:(P:Int)<(n:Int):=EU.2 b2;have P1I:(P:Int)+1<(n:Int):=EU.2 b1;have P0:=C3 P;have P10:(0:Int)<=(P:Int)+1:=Gp (P+1);have tP:(P:Int).toNat=P:=Et P;have tP1:((P:Int)+1).toNat=P+1:=Et (P+1);have bF:wrap64 ((P:Int)+1-1)=(P:Int):=z1;have bI:IntKind.i64.wrap ((P:Int)+1-1)=(P:Int):=z2;(have z3':wrap64 (P:Int)=(P:Int):=by rwa [Js]at bF);(have z4':IntKind.i64.wrap (P:Int)=(P:Int):=by rwa [Js]at bI);rw[f3]at aG;have H:=A1 (And.intro aG (aK w i2));have b0:=A1 (And.intro E (And.intro hP aF));obtain⟨xa,xb,xc⟩:=x;obtain⟨ya,yb,yc⟩:=y;unfold GZ at aV aN aR aM H;dsimp only at x1 x2 x3 y1 y2 y3 aV aN aR aM H;rw[a4];clear hI Y i2 f1 f2 f3 b1 a2 b2 aP aG aK E hP a4 aJ z1 z2 aF aO bK bB a9 bN bA bD bG;go_wp2;refine LJ 15 (λw'=>A7 w' g (P*3) (A0 ya)/\A7 w' g (P*3+1) (A0 yb)/\A7 w' g (P*3+2) (A0 yc)/\A7 w' g ((P+1)*3) (A0 xa)/\A7 w' g ((P+1)*3+1) (A0 xb)/\A7 w' g ((P+1)*3+2) (A0 xc)) 16
      [(0,1),(1,1),(5,1),(6,1),(7,1),(8,1),(9,1),(10,2),(11,2),(12,2),(13,1),(14,1),(2,2),(3,2),(4,2),(15,0)] ⟨y1,y2,y3,x1,x2,x3⟩ ?_
     iterate 7 (refine HX ?_;(try simp only[An]))
     iterate 3 (refine HY ?_;(try simp only[An]))
     iterate 2 (refine HX ?_;(try simp only[An]))
     iterate 3 (refine HY ?_;(try simp only[An]))
     refine LL λK hK=>?_;go_simp;refine hK _ _ ?_;clear hK K
     (try simp only[An])
     refine LK ?_;simp only[BI,BH];clear x1 x2 x3 y1 y2 y3 fz;generalize (((wr.setCell (Aa g ((P+1)*3)) (A0 ya)).setCell (Aa g ((P+1)*3+1)) (A0 yb)).setCell (Aa g ((P+1)*3+2)) (A0 yc)).drew=w7 at aV aN aR aM H ⊢;go_wp2;go_roundw
     case rel=>
      obtain⟨k1,k2,k3⟩:=b0.o;exact⟨q,by rw[k2],A3s k1,A3r k3,H.o⟩
     case measure=>exact Zb P
    ·obtain rfl:s=q:=Jg aO (Iz E);have aZ:¬((S:Int)<(S:Int)):=LF _;rw[bW.o];have H:=A1 (And.intro Y i2);have bM:=aS.o;have b5:Hid ((U.take s++x::U.drop s).length=U.length+1):=Ta U x s (by rw[aS.o];exact aF);clear hI Y i2 E aO bK bB a9 bA bD bG bM;go_wp2;refine ME (Rh rfl _ _ _) rfl ?_;exact⟨rfl,U.take s++x::U.drop s,by simpa using H.o.1,by rw[<-aS.o];exact b5.o,bN.o.1,bN.o.2,H.o.2⟩
end
end
end Go.Proofs.YtodcnkbblippnaaGreatDoor
