/- The law Alike returns true for every two numbers, every script and every list of numbers, of bulk at most 1048576 together: two stores of different Windows answer every Query the same (as a row, and its tied card). -/
import Derived.Deep.DeepCutAuto
import Derived.Test.YtodcnkbblippnaaGreatDoorPart24
namespace Go.Proofs.YtodcnkbblippnaaGreatDoor
set_option maxRecDepth 100000
set_option maxHeartbeats 32000000
set_option linter.defProp false
open Go.Proofs.Tryz
section
open Go.RowKit
attribute [local go_sem ↓] Go.wp_at_zero Go.wp_at_succ
section
variable {B g o n:Nat}
def IH(w:World)(h d m k:Nat)(wr:World):Prop:=A3 (Up w.heap.size) w wr/\∃z A6 puts,(-549755813888<=A6/\A6<=549755813888+500*(k:Int))/\Dz k (k+min k m) w.heap.size z h d A6 puts wr
def VF(w:World)(h d m k z:Nat)(wr:World):Prop:=A3 (Up w.heap.size) w wr/\∃A6 puts,(-549755813888<=A6/\A6<=549755813888+500*((k:Int)+1))/\Dz (k+1) (k+min k m+1) w.heap.size z h d A6 puts wr
def A3c{k:Nat}{c d:Int}(h : -549755813888<=c/\c<=549755813888+500*(k:Int))(h1:c<=d/\d<=c+500): -549755813888<=d/\d<=549755813888+500*((k:Int)+1):=by omega
def A26{k:Nat}{c:Int}(h : -549755813888<=c/\c<=549755813888+500*(k:Int))(hk:(k:Int)+1<=330000): -549755813888<=c/\c<=549755813888+500*330000:=by omega
def A27{k:Nat}{c:Int}(h : -549755813888<=c/\c<=549755813888+500*((k:Int)+1)): -549755813888<=c/\c<=549755813888+500*((k+1:Nat):Int):=by omega
def UJ(k m:Nat):k+min k m+1<=k+1+min (k+1) m:=by omega
def A3a{k m:Nat}(h:k<m):k+min k m+1+1<=k+1+min (k+1) m:=by omega
def Pp(c:Int):c<=c/\c<=c+500:=by omega
def UK{k n:Nat}(h:k<n):n-(intOf (A0 ((k:Int)+1))).toNat<n-(intOf (A0 (k:Int))).toNat:=by simp[intOf];omega
def UI{k:Nat}:(A0 ((k:Int)+1))=A0 ((k+1:Nat):Int):=by simp
def UH{k:Nat}(h:k<=330000):IntKind.i64.wrap ((k:Int)+1)=(k:Int)+1:=by simp[IntKind.wrap,IntKind.bits,IntKind.signed];omega
def Pq{k n:Nat}(h:k<n):(k:Int)<(n:Int):=by omega
def A3b{k n:Nat}(h:¬k<n):¬(k:Int)<(n:Int):=by omega
def A29{k:Int}:k=1\/k=2\/k=3\/k=4\/k=5\/((k==1)=false/\(k==2)=false/\(k==3)=false/\(k==4)=false/\(k==5)=false):=by simp only[GA];omega
def UL{x:Int}:AN (wrap64 x):=by unfold AN wrap64;omega
def A28(a:Int): -500<a.tmod 500/\a.tmod 500<500:=by
 have e1:=Nc a (show (0:Int)<500 by decide);have d:=Nc (-a) (show (0:Int)<500 by decide);rw[Nf]at d;omega
def A2X(aS:F5 330000)(w:World)(c Ai:Int)(cap:Nat)(ts:List Int)(tv:Value)(hS:UQ w g o n)(bT:6*n+ts.length<=1048576)(hg:n≠0->g<w.heap.size)(hE:Env B w)(sv:Value)(aH:sv=.slice (some (Aa g o)) n cap\/(n=0/\∃x,sv=.slice x 0 cap))(hc:AN c)(bC:AN Ai)(cE:Jq w tv ts)(bE:∀t∈ts,AN t):
 Ag 12 #[A0 c,sv,tv,A0 Ai] w (Al (.bool true) λw'=>A3 Ab w w'):=by
 obtain⟨ad,aV⟩:∃ad,sv=.slice ad n cap/\(n≠0->ad=some (Aa g o)):=by
  rcases aH with rfl|⟨rfl,x,rfl⟩
  ·exact⟨_,rfl,λ_=>rfl⟩
  ·exact⟨x,rfl,λh=>absurd rfl h⟩
 obtain⟨rfl,a6⟩:=aV;obtain⟨ta,tc,rfl,-,a7⟩:=cE;have aO:=A1 (λw'=>ZJ w' c hc);have aA:=WK c;have X:AN (HC c):=by constructor<;>omega
 have bQ:=A1 (Tg (B:=B) aS ⟨by decide,by decide⟩ w (HC c) X hE);have cB:=A1 (λw1 h1=>Tg (B:=B) aS ⟨by decide,by decide⟩ w1 (HC c) X (hE.aS h1));have aL:=A1 hE;have bL:=A1 (And.intro aA X);have cM:=A1 hS;have cO:=A1 hg;have cF:=A1 a6;have a4:Hid (∀j,j<ts.length->∃tb aG tk,ta=some (Aa tb aG)/\tb<w.heap.size/\A7 w tb (aG+j) (A0 tk)/\AN tk):=λj hj=>by
  obtain⟨tb,aG,h1,W,h3⟩:=a7 j hj;exact⟨tb,aG,_,h1,W,h3,bE _ (BV hj)⟩
 have b7:=A1 bC;generalize HC c=cl at aO bQ cB bL;obtain⟨m,hm⟩:∃m,ts.length=m:=⟨_,rfl⟩;have bV:Hid (∀k:Nat,k<n->k+1<=330000/\k+min k m+1<=330000/\k+min k m+1+3<=330000/\(k:Int)+1<=330000/\k<=330000):=λk hk=>by omega
 have a1:Hid (n<=330000/\n+min n m<=330000):=by unfold Hid;omega
 rw[hm];rw[hm]at a4;clear aH hc hE hS hg a6 a7 bE bC aA X hm bT
 go_enter func12,ntmps12
 go_wp2_with (fail);refine(aO.o _).mono ?_;rintro e w'⟨rfl,rfl⟩;go_wp2_with (fail);refine bQ.m ?_;rintro e w1⟨O,rfl,h1⟩;have cH:=A1 h1;have bH:=A1 (cB.o w1 h1.1);clear h1 bQ cB;go_wp2_with (fail);refine(aO.o _).mono ?_;rintro e w'⟨rfl,rfl⟩;go_wp2_with (fail);refine bH.m ?_;rintro e w2⟨xq,rfl,W⟩;obtain⟨k2,W⟩:=A2S cH.o W (Bk aL.o.2.2.1 aL.o.1.1);have cJ:=A1 k2;obtain⟨bq,sq,-,-,aA⟩:=W.cq aS (by decide) (by decide) (by decide) (aL.o.aS k2) aL.o.1.1;have ST:=A1 (aA Ai b7.o);clear W cH bH aO k2 aA bq sq;go_wp2_with (fail);refine ST.m ?_;rintro e w3⟨rfl,k3,h3⟩;have cN:Hid (IH w O xq m 0 w3):=⟨(cJ.o.aa λ_ _ h=>h.elim).Ap k3 λ_ h _=>h.1,_,cl,[],⟨bL.o.1.1,by have:=bL.o.1.2;omega⟩,by rw[Nat.zero_min];exact h3⟩;clear h3 k3 ST cJ bL;go_wp2;go_loopw [12] (λiv wr=>∃k:Nat,k<=n/\iv=A0 k/\Hid (IH w O xq m k wr)) (λiv _=>n-(intOf iv).toNat)
 case atStart=>exact⟨0,Cf _,rfl,cN⟩
 case round=>
  obtain⟨k,hk,rfl,hH⟩:=hrel;obtain⟨H,bO⟩:∃H,H=wr:=⟨_,rfl⟩;subst bO;have k0:=C3 k;by_cases aB:k<n
  ·have i1:=Pq aB;have bB:n≠0:=Nat.ne_of_gt (Va (Cf k) aB);obtain rfl:=cF.o bB;have a5:=cO.o bB;obtain⟨bZ,bN,a3,b0,bK⟩:=bV.o k aB;have a0:=A1 (UK aB);have bM:=A1 (UI (k:=k));obtain⟨kd,a,b3,c3,tv,ia,ib,ic,s0,s1,s2,s3,s4,⟨tl,⟨aW,aY,rfl,-⟩,-⟩⟩:=cM.o k aB;have up:∀x u,A7 w g x u->A7 H g x u:=λx u hu=>Io hH.o.1 hu λe=>absurd a5 (Ln.2 e);have s0:=up _ _ s0;have s1:=up _ _ s1;have s2:=up _ _ s2;have s3:=up _ _ s3;have s4:=up _ _ s4;have b8:=A1 (And.intro ia (And.intro ib ic));have aR:=A1 (And.intro aB a5);clear up ia ib ic;go_upto_block 2 with fail;have hA:=(A3.I Ab H).ak (Ie kd a b3 c3 (.slice aW tl.length aY));obtain⟨o0,o1,o2,o3,-⟩:=ZS H kd a b3 c3 (.slice aW tl.length aY);obtain⟨z0,clk,puts,aN,aQ⟩:=hH.o.2;have cL:=A1 hH.o.1;have aQ:=aQ.fX hA (by simp);have a2:=A1 hA;have aD:=A1 aQ;have aZ:=A1 aN;unfold Ie at o0 o1 o2 o3 a2 aD;clear hH hA aQ aN s0 s1 s2 s3 s4;generalize H.alloc (.cells #[A0 kd,A0 a,A0 b3,A0 c3,.slice aW tl.length aY] 72)=w5 at o0 o1 o2 o3 a2 aD ⊢;have bD:Hid (Env B w5):=(aL.o.aj cL.o λx e=>AM aL.o.1.1 e).aS a2.o;have L:Hid (∀I E d,(clk<=E/\E<=clk+500)->A3 (EG w.heap.size H.heap.size) w5 I->Dz (k+1) (k+min k m+1) w.heap.size H.heap.size O xq E d I->VF w O xq m k H.heap.size I):=λI E d h1 W h3=>
    ⟨(cL.o.Ap a2.o λ_ h _=>h.elim).Ap W λ_ h _=>h.1,E,d,A3c aZ.o h1,h3⟩
   go_cut [14,15] (λcC bP I=>∃cd:Int,cC=A0 cd/\bP=A0 cd/\Hid (VF w O xq m k H.heap.size I))
   case first=>
    by_cases W:kd=2
    ·as_aux_lemma=>
      subst W;have aU:AN (wrap64 (clk+b3.tmod 2000)):=UL;obtain⟨bp,sp,bq,sq,cd,b1,hp⟩:=aD.o.av bD.o aL.o.1.1 bZ bN a _ c3 aU b8.o.2.2;have x1:=b1.c1;have x2:=b1.c2;have aM:=A1 (hp _ (A3.I _ w5).af);clear b1 hp aU;go_wp2;refine BP (λw'=>A7 w' O 1 (A5 sp)/\A7 w' O 2 (A0 clk)/\A7 w' H.heap.size 1 (A0 a)/\A7 w' H.heap.size 2 (A0 b3)/\A7 w' H.heap.size 3 (A0 c3)) 16
       (Bq [0,1,2,3,4,5,6,7,8,9,10,11,12,13,14,15] []) ⟨x1,x2,o1,o2,o3⟩ ?_
      iterate 16 (refine Bg ?_;(try simp only[An]))
      refine Bl ?_;simp only[BI,BH];go_wp2_with (fail);refine aM.m ?_;rintro e w6⟨rfl,Y,b1,b2,h6⟩;have y1:=b2.c1;have y2:=b1.c2;have q1:=Io Y o1 (λe=>e.2 rfl);have q2:=Io Y o2 (λe=>e.2 rfl);have q3:=Io Y o3 (λe=>e.2 rfl);have aK:=A1 (h6 _ (A3.I _ w6).af);clear b1 b2 Y h6 aM x1 x2 o0 o1 o2 o3;go_wp2;refine BP (λw'=>A7 w' xq 1 (A5 sq)/\A7 w' O 2 (A0 clk)/\A7 w' H.heap.size 1 (A0 a)/\A7 w' H.heap.size 2 (A0 b3)/\A7 w' H.heap.size 3 (A0 c3)) 16
       (Bq [0,1,2,3,4,5,6,7,8,9,10,11,12,13,14,15] []) ⟨y1,y2,q1,q2,q3⟩ ?_
      iterate 16 (refine Bg ?_;(try simp only[An]))
      refine Bl ?_;simp only[BI,BH];go_wp2_with (fail);refine aK.m ?_;rintro e w7⟨rfl,k7,aX,h7⟩;have F:=A1 (L.o w7 clk aX (Pp _) k7 h7);clear aK k7 h7 y1 y2 q1 q2 q3;go_wp2;go_meet
      case rel=>exact⟨cd,rfl,rfl,F⟩
    by_cases h4:kd=4
    ·as_aux_lemma=>
      subst h4;obtain⟨bp,sp,bq,sq,cd,c2,a9,b1,hp⟩:=aD.o.cf bD.o aL.o.1.1 (a.tmod 500) (A28 a) (A26 aZ.o b0);have x1:=b1.c1;have aM:=A1 (hp _ (A3.I _ w5).af);have bW:=A1 a9;clear b1 hp a9;go_wp2;refine BP (λw'=>A7 w' O 1 (A5 sp)/\A7 w' H.heap.size 1 (A0 a)) 7
       (Bq [0,1,2,3,4,5,6] []) ⟨x1,o1⟩ ?_
      iterate 7 (refine Bg ?_;(try simp only[An]))
      refine Bl ?_;simp only[BI,BH];go_wp2_with (fail);refine aM.m ?_;rintro e w6⟨rfl,Y,b2,h6⟩;have y1:=b2.c1;have q1:=Io Y o1 (λe=>e.2 rfl);have aK:=A1 (h6 _ (A3.I _ w6).af);clear b2 Y h6 aM x1 o0 o1 o2 o3;go_wp2;refine BP (λw'=>A7 w' xq 1 (A5 sq)/\A7 w' H.heap.size 1 (A0 a)) 7
       (Bq [0,1,2,3,4,5,6] []) ⟨y1,q1⟩ ?_
      iterate 7 (refine Bg ?_;(try simp only[An]))
      refine Bl ?_;simp only[BI,BH];go_wp2_with (fail);refine aK.m ?_;rintro e w7⟨rfl,k7,b3,h7⟩;have x1:=b3.c1;have cI:=A1 (h7 _ (A3.I _ w7));clear b3 k7 h7 aK y1 q1;(have hfd:∀w':World,(Instr.field 74 (.agg #[.bool false,A0 c2]) 1).run Tryz.prog w'=.ok (A0 c2) w':=λ_=>by kernel_rfl);go_wp2_with (fail);refine cI.m ?_;rintro e w8⟨rfl,b4,b5,b6,k9,h9⟩;have z2:=b4.c2;have z2f:=b4.fz 2;have v2:=b5.c2;have t2:=b6.c2;have t2f:=b6.fz 2;have F:=A1 (L.o _ c2 puts bW.o k9 h9.dH);clear cI b4 b5 b6 k9 h9 x1;go_wp2;go_meet
      case rel=>exact⟨cd,rfl,rfl,F⟩
    by_cases h3:kd=3
    ·as_aux_lemma=>
      subst h3;obtain⟨bp,sp,bq,sq,b1,hp⟩:=aD.o.bD bK a b3 c3;generalize Ka a=cd at hp;have x1:=b1.c1;have aM:=A1 (hp _ (A3.I _ w5).af);clear b1 hp;go_wp2;refine BP (λw'=>A7 w' O 1 (A5 sp)/\A7 w' H.heap.size 1 (A0 a)/\A7 w' H.heap.size 2 (A0 b3)/\A7 w' H.heap.size 3 (A0 c3)) 15
       (Bq [0,1,2,3,4,5,6,7,8,9,10,11,12,13,14] [10]) ⟨x1,o1,o2,o3⟩ ?_
      iterate 10 (refine Bg ?_;(try simp only[An]))
      refine Bw λK hK=>?_;go_simp;refine aM.m ?_;rintro e w6⟨ad,nn,cp,rfl,Y,b2,h6⟩;have y1:=b2.c1;have q1:=Y.al o1;have q2:=Y.al o2;have q3:=Y.al o3;have aK:=A1 (h6 _ (A3.I _ w6).af);refine hK _ _ ⟨Y.al x1,q1,q2,q3⟩ (λhS=>?_);clear b2 Y h6 aM x1 o0 o1 o2 o3 hS hK
      (try simp only[An])
      iterate 4 (refine Bg ?_;(try simp only[An]))
      refine Bl ?_;simp only[BI,BH];go_wp2;refine BP (λw'=>A7 w' xq 1 (A5 sq)/\A7 w' H.heap.size 1 (A0 a)/\A7 w' H.heap.size 2 (A0 b3)/\A7 w' H.heap.size 3 (A0 c3)) 15
       (Bq [0,1,2,3,4,5,6,7,8,9,10,11,12,13,14] [10]) ⟨y1,q1,q2,q3⟩ ?_
      iterate 10 (refine Bg ?_;(try simp only[An]))
      refine Bw λK hK=>?_;go_simp;refine aK.m ?_;rintro e w7⟨cG,bY,b9,rfl,k7,h7⟩;have bJ:=A1 (h7 _ (A3.I _ w7));refine hK _ _ ⟨k7.al y1,k7.al q1,k7.al q2,k7.al q3⟩ (λhS=>?_);clear aK h7 k7 y1 q1 q2 q3 hS hK
      (try simp only[An])
      iterate 4 (refine Bg ?_;(try simp only[An]))
      refine Bl ?_;simp only[BI,BH];go_wp2_with (fail);refine bJ.m ?_;rintro e w8⟨rfl,k8,h8⟩;have F:=A1 (L.o w8 clk puts (Pp _) (k8.aa λ_ _ h=>h.elim) h8.dH);clear bJ k8 h8;go_wp2;go_meet
      case rel=>exact⟨cd,rfl,rfl,F⟩
    ·as_aux_lemma=>
      have n2:(kd==2)=false:=GA.2 W;have n3:(kd==3)=false:=GA.2 h3;have n4:(kd==4)=false:=GA.2 h4;have F:=A1 (L.o w5 clk puts (Pp _) (A3.I _ _) aD.o.dH);clear W h3 h4;go_wp2;go_meet
      case rel=>exact⟨0,rfl,rfl,F⟩
   case rest=>
    obtain⟨cd,rfl,rfl,hJ⟩:=hcut;obtain⟨aE,E,d,aT,aJ⟩:=hJ;obtain⟨bq,sq,b2,aH,aA⟩:=aJ.cq aS (by decide) a3 (A3r a3) (aL.o.aj aE λx e=>AM aL.o.1.1 e) aL.o.1.1;have y1:=b2.c1;have SV:=A1 aH;have ST:=A1 aA;have L:Hid (∀I s,s<=k+1+min (k+1) m->A3 (EG w.heap.size H.heap.size) wc I->Dz (k+1) s w.heap.size H.heap.size O xq E d I->IH w O xq m (k+1) I):=λI s hs h1 W=>
     ⟨aE.Ap h1 λ_ h _=>h.1,_,E,d,A27 aT,W.up (As _) hs⟩
    have a8:Hid (IH w O xq m (k+1) wc):=L.o wc _ (UJ k m) (A3.I _ _) aJ;have cD:=A1 aE;clear aE aT aJ b2 aH aA aZ aD a2 o0 o1 o2 o3;have ekw:=UH bK;by_cases aP:k<m
    ·have j1:=Pq aP;obtain⟨tb,aG,tk,rfl,bU,bG,bI⟩:=a4.o k aP;have bS:A7 wc tb (aG+k) (A0 tk):=Io cD.o bG (Nat.not_le.2 bU);obtain⟨p1,bA,-⟩:=Yr tk 9 bI (by decide);have cA:=A1 (λw'=>p1 w');clear p1 bI bG;generalize DF tk 9=wk at cA bA;have aF:Hid (∀I,A3 (EG w.heap.size H.heap.size) wc I->Dz (k+1) (k+min k m+1+1) w.heap.size H.heap.size O xq E d I->IH w O xq m (k+1) I):=λI h1 W=>L.o I _ (A3a aP) h1 W;have aI:Hid (∀I,A3 (EG w.heap.size H.heap.size) wc I->Dz (k+1) (k+min k m+1) w.heap.size H.heap.size O xq E d I->IH w O xq m (k+1) I):=λI h1 W=>L.o I _ (UJ k m) h1 W;clear L;have bR:=A29 (k:=wk);go_wp2_with (fail);refine(cA.o _).mono ?_;rintro e w'⟨rfl,rfl⟩;clear cA bS bA;rcases bR with rfl|rfl|rfl|rfl|rfl|⟨n1,n2,n3,n4,n5⟩;rotate_left 4
     ·as_aux_lemma=>
       clear SV aF;go_wp2_with (fail);refine(ST.o _ UL).mono ?_;rintro e w6⟨rfl,Y,h6⟩;have F:=A1 (aI.o w6 Y h6);clear Y h6 ST;go_wp2;go_roundw
       case rel=>exact⟨k+1,aR.o.1,bM.o,F⟩
       case measure=>exact a0.o
     ·as_aux_lemma=>
       clear SV ST aI aF;go_wp2;go_roundw
       case rel=>exact⟨k+1,aR.o.1,bM.o,a8⟩
       case measure=>exact a0.o
     all_goals
      as_aux_lemma=>
       go_wp2_with (fail);refine(SV.o _ (by first|exact .inl rfl|exact .inr (.inl rfl)|exact .inr (.inr rfl))).mono ?_;rintro e w6⟨rfl,Y,h6⟩;have F:=A1 (aF.o w6 Y h6);clear Y h6 SV ST aI aF;go_wp2;go_roundw
       case rel=>exact⟨k+1,aR.o.1,bM.o,F⟩
       case measure=>exact a0.o
    ·as_aux_lemma=>
      have j1:=A3b aP;clear SV ST L;go_wp2;go_roundw
      case rel=>exact⟨k+1,aR.o.1,bM.o,a8⟩
      case measure=>exact a0.o
  ·obtain rfl:k=n:=Jg hk (Ln.1 aB);have i1:¬(k:Int)<(k:Int):=LF _;go_wp2;go_loopw [23] (λiv wr=>∃j:Nat,j<=8/\iv=A0 j/\Hid (IH w O xq m k wr)) (λiv _=>8-(intOf iv).toNat)
   case atStart=>exact⟨0,by decide,rfl,hH⟩
   case round=>
    obtain⟨j,hj,rfl,hJ⟩:=hrel;obtain⟨w5,bX⟩:∃w5,w5=wr:=⟨_,rfl⟩;subst bX;have j0:=C3 j;by_cases hl:j<8
    ·as_aux_lemma=>
      have j1:(j:Int)<8:=Pq (n:=8) hl;have ejw:=UH (AM hj (by decide));have a0:=A1 (UK hl);have cP:=A1 (UI (k:=j));obtain⟨aE,z,clk,puts,aN,hA⟩:=hJ;obtain⟨bp,sp,bq,sq,b1,hp⟩:=hA.bD a1.o.1 j (-9223372036854775808) 9223372036854775807;have bF:Ka (j:Int)=0:=Ah ⟨j0,j1⟩;rw[bF]at hp;have x1:=b1.c1;have aM:=A1 (hp _ (A3.I _ w5));have L:Hid (∀I,A3 Ab w5 I->Dz k (k+min k m) w.heap.size z O xq clk puts I->IH w O xq m k I):=λI h1 W=>⟨aE.Ap h1 λ_ h _=>h.elim,z,clk,puts,aN,W⟩
      clear b1 hp bF aE aN hA hH;go_wp2_with (fail);refine aM.m ?_;rintro e w6⟨ad2,nn,cp,rfl,-,b2,h6⟩;have y1:=b2.c1;have aK:=A1 (h6 _ (A3.I _ w6));clear b2 h6 aM x1;go_wp2_with (fail);refine aK.m ?_;rintro e w7⟨cG,bY,b9,rfl,-,h7⟩;have bJ:=A1 (h7 _ (A3.I _ w7));clear aK h7 y1;go_wp2_with (fail);refine bJ.m ?_;rintro e w8⟨rfl,k8,h8⟩;have F:=A1 (L.o w8 k8 h8);clear bJ k8 h8 L;go_wp2;go_roundw
      case rel=>exact⟨j+1,hl,cP.o,F⟩
      case measure=>exact a0.o
    ·as_aux_lemma=>
      obtain rfl:j=8:=Jg hj (Ln.1 hl);(have j1:¬((8:Nat):Int)<8:=by decide);have K:=(A3.I Ab w).bZ hJ.o.1 λ_ h=>h;go_wp2;go_ret;exact⟨rfl,K⟩
end
end
section
open Go.ChangeAt Go.ChangeShapes Go.RowKit Go.WideShapes
def A0a{H:Type}{enc:TypeId×Value->H}{W:World}{I:Nat->Bool}{a:Option Addr}{n c:Nat}{d:DataW H}{L:List MemPlace}(h:DataW.Trod enc Tryz.prog W 0 I true 26 (.slice a n c) d L):n<=Rows.uptoBulk d:=by
 obtain⟨fuel,h⟩:=h;rcases Deep.open_slice underlying26 h with⟨z,-⟩|⟨ad,len,cap,m,k,E,Pl,z,-,hlc,-,hm,O,hel⟩
 ·simp[Value.cells]at z;omega
 ·simp[Value.cells]at z;obtain⟨rfl,rfl,rfl⟩:=z;have e:d=.slice ((List.range n).map E) ((List.range (m-n)).map λj=>E (n+j)):=Ei Prod.fst O;rw[e];simp only[Rows.uptoBulk];have:=Un ((List.range n).map E);simp only[F9,Vg]at this;omega
def A25(H:Type)(enc:TypeId×Value->H)(W:World)(L:Nat)(args:Array Value)(ds gs:List (DataW H))(before:List MemPlace)(d:∀(j:Nat) t v,Tryz.f12.params[j]?=some t->args[j]?=some v->Value.okWide Tryz.prog W .any L t v)(hW:DataW.Whole enc Tryz.prog Tryz.f12.params.toList Rows.alikeSpec.vars false W args.toList ds gs before)(hL:laidMetH Tryz.prog Rows.alikeUptoRow.laid W)(hk:Rows.uptoSmall H (ds++gs)=true):
 Calls Tryz.prog 12 args W λe aE=>∃v,e=.returned v/\Rows.alikeSpec.post enc Tryz.prog Tryz.f12 false true false false W args v aE:=by
 have z:=hW;obtain⟨p,q,aD,hV,rfl,hfz,hnd⟩:=hW;have hA:=aD;rw[Tryz.params12]at hA d;obtain⟨v0,vs0,d0,ds0,p0,q0,hargs,rfl,rfl,h0,r0⟩:=trodAll_cons hA;obtain⟨v1,vs1,d1,ds1,p1,q1,rfl,rfl,rfl,h1,r1⟩:=trodAll_cons r0;obtain⟨v2,vs2,d2,ds2,X,q2,rfl,rfl,rfl,I,r2⟩:=trodAll_cons r1;obtain⟨v3,vs3,d3,ds3,p3,q3,rfl,rfl,rfl,h3,r3⟩:=trodAll_cons r2;obtain⟨rfl,rfl,rfl⟩:=trodAll_nil r3;obtain rfl:args = #[v0,v1,v2,v3]:=by cases args;simp_all
 obtain⟨rfl,rfl⟩:=trodVars_none hV;have hb:Rows.uptoBulk d1+Rows.uptoBulk d2<=1048576:=by
  have h:=JL hk;simp only[FF,Rows.uptoBulkAll]at h;omega
 obtain⟨n0,rfl,rfl,rfl,w0⟩:=open_int underlying3 (d 0 3 v0 rfl rfl) h0;obtain⟨n3,rfl,rfl,rfl,w3⟩:=open_int underlying3 (d 3 3 v3 rfl rfl) h3;have o1:=d 1 55 v1 rfl rfl;obtain⟨ta,tn,tc,rfl⟩:=okWide_slice underlying26 (d 2 26 v2 rfl rfl);have aF:=h1;have aA:=I;have hbk:=A0a I;obtain⟨fuel,I⟩:=I;obtain⟨ts,O,aH,-⟩:Iv W.heap.size W (.slice ta tn tc):=Qv I;have htn:tn=ts.length:=by
  obtain⟨x,y,e,-⟩:=O;cases e;rfl
 obtain⟨g,o,n,cap,hS,hn,hg,Y⟩:=Xf (okWide_slice underlying55 o1) h1 (AM (PG _ _) hb);simp only[FF,Es]at z;refine(A2X (WU 330000 (by decide)) W n0 n3 cap ts (.slice ta tn tc) hS (by omega) hg (ZF hL) v1 Y (Jt w0) (Jt w3) O aH).mono λe aE ⟨he,hc⟩=>?_;subst he;have E:Below W.heap.size W aE:=hc.dW (As _) λk _ h=>h.elim;have aB:∀x∈p1,x.block<W.heap.size:=λx hx=>by simpa using z.lt x (by simp[hx])
 have aG:∀x∈X,x.block<W.heap.size:=λx hx=>by simpa using z.lt x (by simp[hx])
 exact⟨_,rfl,[.lit (.int .i64 n0),d1,d2,.lit (.int .i64 n3)],[],p1++X,[],p1++X,[],z,trodAll_cons_mk (shut_bool underlying4 _) trodAll_mk0,
  (by
   have hT:=trodAll_cons_mk (shut_int underlying3 w0) (trodAll_cons_mk (Below.trod Tryz.laidOut (by kernel_rfl) (JL (by kernel_rfl)) aF E aB) (trodAll_cons_mk (Below.trod Tryz.laidOut (by kernel_rfl) (JL (by kernel_rfl)) aA E aG) (trodAll_mk1 (shut_int underlying3 w3))));simp only[Es,FF]at hT
   exact hT),rfl,E.frame _,λh=>by cases h⟩
abbrev Ox:Array Value:=#[A0 0,.slice none 0 0,.slice none 0 0,A0 0]
def A2U(os:Os)(W:World)(h:HQ os W){H:Type}(enc:TypeId×Value->H):∃places,DataW.whole enc Tryz.prog (W.forCall (λ_ _=>0) ⟨#[],Ox,[]⟩).memory Tryz.f12.params.toList Rows.alikeSpec.vars false Ox.toList 8=some ([.lit (.int .i64 0),.nil,.nil,.lit (.int .i64 0)],[],places):=by
 unfold HQ at h;subst h;exact⟨[],by kernel_rfl⟩
def A2W(os:Os)(started:os.Started)(H:Type)(enc:TypeId×Value->H)(F:Stop.Interp):
 ReturnsInHanded {} Tryz.checked os 12 .any ((Rows.OpenSpec.upto Rows.alikeSpec).preRow enc Tryz.prog Tryz.f12 Rows.alikeUptoRow.domain false Rows.alikeUptoRow.laid) (((Rows.OpenSpec.upto Rows.alikeSpec).at F).post enc Tryz.prog Tryz.f12 false true false false):=by
 obtain⟨z,d⟩:∃z,HQ os z:=⟨_,rfl⟩;obtain⟨places,hx⟩:=A2U os z d enc;have hm:=ZC os z d;refine returnsInHanded_of_row (C:=Tryz.checked) (s:=Rows.OpenSpec.upto Rows.alikeSpec) Tryz.own started (by kernel_rfl) func12
  (witness_row_at (enc:=enc) (C:=Tryz.checked) false z Ox (by unfold HQ at d;subst d;rfl) (by unfold HQ at d;subst d;kernel_rfl) (by unfold HQ at d;subst d;kernel_rfl) (by unfold HQ at d;subst d;kernel_rfl)
   (OpenSpec.preRow_of_cond 8 hx (by kernel_rfl) (λk L=>by cases L;kernel_rfl) (by kernel_rfl) (hm _))) ?_
 intro W E args X gs before I O _ h _ Y _ _;exact A25 H enc W E args X gs before I O Y (h _ rfl)
def A24:(Rows.alikeUptoRow.inPlace==Tryz.pinned.checked.prog.inPlace 12)=true:=by kernel_rfl
def A23:(Rows.alikeUptoRow.unfollowed==Tryz.pinned.checked.prog.unfollowed 12)=true:=by kernel_rfl
def A22:(Rows.alikeUptoRow.recurses==Tryz.pinned.checked.prog.recurses 12)=true:=by kernel_rfl
def A21:(Rows.alikeUptoRow.named==Tryz.pinned.checked.prog.varsNamed 12)=true:=by kernel_rfl
def A20:(Rows.alikeUptoRow.wf (OpenSpec.ofChange (Rows.OpenSpec.upto Rows.alikeSpec).bare)&&laidOutB Tryz.pinned.checked.prog&&mapsRowed Tryz.pinned.checked.prog)=true:=by kernel_rfl
def A2Z:(Rows.alikeUptoRow.lifted==Tryz.pinned.checked.prog.liftsFinal)=true:=by kernel_rfl
def A2Y:joinedFacts Tryz.pinned.checked.prog 12 Tryz.f12 (Rows.OpenSpec.upto Rows.alikeSpec).bare Rows.alikeUptoRow=true:=by
 unfold joinedFacts;simp only[A20,A24,A23,A22,A21,A2Z,Nh]
 kernel_rfl
def A2T:Rows.AlikeUptoSaid:=
 OpenClaim.holds_of_cond 12 Tryz.f12 rfl rfl rfl rfl rfl rfl rfl ⟨rfl,rfl,rfl,rfl,rfl⟩ rfl rfl rfl rfl rfl (by kernel_rfl) func12 A2Y
  (JL (by kernel_rfl)) (by unfold Func.isWrapper;first|(rw[Ah (by decide +kernel)];kernel_rfl)|(rw[Ad (by decide +kernel)];exact⟨rfl,rfl⟩))
  (λos started H enc _ F=>by rw[OpenClaim.pre_eq_preRow];exact A2W os started H enc F)
def A2V(f:FuncId)(fn:Func)(E:Tryz.pinned.checked.prog.funcNamed "tides/tideskeep.Alike" = some f)(d:Tryz.pinned.checked.prog.funcs[f]?=some fn):
 true=Tryz.pinned.checked.prog.looks []/\∀(j:Nat) t,fn.params[j]?=some t->Tryz.pinned.checked.prog.wantsStandIn t=false:=by
 obtain rfl:f=12:=Pw ((show Tryz.prog.funcNamed "tides/tideskeep.Alike" = some 12 by kernel_rfl).symm.trans E) |>.symm;obtain rfl:fn=Tryz.f12:=(Pw (func12.symm.trans d)).symm;refine⟨by kernel_rfl,λj t z=>?_⟩;rw[Tryz.params12]at z;have h:=Array.mem_of_getElem? z;simp at h;rcases h with rfl|rfl|rfl|rfl
 ·exact(show Tryz.prog.wantsStandIn 3=false by kernel_rfl)
 ·exact(show Tryz.prog.wantsStandIn 55=false by kernel_rfl)
 ·exact(show Tryz.prog.wantsStandIn 3=false by kernel_rfl)
 ·exact(show Tryz.prog.wantsStandIn 26=false by kernel_rfl)
theorem alike_holds:Rows.AlikeUptoCardSaid:=
 Claim7.holds_tied_plain_at .later [] _ _ _ _ A2T (λ_ h=>by cases h) (by kernel_rfl) (λ_ h=>by cases h) alikeUpto_row_tie rfl ⟨rfl,rfl⟩ (by kernel_rfl) rfl A2V (by kernel_rfl)
#print axioms alike_holds
end
end Go.Proofs.YtodcnkbblippnaaGreatDoor
