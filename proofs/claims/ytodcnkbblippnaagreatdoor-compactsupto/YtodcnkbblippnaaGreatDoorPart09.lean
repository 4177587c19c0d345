/- Part 9 of a proof: walks of the program. -/
import Derived.Test.YtodcnkbblippnaaGreatDoorPart08
namespace Go.Proofs.YtodcnkbblippnaaGreatDoor
set_option maxRecDepth 100000
set_option maxHeartbeats 32000000
set_option linter.defProp false
open Go.Proofs.Tryz
section
open Go.RowKit
attribute [local go_sem ↓] Go.wp_at_zero Go.wp_at_succ
def Tryz.fC:(Tryz.prog.info? 70).map (λi=>(i.zero,i.size,i.bytes))=some (some (.agg #[A0 0,A0 0]),2,16):=by kernel_rfl
def Gz(d a b ld A7:Int)(p:Pu):Bool:=decide (p.1=d)&&decide (a<=p.2.1)&&decide (p.2.1<=b)&&ED p.2.1 ld A7
def FA(d a b ld A7:Int)(l:gD Pt)(p:Pu):gD Pt:=if Gz d a b ld A7 p then Cc l p.2.1 p.2.2 else l
def refQ(pd:gD Pu)(d a b ld A7:Int):gD Pt:=pd.foldl (FA d a b ld A7) []
def Pg(l:gD Pt)(t v:Int):l.length<=(Cc l t v).length/\(Cc l t v).length<=l.length+1:=by
 induction l with
 | nil=>simp[Cc]
 | cons e r ih=>
  obtain⟨a,b⟩:=e;simp only[Cc];split
  ·simp only[CA];omega
  ·split<;>simp only[CA]<;>omega
def Si(pd:gD Pu)(k:Nat)(h:k<pd.length)(d a b ld A7:Int):refQ (pd.take (k+1)) d a b ld A7=FA d a b ld A7 (refQ (pd.take k) d a b ld A7) (pd[k]'h):=by
 unfold refQ;rw[Dq h,NF];rfl
def Oy(pd:gD Pu)(d a b ld A7:Int)(k:Nat)(hk:k<=pd.length):DP (refQ (pd.take k) d a b ld A7)/\(refQ (pd.take k) d a b ld A7).length<=k:=by
 induction k with
 | zero=>simp[refQ,DP]
 | succ k ih=>
  have⟨h1,h2⟩:=ih (by omega);rw[Si pd k (by omega)];unfold FA;split
  ·have:=(Pg (refQ (pd.take k) d a b ld A7) (pd[k]'(by omega)).2.1 (pd[k]'(by omega)).2.2).2;exact⟨Lx h1 _ _,by omega⟩
  ·exact⟨h1,by omega⟩
def Uh{l:gD Pt}{t:Int}(v:Int){j:Nat}(d:BF l t=j)(z:∀h:j<l.length,(l[j]'h).1≠t):Cc l t v=l.take j++(t,v):: l.drop j:=by
 rw[Ph,d];have:(l[j]?).any (λx=>x.1==t)=false:=by
  by_cases h:j<l.length
  ·rw[Dz h];simpa using z h
  ·rw[M4 (by omega)];rfl
 rw[this];simp
def A1v{l:gD Pt}{t:Int}(v:Int){j:Nat}(d:BF l t=j)(h:j<l.length)(z:(l[j]'h).1=t):Cc l t v=l.set j (t,v):=by
 rw[Ph,d];have:(l[j]?).any (λx=>x.1==t)=true:=by rw[Dz h];simpa using z
 rw[this,A4s];simp[h]
def Y6(l:gD Pt)(x:Pt)(i:Nat)(d:i<l.length):(l.take (i+1)++x::l.drop (i+1)).set (i+1) (l[i]'d)=l.take i++(l[i]'d):: l.drop i:=by
 have h:(l.take (i+1)).length=i+1:=by simp;omega
 rw[J7 _ _ (by omega),h,Nx,VS,Dq d,Ci,FK d];rfl
def SO(l:gD Pt)(x y:Pt)(i:Nat)(hi:i<=l.length):(l.take i++x::l.drop i).set i y=l.take i++y::l.drop i:=by
 have d:(l.take i).length=i:=by simp;omega
 rw[J7 _ _ (by omega),d,Nx,VS]
def Sw(w:gx)(pv:gy)(pd:gD Pu)(m:Nat)(hp:GS w pv pd)(hm:m<=pd.length)(hl:pd.length<1099511627776)(hP:∀p∈pd,Ay p.2.1)(d a b ld A7:Int)(bE:1<=ld/\ld<=4611686018427387904)(aY:Ay A7):
 Ag 92 #[pv,A0 m,A0 d,A0 a,A0 b,A0 ld,A0 A7] w λe w'=>∃v,e=.returned v/\Ck w' v (refQ (pd.take m) d a b ld A7)/\A4 Aa w w'/\∀g,v.ownBlock=some g->w.heap.size<=g:=by
 obtain⟨ap,cp,rfl,hp1,b5,a9⟩:=hp.BW;unfold maxLen at b5;have cE:=A1 a9;have cD:=A1 bE;have cA:=A1 aY;have b9:=A1 hP;have⟨i0,hi0,hz0,hz1,hz2⟩:=DL Tryz.fC
 go_enter func92,ntmps92
 go_wp2;go_loopw [15,16] (λlv iv wr=>∃k:Nat,k<=m/\iv=A0 k/\Hid (Ck wr lv (refQ (pd.take k) d a b ld A7))/\Hid (A4 Aa w wr)/\Hid (∀g,lv.ownBlock=some g->w.heap.size<=g)) (λ_ iv _=>m-(intOf iv).toNat)
 ·exact⟨0,Ch _,rfl,Co _ _ _ _,A4.C _ _,by simp[Hid,Value.ownBlock]⟩
 ·obtain⟨k,hk,rfl,a1,aU,aD⟩:=hrel;obtain⟨X,b8⟩:∃X,X=wr:=⟨_,rfl⟩;subst b8;by_cases hlk:k<m
  ·obtain⟨g,rfl,I,q1,q2,q3⟩:=cE.o k (by omega);obtain⟨⟨s,t,v⟩,hx⟩:∃p,pd[k]'(by omega)=p:=⟨_,rfl⟩;rw[hx]at q1 q2 q3;have bY:=hx ▸ BV _;have q1:=(DO (aU.o.Al g I (λh=>h))).trans q1;have q2:=(DO (aU.o.Al g I (λh=>h))).trans q2;have q3:=(DO (aU.o.Al g I (λh=>h))).trans q3;obtain⟨L,hL⟩:∃L,refQ (pd.take k) d a b ld A7=L:=⟨_,rfl⟩;have bK:=Oy pd d a b ld A7 k (by omega);rw[hL]at bK a1;obtain⟨a4,aK⟩:=bK;have bX:=A1 a4;obtain⟨al,bJ⟩:∃al,ED t ld A7=al:=⟨_,rfl⟩;have aS:Hid (∀W:gx,Ag 123 #[A0 t,A0 ld,A0 A7] W (Aj (.bool al) λw'=>W=w')):=λW=>by
    rw[<-bJ];exact Vy t ld A7 W (b9.o _ bY) cD.o cA.o cA.o.2
   have bO:Hid (refQ (pd.take (k+1)) d a b ld A7=if decide (s=d)&&decide (a<=t)&&decide (t<=b)&&al then Cc L t v else L):=by
    unfold Hid;rw[Si pd k (by omega),hL,hx];simp only[FA,Gz,bJ]
   have hi0':(0:Int)<=(k:Int):=Gu _;(have hi1':(k:Int)<(pd.length:Int):=by omega);have bR:Hid (Ck (X.aC #[A0 s,A0 t,A0 v] 141) u15 L):=Au a1.o λg I=>CY _ _ _ (Aw a1.o I);have cB:Hid (A4 Aa w (X.aC #[A0 s,A0 t,A0 v] 141)):=aU.o.aj _;have aM:Hid ((decide (s=d)&&decide (a<=t)&&decide (t<=b)&&al)=false->∃k':Nat,k'<=m/\A0 ((k:Int)+1)=A0 k'/\Hid (Ck (X.aC #[A0 s,A0 t,A0 v] 141) u15 (refQ (pd.take k') d a b ld A7))/\Hid (A4 Aa w (X.aC #[A0 s,A0 t,A0 v] 141))/\Hid (∀g,u15.ownBlock=some g->w.heap.size<=g)):=λhf=>
    ⟨k+1,by omega,by go_num,by unfold Hid;rw[bO.o,hf];exact bR.o,cB.o,aD.o⟩
   (have hkm:(k:Int)<(m:Int):=by omega);by_cases hs:s=d
   ·subst hs;by_cases hf:t<a
    ·have hr:=A1 (show ¬a<=t by omega);go_wp2_with (go_at_call 123;refine(aS.o _).k ?_;rintro w' rfl);go_roundw
     ·exact aM.o (by have h0:decide (a<=t)=false:=Cv (by have:=hr.o;omega);simp[h0])
     ·simp[intOf];omega
    ·(have bS:a<=t:=by omega);by_cases ht:b<t
     ·have hr:=A1 (show ¬t<=b by omega);go_wp2_with (go_at_call 123;refine(aS.o _).k ?_;rintro w' rfl);go_roundw
      ·exact aM.o (by have h0:decide (t<=b)=false:=Cv (by have:=hr.o;omega);simp[h0])
      ·simp[intOf];omega
     ·(have bT:t<=b:=by omega);cases al with
      | false=>
       go_wp2_with (go_at_call 123;refine(aS.o _).k ?_;rintro w' rfl);go_roundw
       ·exact aM.o (by simp)
       ·simp[intOf];omega
      | true=>
       (have a5:Hid (refQ (pd.take (k+1)) s a b ld A7=Cc L t v):=by have:=bO.o;unfold Hid;simpa[bS,bT] using this);obtain⟨aL,cL,rfl,hcl1,bH,bI,_,_⟩:=B8 bR.o;unfold maxLen at bH;have bZ:=A1 bI;have bU:=Bl X (.cells #[A0 s,A0 t,A0 v] 141);have cF:=A1 bU;go_wp2_with (go_at_call 123;refine(aS.o _).k ?_;rintro w' rfl);go_loopw [19] (λav wq=>∃j:Nat,j<=L.length/\av=A0 j/\Hid (∀i (hi:i<L.length),i<j->(L[i]'hi).1<t)/\Hid (A4 Aa (X.aC #[A0 s,A0 t,A0 v] 141) wq)) (λav _=>L.length-(intOf av).toNat)
       ·exact⟨0,Ch _,rfl,λi hi h=>by omega,A4.C _ _⟩
       ·obtain⟨j,hj,rfl,Y,aZ⟩:=hrel;obtain⟨O,bV⟩:∃O,O=wr:=⟨_,rfl⟩;subst bV;have a7:O.heap[X.heap.size]?=some (.cells #[A0 s,A0 t,A0 v] 141 (0,0)):=(aZ.o.Al _ (by simp) (λh=>h)).trans cF.o;(have b1:A8 O X.heap.size 1 (A0 t):=by simp[A8,World.cell?,a7]);(have b2:A8 O X.heap.size 2 (A0 v):=by simp[A8,World.cell?,a7]);have a0:=A1 a7;have aI:Hid (Ck O (.slice aL L.length cL) L):=Au bR.o λg I=>aZ.o.Al g (Aw bR.o I) (λh=>h);have aQ:Hid (A4 Aa w O):=cB.o.tr aZ.o;by_cases aO:j<L.length
        ·obtain⟨g2,rfl⟩:=bZ.o (by omega);obtain⟨⟨tj,vj⟩,bL⟩:∃x,L[j]'aO=x:=⟨_,rfl⟩;have⟨d1,d2⟩:=aI.o.bu j aO;rw[bL]at d1 d2;have aN:=A1 bL;have j0:=BJ j;(have j1:(j:Int)<(L.length:Int):=by omega);by_cases b6:tj<t
         ·go_wp2;go_quiet (fail);go_wp2;go_roundw
          ·refine⟨j+1,by omega,by go_num,λi hi h=>?_,aZ.o.a7 _⟩;by_cases a6:i=j
           ·subst a6;rw[aN.o];exact b6
           ·exact Y.o i hi (by omega)
          ·simp[intOf];omega
         ·(have bN:t<=tj:=by omega);have aW:Hid (BF L t=j):=MH bX.o hj Y.o λi hi h=>by
           by_cases a6:i=j
           ·subst a6;rw[aN.o];exact bN
           ·have:=JQ.1 bX.o j i aO hi (by omega);rw[aN.o]at this;simp only at this;omega
          by_cases bA:tj=t
          ·subst bA;have aB:Hid (∀n,Ck ((O.drewN n).sC g2 (j*2+1) (A0 v)) (AA g2 L.length cL) (Cc L tj v)/\A4 Aa w ((O.drewN n).sC g2 (j*2+1) (A0 v))):=by
            intro n;have s1:=(aI.o.stored (j*2+1) (A0 v)).1;rw[Zs L j v aO,aN.o]at s1;have bQ:Cc L tj v=L.set j (tj,v):=A1v v aW.o aO (by rw[aN.o]);refine⟨?_,?_⟩
            ·rw[bQ];unfold Ck;rw[HK];exact Au s1 λg _=>rfl
            ·have hgw:w.heap.size<=g2:=aD.o g2 rfl;exact(aQ.o.a7 n).bh (p:=(A9 g2 (j*2+1))) (λh=>by simp at h;omega) (A0 v)
           have gz:O.frozen? (A9 g2 (j*2+1))=false:=EK aI.o rfl _;go_wp2;go_quiet (fail);go_wp2;go_quiet (fail);go_wp2;go_roundw
           ·exact⟨k+1,by omega,by go_num,by unfold Hid;rw[a5.o];exact(aB.o _).1,(aB.o _).2,aD.o⟩
           ·simp[intOf];omega
          ·(have aP:Hid (Cc L t v=L.take j++(t,v):: L.drop j):=Uh v aW.o λh=>by rw[aN.o];exact bA);have aR:j<=L.length:=hj;(have hne:(tj==t)=false:=by simpa using bA);(have aF:(L.length+1)*16<=140737488355328:=by omega);have aA:Hid (∀n,((O.drewN n).aC #[A0 0,A0 0] 70).ownsRow 0 70 2 (AA g2 L.length cL) L.length (B7 L)):=λn=>Au aI.o λg I=>CY _ _ _ (Aw aI.o I);have aV:Hid (∀n,Src Tryz.prog 2 66 (AA O.heap.size 1 1) 1 [A0 0,A0 0] ((O.drewN n).aC #[A0 0,A0 0] 70)):=
            λn=>Src.bc underlying66 (O.drewN n) #[A0 0,A0 0] 70 O.heap.size (by simp) 1 1 rfl (by simp[Value.oneCell'])
           have bB:Hid (∀n w3 a3 z,App ((O.drewN n).aC #[A0 0,A0 0] 70) w3 70 2 (AA g2 L.length cL) (.slice a3 (L.length+1) z) (L.length+1) (B7 L++[A0 0,A0 0])->
            w3.heap[X.heap.size]?=some (.cells #[A0 s,A0 t,A0 v] 141 (0,0))/\A4 Aa w w3/\(∀g,(Value.slice a3 (L.length+1) z).ownBlock=some g->w.heap.size<=g)/\w3.ownsRow 0 70 2 (.slice a3 (L.length+1) z) (L.length+1) (B7 (L.take L.length++(0,0):: L.drop L.length))):=by
            intro n w3 a3 z hA;have b7:=aQ.o.Ak;refine⟨?_,?_,?_,?_⟩
            ·have h5:((O.drewN n).aC #[A0 0,A0 0] 70).heap[X.heap.size]?=some (.cells #[A0 s,A0 t,A0 v] 141 (0,0)):=(CY _ _ _ (by simpa using By a0.o)).trans a0.o
             exact(hA.C7.block _ (By h5) (λe=>by
              have⟨c,hh⟩:=Bb (aA.o n) e.symm
              exact BR h5 hh (by decide) rfl)).trans h5
            ·exact((aQ.o.a7 n).aj _).C7 hA.C7 λk hk bW=>by have:=aD.o k hk;omega
            ·intro g I;rcases hA.BY with e|e
             ·rw[e]at I;exact aD.o g I
             ·rw[e]at I;cases I;simp;omega
            ·have:=hA.AB;rw[El (Ao _),It (Ao _),Lc];exact this
           go_wp2;go_quiet (fail);go_wp2;go_quiet (fail);go_wp2_with (at_builtin;refine CU rfl (.tmp 91) (.tmp 93) 66 66 rfl 70 i0 _ 2 16 underlying66 hi0 hz0 hz1 hz2 rfl (by decide) _ L.length (B7 L) (by rfl) (aA.o _) _ 1 _ (by rfl) (aV.o _) aF ?_;intro a3 z w3 hA;have bC:=A1 (bB.o _ w3 a3 z hA));have⟨hbx3,hc3,hfr3,hrow3⟩:=bC.o;have⟨_,_,e3,_,hcap3',h3s,_⟩:=B8 hrow3;cases e3;obtain⟨E,rfl⟩:=h3s (by omega);unfold maxLen at hcap3';have aT:=A1 hbx3;have a8:=A1 hc3;have aJ:=A1 hrow3;have bP:w.heap.size<=E:=hfr3 E rfl;go_loopw [20] (λkv wz=>∃i:Nat,j<=i/\i<=L.length/\kv=A0 i/\Hid (A4 Aa w wz)/\Hid (wz.heap[X.heap.size]?=some (.cells #[A0 s,A0 t,A0 v] 141 (0,0)))/\Hid (∃x,wz.ownsRow 0 70 2 (AA E (L.length+1) z) (L.length+1) (B7 (L.take i++x::L.drop i)))) (λkv _=>(intOf kv).toNat)
           ·exact⟨L.length,aR,Ao _,rfl,a8.o,aT.o,(0,0),aJ.o⟩
           ·obtain⟨i,b4,bG,rfl,aX,aG,bF⟩:=hrel;have⟨⟨x1,x2⟩,hrx⟩:=bF.o;have aE:=A1 hrx;have z0:=EK hrx (g:=E) rfl (i*2);have z1:=EK hrx (g:=E) rfl (i*2+1);(have xl:(L.take i++(x1,x2):: L.drop i).length=L.length+1:=by simp;omega);have o0:=Bv hrx (g:=E) rfl (MF _ i (by rw[xl];omega));have o1:=Bv hrx (g:=E) rfl (ME _ i (by rw[xl];omega));(have iB:(i:Int)<((L.length+1:Nat):Int):=by omega);have iA:=BJ i;have bD:(L.take i++(x1,x2):: L.drop i)[i]'(by rw[xl];omega)=(x1,x2):=by
             rw[Gd (by simp;omega)];simp[Nat.min_eq_left bG]
            rw[bD]at o0 o1;have aH:=A1 xl;(have iD:(i:Int)<(L.length:Int)+1:=by omega);by_cases b3:j<i
            ·(have h1:(i-1)<L.length:=by omega);obtain⟨⟨ti,vi⟩,bM⟩:∃y,L[i-1]'h1=y:=⟨_,rfl⟩;have b0:(L.take i++(x1,x2):: L.drop i)[i-1]'(by rw[aH.o];omega)=(ti,vi):=by
              rw[Fs (by simp;omega)];simp[bM]
             have c0:=Bv aE.o (g:=E) rfl (MF _ (i-1) (by rw[aH.o];omega));have c1:=Bv aE.o (g:=E) rfl (ME _ (i-1) (by rw[aH.o];omega));rw[b0]at c0 c1;(have hgt':(j:Int)<(i:Int):=by omega);(have i1:(0:Int)<=(i:Int)-1:=by omega);(have i3:((i:Int)-1).toNat=i-1:=by omega);have cC:Hid (∀wy:gx,wy=((wr.sC E (i*2) (A0 ti)).sC E (i*2+1) (A0 vi))->A4 Aa w wy/\wy.heap[X.heap.size]?=some (.cells #[A0 s,A0 t,A0 v] 141 (0,0))/\wy.ownsRow 0 70 2 (AA E (L.length+1) z) (L.length+1) (B7 (L.take (i-1)++(ti,vi):: L.drop (i-1)))):=by
              intro wy hy;subst hy;have s1:=(aE.o.stored (i*2) (A0 ti)).1;have s2:=(s1.stored (i*2+1) (A0 vi)).1;have e:=La (L.take i++(x1,x2):: L.drop i) i (ti,vi) (by rw[aH.o];omega);have e2:=Y6 L (x1,x2) (i-1) h1;rw[show i-1+1=i from by omega,bM]at e2;simp only at e;rw[e,e2]at s2;have⟨ce,hce⟩:=Bb aE.o (g:=E) rfl;refine⟨(aX.o.bh (p:=(A9 E (i*2))) (λh=>by simp at h;omega) _).bh (p:=(A9 E (i*2+1))) (λh=>by simp at h;omega) _,?_,s2⟩;have a2:X.heap.size≠E:=λe=>BR aG.o hce (by decide) e;rw[Fw _ _ _ _ a2,Fw _ _ _ _ a2];exact aG.o
             go_wp2;go_roundw
             ·have⟨k1,k2,k3⟩:=cC.o _ rfl;exact⟨i-1,by omega,by omega,by go_num,k1,k2,(ti,vi),k3⟩
             ·simp[intOf];omega
            ·(obtain rfl:i=j:=by omega);(have p1:A8 wr X.heap.size 1 (A0 t):=by simp[A8,World.cell?,aG.o]);(have p2:A8 wr X.heap.size 2 (A0 v):=by simp[A8,World.cell?,aG.o]);have aB:Hid (∀wy:gx,wy=((wr.sC E (i*2) (A0 t)).sC E (i*2+1) (A0 v))->Ck wy (AA E (L.length+1) z) (Cc L t v)/\A4 Aa w wy):=by
              intro wy hy;subst hy;have s1:=(aE.o.stored (i*2) (A0 t)).1;have s2:=(s1.stored (i*2+1) (A0 v)).1;have e:=La (L.take i++(x1,x2):: L.drop i) i (t,v) (by rw[aH.o];omega);simp only at e;rw[e,SO L (x1,x2) (t,v) i aR,<-aP.o]at s2;(have aK:(Cc L t v).length=L.length+1:=by rw[aP.o];simp;try omega);refine⟨?_,(aX.o.bh (p:=(A9 E (i*2))) (λh=>by simp at h;omega) _).bh (p:=(A9 E (i*2+1))) (λh=>by simp at h;omega) _⟩;unfold Ck;rw[aK];exact s2
             go_wp2;go_roundw
             ·exact⟨k+1,by omega,by go_num,by unfold Hid;rw[a5.o];exact(aB.o _ rfl).1,(aB.o _ rfl).2,by intro g I;simp[Value.ownBlock]at I;omega⟩
             ·simp[intOf];omega
        ·(obtain rfl:j=L.length:=by omega);(have aW:Hid (BF L t=L.length):=MH bX.o (Ao _) (λi hi h=>Y.o i hi h) λi hi h=>by omega);(have aP:Hid (Cc L t v=L.take L.length++(t,v):: L.drop L.length):=Uh v aW.o λh=>by omega);have aR:L.length<=L.length:=hj;(have aF:(L.length+1)*16<=140737488355328:=by omega);have aA:Hid (∀n,((O.drewN n).aC #[A0 0,A0 0] 70).ownsRow 0 70 2 (.slice aL L.length cL) L.length (B7 L)):=λn=>Au aI.o λg I=>CY _ _ _ (Aw aI.o I);have aV:Hid (∀n,Src Tryz.prog 2 66 (AA O.heap.size 1 1) 1 [A0 0,A0 0] ((O.drewN n).aC #[A0 0,A0 0] 70)):=
          λn=>Src.bc underlying66 (O.drewN n) #[A0 0,A0 0] 70 O.heap.size (by simp) 1 1 rfl (by simp[Value.oneCell'])
         have bB:Hid (∀n w3 a3 z,App ((O.drewN n).aC #[A0 0,A0 0] 70) w3 70 2 (.slice aL L.length cL) (.slice a3 (L.length+1) z) (L.length+1) (B7 L++[A0 0,A0 0])->
          w3.heap[X.heap.size]?=some (.cells #[A0 s,A0 t,A0 v] 141 (0,0))/\A4 Aa w w3/\(∀g,(Value.slice a3 (L.length+1) z).ownBlock=some g->w.heap.size<=g)/\w3.ownsRow 0 70 2 (.slice a3 (L.length+1) z) (L.length+1) (B7 (L.take L.length++(0,0):: L.drop L.length))):=by
          intro n w3 a3 z hA;have b7:=aQ.o.Ak;refine⟨?_,?_,?_,?_⟩
          ·have h5:((O.drewN n).aC #[A0 0,A0 0] 70).heap[X.heap.size]?=some (.cells #[A0 s,A0 t,A0 v] 141 (0,0)):=(CY _ _ _ (by simpa using By a0.o)).trans a0.o
           exact(hA.C7.block _ (By h5) (λe=>by
            have⟨c,hh⟩:=Bb (aA.o n) e.symm
            exact BR h5 hh (by decide) rfl)).trans h5
          ·exact((aQ.o.a7 n).aj _).C7 hA.C7 λk hk bW=>by have:=aD.o k hk;omega
          ·intro g I;rcases hA.BY with e|e
           ·rw[e]at I;exact aD.o g I
           ·rw[e]at I;cases I;simp;omega
          ·have:=hA.AB;rw[El (Ao _),It (Ao _),Lc];exact this
         go_wp2;go_quiet (fail);go_wp2;go_quiet (fail);go_wp2_with (at_builtin;refine CU rfl (.tmp 91) (.tmp 93) 66 66 rfl 70 i0 _ 2 16 underlying66 hi0 hz0 hz1 hz2 rfl (by decide) _ L.length (B7 L) (by rfl) (aA.o _) _ 1 _ (by rfl) (aV.o _) aF ?_;intro a3 z w3 hA;have bC:=A1 (bB.o _ w3 a3 z hA));have⟨hbx3,hc3,hfr3,hrow3⟩:=bC.o;have⟨_,_,e3,_,hcap3',h3s,_⟩:=B8 hrow3;cases e3;obtain⟨E,rfl⟩:=h3s (by omega);unfold maxLen at hcap3';have aT:=A1 hbx3;have a8:=A1 hc3;have aJ:=A1 hrow3;have bP:w.heap.size<=E:=hfr3 E rfl;go_loopw [20] (λkv wz=>∃i:Nat,L.length<=i/\i<=L.length/\kv=A0 i/\Hid (A4 Aa w wz)/\Hid (wz.heap[X.heap.size]?=some (.cells #[A0 s,A0 t,A0 v] 141 (0,0)))/\Hid (∃x,wz.ownsRow 0 70 2 (AA E (L.length+1) z) (L.length+1) (B7 (L.take i++x::L.drop i)))) (λkv _=>(intOf kv).toNat)
         ·exact⟨L.length,aR,Ao _,rfl,a8.o,aT.o,(0,0),aJ.o⟩
         ·obtain⟨i,b4,bG,rfl,aX,aG,bF⟩:=hrel;have⟨⟨x1,x2⟩,hrx⟩:=bF.o;have aE:=A1 hrx;have z0:=EK hrx (g:=E) rfl (i*2);have z1:=EK hrx (g:=E) rfl (i*2+1);(have xl:(L.take i++(x1,x2):: L.drop i).length=L.length+1:=by simp;omega);have o0:=Bv hrx (g:=E) rfl (MF _ i (by rw[xl];omega));have o1:=Bv hrx (g:=E) rfl (ME _ i (by rw[xl];omega));(have iB:(i:Int)<((L.length+1:Nat):Int):=by omega);have iA:=BJ i;have bD:(L.take i++(x1,x2):: L.drop i)[i]'(by rw[xl];omega)=(x1,x2):=by
           rw[Gd (by simp;omega)];simp[Nat.min_eq_left bG]
          rw[bD]at o0 o1;have aH:=A1 xl;(have iD:(i:Int)<(L.length:Int)+1:=by omega);by_cases b3:L.length<i
          ·omega
          ·(obtain rfl:i=L.length:=by omega);(have p1:A8 wr X.heap.size 1 (A0 t):=by simp[A8,World.cell?,aG.o]);(have p2:A8 wr X.heap.size 2 (A0 v):=by simp[A8,World.cell?,aG.o]);have aB:Hid (∀wy:gx,wy=((wr.sC E (L.length*2) (A0 t)).sC E (L.length*2+1) (A0 v))->Ck wy (AA E (L.length+1) z) (Cc L t v)/\A4 Aa w wy):=by
            intro wy hy;subst hy;have s1:=(aE.o.stored (L.length*2) (A0 t)).1;have s2:=(s1.stored (L.length*2+1) (A0 v)).1;have e:=La (L.take L.length++(x1,x2):: L.drop L.length) L.length (t,v) (by rw[aH.o];omega);simp only at e;rw[e,SO L (x1,x2) (t,v) L.length aR,<-aP.o]at s2;(have aK:(Cc L t v).length=L.length+1:=by rw[aP.o];simp;try omega);refine⟨?_,(aX.o.bh (p:=(A9 E (L.length*2))) (λh=>by simp at h;omega) _).bh (p:=(A9 E (L.length*2+1))) (λh=>by simp at h;omega) _⟩;unfold Ck;rw[aK];exact s2
           go_wp2;go_roundw
           ·exact⟨k+1,by omega,by go_num,by unfold Hid;rw[a5.o];exact(aB.o _ rfl).1,(aB.o _ rfl).2,by intro g I;simp[Value.ownBlock]at I;omega⟩
           ·simp[intOf];omega
   ·(have hs':(s==d)=false:=by simpa using hs);have hr:=A1 hs;go_wp2_with (go_at_call 123;refine(aS.o _).k ?_;rintro w' rfl);go_roundw
    ·exact aM.o (by have h0:=Cv hr.o;simp[h0])
    ·simp[intOf];omega
  ·(obtain rfl:k=m:=by omega);go_wp2;go_ret;exact⟨_,rfl,a1.o,aU.o,aD.o⟩
end
section
open Go.RowKit
structure SV (w:gx) (sb ab b:Nat) (mu ld wc A7:Int) (ro:Bool) (lv:Nat->gy) (L:Nat->gD Pt) (A:Ar) (P:PD) (F0:Nat->Prop):Prop where
 Ae:Bx w sb mu (.pointer (some ⟨ab,0,none⟩)) ld wc A7 ro lv
 E6:Es w lv L
 ar:AD w ab b A P F0
 lt:∀k,F0 k->k<w.heap.size
 ns:¬F0 sb
 nr:∀k,EW lv k->¬F0 k
def SF(w:gx)(sb ab b:Nat)(mu ld wc A7:Int)(ro:Bool)(L:Nat->gD Pt)(A:Ar)(P:PD)(FT:Nat->Prop):Prop:=
 ∃lv F0,SV w sb ab b mu ld wc A7 ro lv L A P F0/\∀k,F0 k\/Own sb lv k->FT k
section
variable{w w' w2:gx}{sb ab b:Nat}{mu aB ld wc A7 aA:Int}{ro aD:Bool}{lv lv':Nat->gy}{L L':Nat->gD Pt}{A A':Ar}{P P':PD}{F0 FT:Nat->Prop}
def SV.fx(h:SV w sb ab b mu ld wc A7 ro lv L A P F0){k:Nat}(d:F0 k\/Own sb lv k):k<w.heap.size:=by
 rcases d with d|rfl|d
 ·exact h.lt k d
 ·exact h.Ae.lt
 ·exact h.E6.lt d
def SV.nb(h:SV w sb ab b mu ld wc A7 ro lv L A P F0):¬EW lv sb:=h.E6.ne h.Ae (by decide)
def SV.Am(h:SV w sb ab b mu ld wc A7 ro lv L A P F0){S:Nat->Prop}(z:A4 S w w')(E:∀k,F0 k\/Own sb lv k->¬S k):SV w' sb ab b mu ld wc A7 ro lv L A P F0:=
 ⟨h.Ae.Am z (E sb (.inr (.inl rfl))),h.E6.Am z λg I=>E g (.inr (.inr I)),h.ar.aM (z.aw (λk d=>h.lt k d) λk d=>E k (.inl d)) z.Ak,
  λk d=>Bn (h.lt k d) z.Ak,h.ns,h.nr⟩
def SV.ak(h:SV w sb ab b mu ld wc A7 ro lv L A P F0)(d:A4 Aa w w'):SV w' sb ab b mu ld wc A7 ro lv L A P F0:=h.Am d λ_ _ h=>h
def SF.ak(h:SF w sb ab b mu ld wc A7 ro L A P FT)(E:A4 Aa w w'):SF w' sb ab b mu ld wc A7 ro L A P FT:=by
 obtain⟨lv,F0,z,d⟩:=h;exact⟨lv,F0,z.ak E,d⟩
def SV.bR(h:SV w' sb ab b mu ld wc A7 ro lv' L' A' P' F0){S:Nat->Prop}(O:A4 S w w')(E:∀k,k<w.heap.size->S k->FT k)(I:∀k,F0 k\/Own sb lv' k->FT k\/w.heap.size<=k):
 Ap w FT w' (λw' d=>SF w' sb ab b mu ld wc A7 ro L' A' P' d):=
 ⟨O.ai E,λk=>F0 k\/Own sb lv' k,⟨lv',F0,h,λ_ h=>h⟩,λ_ z=>h.fx z,I⟩
def SV.an(h:SV w sb ab b mu ld wc A7 ro lv L A P F0)(z:Eu w w' sb aB (.pointer (some ⟨ab,0,none⟩)) ld wc aA aD lv lv' L'):
 SV w' sb ab b aB ld wc aA aD lv' L' A P F0:=
 ⟨z.Ae,z.E6,h.ar.aM (z.Am.aw (λk d=>h.lt k d) λk d E=>by
  rcases E with rfl|E
  ·exact h.ns d
  ·exact h.nr k E d) z.Am.Ak,λk d=>Bn (h.lt k d) z.Am.Ak,h.ns,λk d E=>by
  rcases z.AB k d with I|I
  ·exact h.nr k I E
  ·have:=h.lt k E;omega⟩
def SV.cO(h:SV w sb ab b mu ld wc A7 ro lv L A P F0)(d:∀k,F0 k\/Own sb lv k->FT k)(I:Eu w w' sb aB (A5 ab) ld wc aA aD lv lv' L'):
 Ap w FT w' (λw' E=>SF w' sb ab b aB ld wc aA aD L' A P E):=
 (h.an I).bR I.Am (λk _ z=>d k (.inr z)) λk z=>by
  rcases z with z|rfl|z
  ·exact .inl (d k (.inl z))
  ·exact .inl (d _ (.inr (.inl rfl)))
  ·exact(I.AB k z).imp (λh=>d k (.inr (.inr h))) id
def SV.ew(h:SV w sb ab b mu ld wc A7 ro lv L A P F0)(d:∀k,F0 k\/Own sb lv k->FT k)(Y:Ap w F0 w' (λw' E=>AD w' ab b A' P' E)):
 Ap w FT w' (λw' E=>SF w' sb ab b mu ld wc A7 ro L A' P' E):=by
 obtain⟨W,aE,h1,h2,O⟩:=Y;have hb:=h.Ae.lt;refine(SV.bR (w':=w') (lv':=lv) (F0:=aE) ⟨h.Ae.Am W h.ns,h.E6.Am W h.nr,h1,h2,λX=>?_,λk z X=>?_⟩ W (λk _ z=>d k (.inl z)) λk z=>?_)
 ·rcases O _ X with I|I
  ·exact h.ns I
  ·omega
 ·rcases O _ X with I|I
  ·exact h.nr k z I
  ·have:=h.E6.lt z;omega
 ·rcases z with z|z
  ·exact(O k z).imp (λh=>d k (.inl h)) id
  ·exact .inl (d k (.inr z))
def SF.CO(h:SF w sb ab b mu ld wc A7 ro L A P FT)(o:Nat)(u:gy)(I:∀lv,Bx w sb mu (.pointer (some ⟨ab,0,none⟩)) ld wc A7 ro lv->Bx (w.setCell ⟨sb,o,none⟩ u) sb aB (.pointer (some ⟨ab,0,none⟩)) ld wc aA aD lv):
 Ap w FT (w.setCell ⟨sb,o,none⟩ u) (λw' z=>SF w' sb ab b aB ld wc aA aD L A P z):=by
 obtain⟨lv,F0,d,E⟩:=h;exact d.cO E (Eu.of (I lv d.Ae) d.E6 ((A4.C (One sb) w).ao rfl o u) d.nb)
def SFto.CO(h:Ap w FT w' (λw' d=>SF w' sb ab b mu ld wc A7 ro L A P d))(o:Nat)(u:gy)(E:∀lv,Bx w' sb mu (.pointer (some ⟨ab,0,none⟩)) ld wc A7 ro lv->Bx (w'.setCell ⟨sb,o,none⟩ u) sb aB (.pointer (some ⟨ab,0,none⟩)) ld wc aA aD lv):
 Ap w FT (w'.setCell ⟨sb,o,none⟩ u) (λw' d=>SF w' sb ab b aB ld wc aA aD L A P d):=
 h.AH λ_ z _ _=>z.CO o u E
def EB(L:Nat->gD Pt)(o:Int)(k:Nat)(t v:Int):Nat->gD Pt:=if o<=t then Hs L k (Cc (L k) t v) else L
def P8(L:Nat->gD Pt)(o:Int)(n:Nat)(t v:Int)(k:Nat):(EB L o n t v k).length<=(L k).length+1:=by
 unfold EB;split
 ·unfold Hs;split
  ·rename_i e;subst e;exact(Pg _ _ _).2
  ·omega
 ·omega
def U3(w:gx)(p:Pu)(h:SF w sb ab b mu ld wc A7 ro L A P FT)(Y:0<=p.1/\p.1<8)(E:∀k,k<8->(L k).length<1099511627000)(hl:1<=ld/\ld<=4611686018427387904)(hc:Ay A7):
 Ag 60 #[A5 sb,DK p] w (Aj (.tuple #[]) λw'=>Ap w FT w' (λw' W=>SF w' sb ab b mu ld wc A7 ro (EB L (AN A7 ld) p.1.toNat p.2.1 p.2.2) A P W)):=by
 obtain⟨k,t,v⟩:=p;obtain⟨lv,F0,d,X⟩:=h;unfold DK;dsimp only at Y ⊢;obtain⟨O,hk2⟩:=Y;obtain⟨n,rfl⟩:=Me O;have I:n<8:=by omega
 refine(A05 w sb n _ _ (by decide) A7 ld t v (L n) (lv n) I (d.E6.dU d.Ae I) (by have:=E n I;omega) rfl rfl hl hc).k ?_;rintro w' h3;refine⟨rfl,?_⟩;unfold EB;rw[ES];rcases h3 with⟨ho,lv',hR⟩|⟨ho,z⟩
 ·rw[Ai ho];have hlen:=(Pg (L n) t v).2;have⟨b1,b2,b3,b4⟩:=d.E6.an d.Ae I hR rfl (by have:=E n I;omega);exact d.cO X ⟨b1,b2,b3,b4⟩
 ·rw[Af (by omega)];exact(d.ak z).bR z (λ_ _ h=>h.elim) λk hk=>.inl (X k hk)
end
end
section
open Go.MuLone Go.RowKit
attribute [local go_sem ↓] Go.wp_at_zero Go.wp_at_succ CL
section
variable{w w' w2:gx}{sb ab b B:Nat}{mu ld wc A7:Int}{ro:Bool}{lv:Nat->gy}{L L':Nat->gD Pt}{A A':Ar}{P P':PD}{F0 FT:Nat->Prop}{a c m N:Nat}
def A4a(w:gx)(p:Pu)(h:SF w sb ab b mu ld wc A7 ro L A P FT)(_hFT:∀k,FT k->k<w.heap.size)(hp:Bm p)(hn:A.j.AB=none->CK (A.j.Ac+1)/\Ay (A.j.Ac+1)/\Ay A.j.pd)(aF:A.j.An.length<=1073741824)(hL:Lets B w)(aG:∀k,FT k->B<=k)(hF:Fit P a c m)(aH:CT (a+1) (c+1) (m+33))(aI:∀k,k<8->(L k).length<1099511627000)(hl:1<=ld/\ld<=4611686018427387904)(hc:Ay A7):
 Ag 66 #[A5 sb,DK p] w (Aj (A0 (A.af P p).2.1) λw'=>
  Ap w FT w' (λw' d=>SF w' sb ab b mu ld wc A7 ro (if (A.af P p).1=true then EB L (AN A7 ld) p.1.toNat p.2.1 p.2.2 else L) (A.af P p).2.2.1 (A.af P p).2.2.2 d)):=by
 have hA:A4 Aa w (w.alloc (.cells #[A0 p.1,A0 p.2.1,A0 p.2.2] 113)):=(A4.C _ w).aj _;have E:=Bl w (.cells #[A0 p.1,A0 p.2.1,A0 p.2.2] 113);have aA:w.heap.size<(w.alloc (.cells #[A0 p.1,A0 p.2.1,A0 p.2.2] 113)).heap.size:=by simp
 generalize aJ:(w.alloc (.cells #[A0 p.1,A0 p.2.1,A0 p.2.2] 113))=w0 at hA E aA;have O:A4 Aa w w0.drew:=hA.aa;obtain⟨lv,F0,h1,h2⟩:=h;have hV:=h1.ak O;have nx:¬F0 w.heap.size:=λhx=>Gs _ (h1.lt _ hx)
 have aB:Hid (Ag 105 #[A5 ab,DK p] w0.drew (Aj (.tuple #[.bool (A.af P p).1,A0 (A.af P p).2.1]) λz=>
  (A8 z sb 2 (A5 ab)/\z.heap[w.heap.size]?=some (.cells #[A0 p.1,A0 p.2.1,A0 p.2.2] 113 (0,0)))/\
  Ap w FT z (λw' d=>SF w' sb ab b mu ld wc A7 ro L (A.af P p).2.2.1 (A.af P p).2.2.2 d))):=by
  refine(A3P w0.drew p hV.ar hV.lt hp hn aF (hL.aL O) (λk hk=>aG k (h2 k (.inl hk))) hF aH).k ?_;rintro z I;exact⟨rfl,⟨(hV.Ae.Am I.1 hV.ns).c2,(I.1.Al _ aA nx).trans E⟩,(hV.ew h2 I).a1 O⟩
 have W:Hid (∀z,Ap w FT z (λw' d=>SF w' sb ab b mu ld wc A7 ro L (A.af P p).2.2.1 (A.af P p).2.2.2 d)->Ag 60 #[A5 sb,DK p] z (Aj (.tuple #[]) λw'=>
  Ap w FT w' (λw' d=>SF w' sb ab b mu ld wc A7 ro (EB L (AN A7 ld) p.1.toNat p.2.1 p.2.2) (A.af P p).2.2.1 (A.af P p).2.2.2 d))):=λz I=>by
  obtain⟨c1,F1,h3,h4,h5⟩:=I;refine(U3 z p h3 hp.1 aI hl hc).k ?_;rintro w' h6;exact⟨rfl,Ap.ba c1 h5 h6⟩
 have c2:A8 w0 sb 2 (A5 ab):=(h1.ak hA).Ae.c2;obtain⟨p1,Y,X⟩:=p;unfold DK at aB W ⊢;dsimp only at aB W E aJ ⊢;have q0:A8 w0 w.heap.size 0 (A0 p1):=D7 E;have q1:A8 w0 w.heap.size 1 (A0 Y):=D7 E;have q2:A8 w0 w.heap.size 2 (A0 X):=D7 E;generalize hR:A.af P (p1,Y,X)=R at aB W ⊢;obtain⟨aD,R2,R3,R4⟩:=R;dsimp only at aB W ⊢;generalize hL2:EB L (AN A7 ld) p1.toNat Y X=L2 at W ⊢;have tail:∀aD:Bool,aD=true\/aD=false:=by intro x;cases x<;>simp
 go_enter func66,ntmps66
 go_wp2;refine Br (λw'=>A8 w' sb 2 (A5 ab)/\A8 w' w.heap.size 0 (A0 p1)/\A8 w' w.heap.size 1 (A0 Y)/\A8 w' w.heap.size 2 (A0 X)) 10
  (Ba [0,1,2,3,4,5,6,7,8,9] [5]) ⟨c2,q0,q1,q2⟩ ?_
 iterate 5 refine B4 ?_
 refine Bf λK hK=>?_;go_simp;refine aB.k ?_;rintro z⟨⟨y2,hh⟩,I⟩;have r0:A8 z w.heap.size 0 (A0 p1):=D7 hh;have r1:A8 z w.heap.size 1 (A0 Y):=D7 hh;have r2:A8 z w.heap.size 2 (A0 X):=D7 hh;refine hK _ _ ⟨y2,r0,r1,r2⟩ (λhS=>?_);have aE:=A1 (W.o z I);have aL:=A1 I
 iterate 4 refine B4 ?_
 refine Bo ?_;cases aD
 ·go_wp2;go_ret;exact⟨rfl,by simpa using aL.o⟩
 ·go_wp2_with (go_at_call 60;refine aE.k ?_;rintro w2 hS;have aK:=A1 hS);go_ret;exact⟨rfl,by simpa using aK.o⟩
def V7(w:gx)(d:gy)(h:Bx w sb mu (A5 ab) ld wc A7 true lv):
 Ag 64 #[A5 sb,d] w (Aj (A0 4) λw'=>w=w'):=by
 have c6:=h.cR
 go_enter func64,ntmps64
 go_wp2;go_ret;exact⟨rfl,rfl⟩
def A3i(w:gx)(x:Nat)(n:Int)(h:SF w sb ab b mu ld wc A7 false L A P FT)(aB:Ag 65 #[A5 x,A5 (x+1),A5 (x+2),A5 (x+3)] w (Aj (A0 n) λw'=>Ap w FT w' (λw' d=>SF w' sb ab b mu ld wc A7 false L' A' P' d))):
 Ag 64 #[A5 sb,.func (Fn.func 65) #[] #[A5 x,A5 (x+1),A5 (x+2),A5 (x+3)]] w (Aj (A0 n) λw'=>Ap w FT w' (λw' d=>SF w' sb ab b mu ld wc A7 (decide (n≠0)) L' A' P' d)):=by
 obtain⟨lv,F0,h1,h2⟩:=h;have c6:=h1.Ae.cR;have X:=A1 aB;by_cases W:n=0
 ·subst W
  go_enter func64,ntmps64
  go_wp2_with (go_at_call 65;refine X.k ?_;rintro w2 E;have O:=A1 E;obtain⟨-,aA,⟨I,aD,z,-⟩,-,-⟩:=E;have y6:=z.Ae.cR;have f6:=z.Ae.fz 6);go_ret;exact⟨rfl,SFto.CO O.o 6 _ λlv h=>h.sR false⟩
 ·have hb:(n !=0)=true:=by simpa using W
  have Y:decide (n≠0)=true:=by simpa using W
  rw[Y]
  go_enter func64,ntmps64
  go_wp2_with (go_at_call 65;refine X.k ?_;rintro w2 E;have O:=A1 E;obtain⟨-,aA,⟨I,aD,z,-⟩,-,-⟩:=E;have y6:=z.Ae.cR;have f6:=z.Ae.fz 6);go_ret;exact⟨rfl,SFto.CO O.o 6 _ λlv h=>h.sR true⟩
def A3j(w:gx)(x:Nat)(n:Int)(h:SF w sb ab b mu ld wc A7 false L A P FT)(aB:Ag 67 #[A5 x] w (Aj (A0 n) λw'=>Ap w FT w' (λw' d=>SF w' sb ab b mu ld wc A7 false L' A' P' d))):
 Ag 64 #[A5 sb,.func (Fn.func 67) #[] #[A5 x]] w (Aj (A0 n) λw'=>Ap w FT w' (λw' d=>SF w' sb ab b mu ld wc A7 (decide (n≠0)) L' A' P' d)):=by
 obtain⟨lv,F0,h1,h2⟩:=h;have c6:=h1.Ae.cR;have X:=A1 aB;by_cases W:n=0
 ·subst W
  go_enter func64,ntmps64
  go_wp2_with (go_at_call 67;refine X.k ?_;rintro w2 E;have O:=A1 E;obtain⟨-,aA,⟨I,aD,z,-⟩,-,-⟩:=E;have y6:=z.Ae.cR;have f6:=z.Ae.fz 6);go_ret;exact⟨rfl,SFto.CO O.o 6 _ λlv h=>h.sR false⟩
 ·have hb:(n !=0)=true:=by simpa using W
  have Y:decide (n≠0)=true:=by simpa using W
  rw[Y]
  go_enter func64,ntmps64
  go_wp2_with (go_at_call 67;refine X.k ?_;rintro w2 E;have O:=A1 E;obtain⟨-,aA,⟨I,aD,z,-⟩,-,-⟩:=E;have y6:=z.Ae.cR;have f6:=z.Ae.fz 6);go_ret;exact⟨rfl,SFto.CO O.o 6 _ λlv h=>h.sR true⟩
def A3k(w:gx)(x:Nat)(n:Int)(h:SF w sb ab b mu ld wc A7 false L A P FT)(aB:Ag 69 #[A5 x] w (Aj (A0 n) λw'=>Ap w FT w' (λw' d=>SF w' sb ab b mu ld wc A7 false L' A' P' d))):
 Ag 64 #[A5 sb,.func (Fn.func 69) #[] #[A5 x]] w (Aj (A0 n) λw'=>Ap w FT w' (λw' d=>SF w' sb ab b mu ld wc A7 (decide (n≠0)) L' A' P' d)):=by
 obtain⟨lv,F0,h1,h2⟩:=h;have c6:=h1.Ae.cR;have X:=A1 aB;by_cases W:n=0
 ·subst W
  go_enter func64,ntmps64
  go_wp2_with (go_at_call 69;refine X.k ?_;rintro w2 E;have O:=A1 E;obtain⟨-,aA,⟨I,aD,z,-⟩,-,-⟩:=E;have y6:=z.Ae.cR;have f6:=z.Ae.fz 6);go_ret;exact⟨rfl,SFto.CO O.o 6 _ λlv h=>h.sR false⟩
 ·have hb:(n !=0)=true:=by simpa using W
  have Y:decide (n≠0)=true:=by simpa using W
  rw[Y]
  go_enter func64,ntmps64
  go_wp2_with (go_at_call 69;refine X.k ?_;rintro w2 E;have O:=A1 E;obtain⟨-,aA,⟨I,aD,z,-⟩,-,-⟩:=E;have y6:=z.Ae.cR;have f6:=z.Ae.fz 6);go_ret;exact⟨rfl,SFto.CO O.o 6 _ λlv h=>h.sR true⟩
def A3h(w:gx)(_x:Nat)(n:Int)(h:SF w sb ab b mu ld wc A7 false L A P FT)(aB:Ag 74 #[A5 ab] w (Aj (A0 n) λw'=>Ap w FT w' (λw' d=>SF w' sb ab b mu ld wc A7 false L' A' P' d))):
 Ag 64 #[A5 sb,.func (Fn.func 74) #[A5 ab] #[]] w (Aj (A0 n) λw'=>Ap w FT w' (λw' d=>SF w' sb ab b mu ld wc A7 (decide (n≠0)) L' A' P' d)):=by
 obtain⟨lv,F0,h1,h2⟩:=h;have c6:=h1.Ae.cR;have X:=A1 aB;by_cases W:n=0
 ·subst W
  go_enter func64,ntmps64
  go_wp2_with (go_at_call 74;refine X.k ?_;rintro w2 E;have O:=A1 E;obtain⟨-,aA,⟨I,aD,z,-⟩,-,-⟩:=E;have y6:=z.Ae.cR;have f6:=z.Ae.fz 6);go_ret;exact⟨rfl,SFto.CO O.o 6 _ λlv h=>h.sR false⟩
 ·have hb:(n !=0)=true:=by simpa using W
  have Y:decide (n≠0)=true:=by simpa using W
  rw[Y]
  go_enter func64,ntmps64
  go_wp2_with (go_at_call 74;refine X.k ?_;rintro w2 E;have O:=A1 E;obtain⟨-,aA,⟨I,aD,z,-⟩,-,-⟩:=E;have y6:=z.Ae.cR;have f6:=z.Ae.fz 6);go_ret;exact⟨rfl,SFto.CO O.o 6 _ λlv h=>h.sR true⟩
end
def boxed(w:gx)(sb:Nat)(k t v:Int):World:=
 (((w.alloc (.cells #[.pointer (some ⟨sb,0,none⟩)] 36)).alloc (.cells #[.int .i64 k] 3)).alloc (.cells #[.int .i64 t] 3)).alloc (.cells #[.int .i64 v] 3)
def J5(w:gx)(x sb:Nat)(k t v:Int):Prop:=
 w.cell? ⟨x,0,none⟩=some (.pointer (some ⟨sb,0,none⟩))/\w.cell? ⟨x+1,0,none⟩=some (.int .i64 k)/\w.cell? ⟨x+2,0,none⟩=some (.int .i64 t)/\w.cell? ⟨x+3,0,none⟩=some (.int .i64 v)
section
variable{w w' w2:gx}{sb ab b B:Nat}{mu ld wc A7:Int}{ro:Bool}{lv:Nat->gy}{L L':Nat->gD Pt}{A A':Ar}{P P':PD}{F0 FT:Nat->Prop}{a c m N:Nat}
def Q5(w:gx)(sb:Nat)(k t v:Int):A4 Aa w (boxed w sb k t v):=((((A4.C _ w).aj _).aj _).aj _).aj _
def A3v(w:gx)(sb:Nat)(k t v:Int):(boxed w sb k t v).heap.size=w.heap.size+4:=by unfold boxed;simp
def Q6(w:gx)(sb:Nat)(k t v:Int):J5 (boxed w sb k t v) w.heap.size sb k t v:=by
 unfold boxed;refine⟨?_,?_,?_,?_⟩
 all_goals unfold World.cell?
 ·rw[CY _ _ _ (by simp;try omega),CY _ _ _ (by simp;try omega),CY _ _ _ (by simp),Bl];rfl
 ·rw[CY _ _ _ (by simp;try omega),CY _ _ _ (by simp)];have:=Bl (w.aC #[A5 sb] 36) (.cells #[A0 k] 3);have e:(w.aC #[A5 sb] 36).heap.size=w.heap.size+1:=by simp
  rw[e]at this;simp only[this];rfl
 ·rw[CY _ _ _ (by simp)];have:=Bl ((w.aC #[A5 sb] 36).aC #[A0 k] 3) (.cells #[A0 t] 3);have e:((w.aC #[A5 sb] 36).aC #[A0 k] 3).heap.size=w.heap.size+2:=by simp
  rw[e]at this;simp only[this];rfl
 ·have:=Bl (((w.aC #[A5 sb] 36).aC #[A0 k] 3).aC #[A0 t] 3) (.cells #[A0 v] 3);have e:(((w.aC #[A5 sb] 36).aC #[A0 k] 3).aC #[A0 t] 3).heap.size=w.heap.size+3:=by simp
  rw[e]at this;simp only[this];rfl
def J5.Am{S:Nat->Prop}{x:Nat}{k t v:Int}(h:J5 w x sb k t v)(hc:A4 S w w')(hS:∀i,i<4->¬S (x+i)):J5 w' x sb k t v:=by
 obtain⟨E,O,z,X⟩:=h;have d:∀i u,i<4->w.cell? (A9 (x+i) 0)=some u->w'.cell? (A9 (x+i) 0)=some u:=λi u Y hu=>by
  have I:=GO w _ hu;have W:=hc.Al (x+i) I (hS i Y);unfold World.cell? at hu ⊢;rw[W];exact hu
 exact⟨d 0 _ (by omega) E,d 1 _ (by omega) O,d 2 _ (by omega) z,d 3 _ (by omega) X⟩
def Zk(w:gx)(x:Nat)(p:Pu)(n:Int)(Q:gx->Prop)(h:J5 w x sb p.1 p.2.1 p.2.2)(d:Ag 66 #[A5 sb,DK p] w (Aj (A0 n) λw'=>Q w')):
 Ag 65 #[A5 x,A5 (x+1),A5 (x+2),A5 (x+3)] w (Aj (A0 n) λw'=>Q w'):=by
 obtain⟨p1,p2,p3⟩:=p;unfold DK at d;dsimp only at d h;obtain⟨x0,x1,x2,x3⟩:=h;have z:=A1 d
 go_enter func65,ntmps65
 go_wp2_with (go_at_call 66;refine z.k ?_;rintro w2 I;have E:=A1 I);go_ret;exact⟨rfl,E.o⟩
def SF.bH(h:SF w sb ab b 0 ld wc A7 ro L A P FT):Ap w FT (w.setCell ⟨sb,0,none⟩ (.int .i32 1)) (λw' d=>SF w' sb ab b 1 ld wc A7 ro L A P d):=h.CO 0 _ λ_ h=>h.s0 1
def Sz(w:gx)(p:Pu)(h:SF w sb ab b 0 ld wc A7 false L A P FT)(aD:∀k,FT k->k<w.heap.size)(hp:Bm p)(hn:A.j.AB=none->CK (A.j.Ac+1)/\Ay (A.j.Ac+1)/\Ay A.j.pd)(aA:A.j.An.length<=1073741824)(hL:Lets B w)(I:∀k,FT k->B<=k)(hF:Fit P a c m)(aF:CT (a+1) (c+1) (m+33))(aH:∀k,k<8->(L k).length<1099511627000)(hl:1<=ld/\ld<=4611686018427387904)(hc:Ay A7):
 Ag 23 #[A5 sb,A0 p.1,A0 p.2.1,A0 p.2.2] w (Aj (A0 (A.af P p).2.1) λw'=>
  Ap w FT w' (λw' d=>SF w' sb ab b 0 ld wc A7 (decide ((A.af P p).2.1≠0)) (if (A.af P p).1=true then EB L (AN A7 ld) p.1.toNat p.2.1 p.2.2 else L) (A.af P p).2.2.1 (A.af P p).2.2.2 d)):=by
 have aL:Hid (∀w',Ag 63 #[A0 p.1] w' λe O=>e=.returned (.bool true)/\w'=O):=λw'=>by
  have:=Lt w' p.1
  rwa [Cu hp.1]at this
 have X:=Q5 w sb p.1 p.2.1 p.2.2;have hX:=Q6 w sb p.1 p.2.1 p.2.2;have hZ:=A3v w sb p.1 p.2.1 p.2.2;generalize aK:boxed w sb p.1 p.2.1 p.2.2=w0 at X hX hZ;unfold boxed at aK;have hV:=h.ak X;have Y:=hL.aL X;have z:=hV.bH;have E:J5 (w0.sC sb 0 (.int .i32 1)) w.heap.size sb p.1 p.2.1 p.2.2:=hX.Am z.1 λi _ hx=>by have:=aD _ hx;omega
 have aJ:Hid (Ap w FT (w0.sC sb 0 (.int .i32 1)) (λw' d=>SF w' sb ab b 1 ld wc A7 false L A P d)):=z.a1 X;have⟨k1,F1,s1,s2,s3⟩:=aJ.o;have aB:=Y.al z.1 I;have aE:=hL.1
 have W:=A1 (A3i (w0.sC sb 0 (.int .i32 1)) w.heap.size (A.af P p).2.1 s1 (Zk _ w.heap.size p _ _ E
  (A4a _ p s1 s2 hp hn aA aB (λk hk=>(s3 k hk).elim (I k) λh=>AP aE h) hF aF aH hl hc)))
 have ST:Hid (∀wx R,Ap (w0.sC sb 0 (.int .i32 1)) F1 wx R->Ap w FT wx R):=λwx R h=>Ap.ba k1 s3 h;obtain⟨x0,x1,x2,x3⟩:=hX;obtain⟨y0,y1,y2,y3⟩:=E;have c0:A8 w0 sb 0 (.int .i32 0):=by obtain⟨lv,F0,q,-⟩:=hV;exact q.Ae.c0
 have f0:w0.frozen? (A9 sb 0)=false:=by obtain⟨lv,F0,q,-⟩:=hV;exact q.Ae.fz 0
 obtain⟨p1,p2,p3⟩:=p;dsimp only at *;generalize hR:A.af P (p1,p2,p3)=R at W ⊢;obtain⟨aN,R2,R3,R4⟩:=R;dsimp only at W ⊢;generalize hL2:(if aN=true then EB L (AN A7 ld) p1.toNat p2 p3 else L)=L2 at W ⊢
 go_enter_defers func23,ntmps23
 go_wp2_with (first
  | (go_at_call 61;refine(Ih Tryz.bp (A9 sb 0) _ c0 f0).k ?_;rintro w' rfl)
  | (go_at_call 63;refine(aL.o _).k ?_;rintro w' rfl))
 refine W.k ?_;rintro w2 hS;have aI:=A1 (ST.o _ _ hS);go_wp2;refine Ii (f:=62) (args:=#[A5 sb]) (by simp) (by simp[go_sem]) ?_;refine(Ie Tryz.bp (A9 sb 0) .returning _ ?_ ?_).mono ?_
 ·obtain⟨-,aM,⟨aG,aO,a1,-⟩,-,-⟩:=aI.o;exact a1.Ae.c0
 ·obtain⟨-,aM,⟨aG,aO,a1,-⟩,-,-⟩:=aI.o;exact a1.Ae.fz 0
 rintro e u' O⟨rfl,rfl,rfl⟩;exact⟨_,Kb rfl _ _ _,rfl,SFto.CO aI.o 0 _ λlv h=>h.s0 0⟩
def A1U(w:gx)(x:Nat)(n:Int)(Q:gx->Prop)(h:Bx w sb mu (A5 ab) ld wc A7 ro lv)(W:A8 w x 0 (A5 sb))(d:Ag 68 #[A5 ab,A0 wc] w.drew (Aj (A0 n) λw'=>Q w')):
 Ag 67 #[A5 x] w (Aj (A0 n) λw'=>Q w'):=by
 have c2:=h.c2;have I:=h.cW;have z:=A1 d
 go_enter func67,ntmps67
 go_wp2;refine Br (λw'=>A8 w' x 0 (A5 sb)/\A8 w' sb 2 (A5 ab)/\A8 w' sb 4 (A0 wc)) 8
  (Ba [0,1,2,3,4,5,6,7] []) ⟨W,c2,I⟩ ?_
 iterate 8 refine B4 ?_
 refine Bo ?_;go_wp2_with (go_at_call 68;refine z.k ?_;rintro w2 E;have O:=A1 E);go_ret;exact⟨rfl,O.o⟩
def A26(w:gx)(x:Nat)(n o:Int)(Q:gx->Prop)(h:Bx w sb mu (A5 ab) ld wc A7 ro lv)(W:A8 w x 0 (A5 sb))(aE:Ag 71 #[A5 sb] w.drew (Aj (A0 o) λw'=>A4 Aa w.drew w'))(Y:∀w2,A4 Aa w w2->Ag 70 #[A5 ab,A0 wc,A0 o] w2 (Aj (A0 n) λw'=>Q w')):
 Ag 69 #[A5 x] w (Aj (A0 n) λw'=>Q w'):=by
 have c2:=h.c2;have O:=h.cW;have aA:=A1 Y;have aB:Hid (Ag 71 #[A5 sb] w.drew (Aj (A0 o) λw'=>(A8 w' x 0 (A5 sb)/\A8 w' sb 2 (A5 ab)/\A8 w' sb 4 (A0 wc))/\A4 Aa w w')):=by
  refine aE.k ?_;rintro w' z;have d:A4 Aa w w':=(A4.C _ w).aa.tr z;exact⟨rfl,⟨d.ah W,d.ah c2,d.ah O⟩,d⟩
 go_enter func69,ntmps69
 go_wp2;refine Br (λw'=>A8 w' x 0 (A5 sb)/\A8 w' sb 2 (A5 ab)/\A8 w' sb 4 (A0 wc)) 10
  (Ba [0,1,2,3,4,5,6,7,8,9] [9]) ⟨W,c2,O⟩ ?_
 iterate 9 refine B4 ?_
 refine Bf λK hK=>?_;go_simp;refine aB.k ?_;rintro w2⟨E,z⟩;refine hK _ _ E (λX=>?_);have I:=A1 (aA.o w2 z);refine Bo ?_;go_wp2_with (go_at_call 70;refine I.k ?_;rintro w3 X;have aD:=A1 X);go_ret;exact⟨rfl,aD.o⟩
def Ru(w:gx)(f g:Nat)(O:(f=24/\g=67)\/(f=25/\g=69))(n:Int)(Q:gx->Prop)(c0:w.cell? (A9 sb 0)=some (.int .i32 0))(f0:w.frozen? (A9 sb 0)=false)(hz:sb<w.heap.size)(aB:∀X,X=(w.alloc (.cells #[A5 sb] 36)).setCell (A9 sb 0) (.int .i32 1)->Ag 64 #[A5 sb,.func (Fn.func g) #[] #[A5 w.heap.size]] X (Aj (A0 n) λw'=>w'.cell? (A9 sb 0)=some (.int .i32 1)/\w'.frozen? (A9 sb 0)=false/\Q w')):
 Ag f #[A5 sb] w (Aj (A0 n) λw'=>∃w2,Q w2/\w'=w2.setCell (A9 sb 0) (.int .i32 0)):=by
 have hA:A4 Aa w (w.alloc (.cells #[A5 sb] 36)):=(A4.C _ w).aj _;have E:=Bl w (.cells #[A5 sb] 36);have a0:=hA.ah c0;have Y:(w.alloc (.cells #[A5 sb] 36)).frozen? (A9 sb 0)=false:=by
  have z:=hA.Al sb hz (λh=>h);unfold World.frozen? at f0 ⊢;rw[z];exact f0
 have aA:=A1 (aB _ rfl);have I:(w.alloc (.cells #[A5 sb] 36)).cell? (A9 w.heap.size 0)=some (A5 sb):=D7 E;have d:w.heap.size≠sb:=by omega
 have b1:((w.alloc (.cells #[A5 sb] 36)).sC sb 0 (.int .i32 1)).cell? (A9 w.heap.size 0)=some (A5 sb):=by
  have W:=(A4.C (One sb) (w.alloc (.cells #[A5 sb] 36))).ao (b:=sb) rfl 0 (.int .i32 1);have z:=W.Al w.heap.size (by simp) (λh=>d h);unfold World.cell? at I ⊢;rw[z];exact I
 generalize hw0:(w.alloc (.cells #[A5 sb] 36))=w0 at a0 Y aA I b1;rcases O with⟨rfl,rfl⟩|⟨rfl,rfl⟩
 focus go_enter_defers func24,ntmps24
 rotate_left
 focus go_enter_defers func25,ntmps25
 all_goals
  go_wp2_with (go_at_call 61;refine(Ih Tryz.bp (A9 sb 0) _ a0 Y).k ?_;rintro w' rfl);refine aA.k ?_;rintro w2⟨u0,uf,hS⟩;have aD:=A1 hS;go_wp2;refine Ii (f:=62) (args:=#[A5 sb]) (by simp) (by simp[go_sem]) ?_;refine(Ie Tryz.bp (A9 sb 0) .returning _ ?_ ?_).mono ?_
  ·exact u0
  ·exact uf
  rintro e u' w''⟨rfl,rfl,rfl⟩;exact⟨_,Kb rfl _ _ _,rfl,_,aD.o,rfl⟩
def Rt(w:gx)(n:Int)(Q:gx->Prop)(c0:w.cell? (A9 sb 0)=some (.int .i32 0))(f0:w.frozen? (A9 sb 0)=false)(z:sb<w.heap.size)(h:∀d,d=(w.alloc (.cells #[A5 sb] 36)).setCell (A9 sb 0) (.int .i32 1)->Ag 64 #[A5 sb,.func (Fn.func 67) #[] #[A5 w.heap.size]] d (Aj (A0 n) λw'=>w'.cell? (A9 sb 0)=some (.int .i32 1)/\w'.frozen? (A9 sb 0)=false/\Q w')):
 Ag 24 #[A5 sb] w (Aj (A0 n) λw'=>∃w2,Q w2/\w'=w2.setCell (A9 sb 0) (.int .i32 0)):=
 Ru w _ _ (.inl ⟨rfl,rfl⟩) n Q c0 f0 z h
def Rv(w:gx)(n:Int)(Q:gx->Prop)(c0:w.cell? (A9 sb 0)=some (.int .i32 0))(f0:w.frozen? (A9 sb 0)=false)(z:sb<w.heap.size)(h:∀d,d=(w.alloc (.cells #[A5 sb] 36)).setCell (A9 sb 0) (.int .i32 1)->Ag 64 #[A5 sb,.func (Fn.func 69) #[] #[A5 w.heap.size]] d (Aj (A0 n) λw'=>w'.cell? (A9 sb 0)=some (.int .i32 1)/\w'.frozen? (A9 sb 0)=false/\Q w')):
 Ag 25 #[A5 sb] w (Aj (A0 n) λw'=>∃w2,Q w2/\w'=w2.setCell (A9 sb 0) (.int .i32 0)):=
 Ru w _ _ (.inr ⟨rfl,rfl⟩) n Q c0 f0 z h
def Rs(w:gx)(n:Int)(Q:gx->Prop)(c0:A8 w sb 0 (.int .i32 0))(f0:w.frozen? (A9 sb 0)=false)(c2:A8 (w.setCell (A9 sb 0) (.int .i32 1)) sb 2 (A5 ab))(I:Ag 64 #[A5 sb,.func (Fn.func 74) #[A5 ab] #[]] (w.setCell (A9 sb 0) (.int .i32 1)) (Aj (A0 n) λw'=>A8 w' sb 0 (.int .i32 1)/\w'.frozen? (A9 sb 0)=false/\Q w')):
 Ag 31 #[A5 sb] w (Aj (A0 n) λw'=>∃w2,Q w2/\w'=w2.setCell (A9 sb 0) (.int .i32 0)):=by
 have O:=A1 I
 go_enter_defers func31,ntmps31
 go_wp2_with (go_at_call 61;refine(Ih Tryz.bp (A9 sb 0) _ c0 f0).k ?_;rintro w' rfl);refine O.k ?_;rintro w2⟨z,d,h⟩;have E:=A1 h;go_wp2;refine Ii (f:=62) (args:=#[A5 sb]) (by simp) (by simp[go_sem]) ?_;refine(Ie Tryz.bp (A9 sb 0) .returning _ ?_ ?_).mono ?_
 ·exact z
 ·exact d
 rintro e u' w''⟨rfl,rfl,rfl⟩;exact⟨_,Kb rfl _ _ _,rfl,_,E.o,rfl⟩
end
end
section
open Go.MuLone Go.RowKit
section
variable{w w' w2:gx}{sb ab b B:Nat}{mu ld wc A7:Int}{ro:Bool}{lv:Nat->gy}{L L':Nat->gD Pt}{A A':Ar}{P P':PD}{F0 FT:Nat->Prop}{a c m N:Nat}
def SF.c0(h:SF w sb ab b mu ld wc A7 ro L A P FT):A8 w sb 0 (.int .i32 mu)/\w.frozen? (A9 sb 0)=false/\sb<w.heap.size/\A8 w sb 2 (A5 ab):=by
 obtain⟨lv,F0,q,-⟩:=h;exact⟨q.Ae.c0,q.Ae.fz 0,q.Ae.lt,q.Ae.c2⟩
def SF.b8(h:SF w sb ab b mu ld wc A7 ro L A P FT)(E:∀k,FT k->B<=k)(f:Nat)(args:gD gy)(n:Int)(Y:Lets B w)(O:∀z F0,AD z ab b A P F0->(∀k,F0 k->k<z.heap.size)->Lets B z->(∀k,F0 k->B<=k)->Calls Tryz.prog f args.toArray z λe w'=>e=.returned (.int .i64 n)/\Ap z F0 w' (λw' d=>AD w' ab b A' P' d)):
 Calls Tryz.prog f args.toArray w λe w'=>e=.returned (.int .i64 n)/\Ap w FT w' (λw' d=>SF w' sb ab b mu ld wc A7 ro L A' P' d):=by
 obtain⟨lv,F0,q,I⟩:=h;refine(O w F0 q.ar q.lt Y (λk W=>E k (I k (.inl W)))).k ?_;rintro w' X;exact⟨rfl,q.ew I X⟩
def A1T(w:gx)(n:Int)(h:SF w sb ab b 0 ld wc A7 false L A P FT)(aD:∀k,FT k->k<w.heap.size)(hL:Lets B w)(W:∀k,FT k->B<=k)(aK:∀d F0,AD d ab b A P F0->(∀k,F0 k->k<d.heap.size)->Lets B d->(∀k,F0 k->B<=k)->Ag 68 #[A5 ab,A0 wc] d (Aj (A0 n) λw'=>Ap d F0 w' (λw' z=>AD w' ab b A' P' z))):
 Ag 24 #[A5 sb] w (Aj (A0 n) λw'=>Ap w FT w' (λw' z=>SF w' sb ab b 0 ld wc A7 (decide (n≠0)) L A' P' z)):=by
 obtain⟨c0,f0,hz,-⟩:=h.c0;have X:A4 Aa w (w.aC #[A5 sb] 36):=(A4.C _ w).aj _;have aA:=Bl w (.cells #[A5 sb] 36);have aE:=hL.1;refine(Rt w n (λw2=>Ap w FT w2 (λw' z=>SF w' sb ab b 1 ld wc A7 (decide (n≠0)) L A' P' z)) c0 f0 hz (λd aH=>?_)).mono ?_
 ·have I:=(h.ak X).bH;rw[<-aH]at I;obtain⟨Y,aF,s1,s2,s3⟩:=I;have aB:=(hL.aL X).al Y W;have b0:(w.aC #[A5 sb] 36).cell? (A9 w.heap.size 0)=some (A5 sb):=D7 aA;have hx:d.cell? (A9 w.heap.size 0)=some (A5 sb):=by
   have hb:=Y.Al w.heap.size (by simp) (λhx=>Gs _ (aD _ hx));unfold World.cell? at b0 ⊢;rw[hb];exact b0
  have O:∀k,aF k->B<=k:=λk hk=>(s3 k hk).elim (W k) λh=>AP aE (AP X.Ak h)
  obtain⟨aG,aJ,q,hs⟩:=s1;have s1:SF d sb ab b 1 ld wc A7 false L A P aF:=⟨aG,aJ,q,hs⟩;have body:Ag 67 #[A5 w.heap.size] d (Aj (A0 n) λw'=>Ap d aF w' (λw' z=>SF w' sb ab b 1 ld wc A7 false L A' P' z)):=by
   have kd:A4 Aa d d.drew:=(A4.C _ d).aa;refine A1U d w.heap.size n _ q.Ae hx ?_;refine((s1.ak kd).b8 O _ [A5 ab,A0 wc] n (aB.aL kd) aK).k ?_;rintro w' E;exact⟨rfl,E.a1 kd⟩
  refine(A3j d w.heap.size n s1 body).k ?_;rintro w' E;have aI:=(Ap.ba Y s3 E).a1 X;obtain⟨-,F3,q3,-,-⟩:=E;obtain⟨d0,df,-,-⟩:=q3.c0;exact⟨rfl,d0,df,aI⟩
 ·rintro e w'⟨rfl,w2,E,rfl⟩;exact⟨rfl,SFto.CO E 0 _ λlv h=>h.s0 0⟩
def A24(w:gx)(n:Int)(h:SF w sb ab b 0 ld wc A7 false L A P FT)(aD:∀k,FT k->k<w.heap.size)(hL:Lets B w)(W:∀k,FT k->B<=k)(hl:1<=ld/\ld<=4611686018427387904)(hc:Ay A7)(aK:∀d F0,AD d ab b A P F0->(∀k,F0 k->k<d.heap.size)->Lets B d->(∀k,F0 k->B<=k)->Ag 70 #[A5 ab,A0 wc,A0 (AN A7 ld)] d (Aj (A0 n) λw'=>Ap d F0 w' (λw' z=>AD w' ab b A' P' z))):
 Ag 25 #[A5 sb] w (Aj (A0 n) λw'=>Ap w FT w' (λw' z=>SF w' sb ab b 0 ld wc A7 (decide (n≠0)) L A' P' z)):=by
 obtain⟨c0,f0,hz,-⟩:=h.c0;have X:A4 Aa w (w.aC #[A5 sb] 36):=(A4.C _ w).aj _;have aA:=Bl w (.cells #[A5 sb] 36);have aE:=hL.1;refine(Rv w n (λw2=>Ap w FT w2 (λw' z=>SF w' sb ab b 1 ld wc A7 (decide (n≠0)) L A' P' z)) c0 f0 hz (λd aH=>?_)).mono ?_
 ·have I:=(h.ak X).bH;rw[<-aH]at I;obtain⟨Y,aF,s1,s2,s3⟩:=I;have aB:=(hL.aL X).al Y W;have b0:(w.aC #[A5 sb] 36).cell? (A9 w.heap.size 0)=some (A5 sb):=D7 aA;have hx:d.cell? (A9 w.heap.size 0)=some (A5 sb):=by
   have hb:=Y.Al w.heap.size (by simp) (λhx=>Gs _ (aD _ hx));unfold World.cell? at b0 ⊢;rw[hb];exact b0
  have O:∀k,aF k->B<=k:=λk hk=>(s3 k hk).elim (W k) λh=>AP aE (AP X.Ak h)
  obtain⟨aG,aJ,q,hs⟩:=s1;have s1:SF d sb ab b 1 ld wc A7 false L A P aF:=⟨aG,aJ,q,hs⟩;have body:Ag 69 #[A5 w.heap.size] d (Aj (A0 n) λw'=>Ap d aF w' (λw' z=>SF w' sb ab b 1 ld wc A7 false L A' P' z)):=by
   have kd:A4 Aa d d.drew:=(A4.C _ d).aa;refine A26 d w.heap.size n (AN A7 ld) _ q.Ae hx (ML d.drew sb A7 ld (q.Ae.Am kd λh=>h).c3 (q.Ae.Am kd λh=>h).cK hl hc) λw2 kk=>?_;refine((s1.ak kk).b8 O _ [A5 ab,A0 wc,A0 (AN A7 ld)] n (aB.aL kk) aK).k ?_;rintro w' E;exact⟨rfl,E.a1 kk⟩
  refine(A3k d w.heap.size n s1 body).k ?_;rintro w' E;have aI:=(Ap.ba Y s3 E).a1 X;obtain⟨-,F3,q3,-,-⟩:=E;obtain⟨d0,df,-,-⟩:=q3.c0;exact⟨rfl,d0,df,aI⟩
 ·rintro e w'⟨rfl,w2,E,rfl⟩;exact⟨rfl,SFto.CO E 0 _ λlv h=>h.s0 0⟩
def Xf(w:gx)(n:Int)(h:SF w sb ab b 0 ld wc A7 false L A P FT)(X:Lets B w)(E:∀k,FT k->B<=k)(aA:∀z F0,AD z ab b A P F0->(∀k,F0 k->k<z.heap.size)->Lets B z->(∀k,F0 k->B<=k)->Ag 74 #[A5 ab] z (Aj (A0 n) λw'=>Ap z F0 w' (λw' d=>AD w' ab b A' P' d))):
 Ag 31 #[A5 sb] w (Aj (A0 n) λw'=>Ap w FT w' (λw' d=>SF w' sb ab b 0 ld wc A7 (decide (n≠0)) L A' P' d)):=by
 obtain⟨c0,f0,-,-⟩:=h.c0;have O:=X.1;have⟨k1,F1,s1,s2,s3⟩:=h.bH;obtain⟨-,-,-,c2⟩:=s1.c0;refine(Rs (ab:=ab) w n (λw2=>Ap w FT w2 (λw' d=>SF w' sb ab b 1 ld wc A7 (decide (n≠0)) L A' P' d)) c0 f0 c2 ?_).mono ?_
 ·refine(A3h _ 0 n s1 (s1.b8 (λk hk=>(s3 k hk).elim (E k) λh=>AP O h) _ [A5 ab] n (X.al k1 E) aA)).k ?_;rintro w' I;have W:=Ap.ba k1 s3 I;obtain⟨-,F3,q3,-,-⟩:=I;obtain⟨d0,Y,-,-⟩:=q3.c0;exact⟨rfl,d0,Y,W⟩
 ·rintro e w'⟨rfl,w2,I,rfl⟩;exact⟨rfl,SFto.CO I 0 _ λlv h=>h.s0 0⟩
end
end
section
open Go.MuLone Go.RowKit
attribute [local go_sem ↓] Go.wp_at_zero Go.wp_at_succ CL
def A0b(w:gx):Es w (λ_=>.slice none 0 0) (λ_=>[]):=
 ⟨λ_ _=>Co _ _ _ _,λ_ _=>List.Pairwise.nil,λ_ _=>by simp,λ_ _ _ _ _ g h=>by simp[Value.ownBlock]at h⟩
def GD(o:Int)(d:gD Pu):Nat->gD Pt:=d.foldl (λL p=>EB L o p.1.toNat p.2.1 p.2.2) (λ_=>[])
def P9(o:Int)(d:gD Pu)(p:Pu):GD o (d++[p])=EB (GD o d) o p.1.toNat p.2.1 p.2.2:=by simp[GD]
def Pa(o:Int)(k:Nat):∀n (d:gD Pu),d.length=n->(GD o d k).length<=n
 | 0,d,h=>by obtain rfl:=Hp.1 h;simp[GD]
 | n+1,d,h=>by
  have z:d≠[]:=λe=>by subst e;simp at h
  have E:=(NJ z).symm;rw[E,P9];have h1:=Pa o k n d.dropLast (by rw[VZ];omega);have h2:=P8 (GD o d.dropLast) o (d.getLast z).1.toNat (d.getLast z).2.1 (d.getLast z).2.2 k;omega
def ZX{P:PD}{n:Int}(h:Ar.aU P=.error n):n≠0:=by
 unfold Ar.aU at h;split at h
 ·cases h;decide
 ·split at h
  ·cases h;decide
  ·split at h
   ·cases h;decide
   ·split at h
    ·rename_i d;cases h;exact d
    ·cases h
section
variable{w w' w2:gx}{sb ab b B:Nat}{mu ld wc A7:Int}{ro:Bool}{lv:Nat->gy}{L L':Nat->gD Pt}{A A':Ar}{P P':PD}{F0 Ft FT:Nat->Prop}{a c m N:Nat}
def Ta(w:gx)(ld wc A7:Int)(hl:1<=ld/\ld<=4611686018427387904)(hw:1<=wc/\wc<=4611686018427387904)(hc:Ay A7)(aK:∀k,Ft k->k<w.heap.size)(aW:∀A d,Ar.aU P=.ok (A,d)->d.length<1099511627000/\∀p∈d,0<=p.1/\p.1<8)(a5:∀E,A4 Aa w E->Ag 59 #[A5 b] E λe w'=>
  (∃n,Ar.aU P=.error n/\e=.returned (.tuple #[.pointer none,.slice none 0 0,A0 n])/\A4 Aa E w')\/
  (∃A d ab v FT,Ar.aU P=.ok (A,d)/\e=.returned (.tuple #[A5 ab,v,A0 0])/\B1 w' v d/\AD w' ab b A P FT/\(∀k,FT k->Ft k\/E.heap.size<=k)/\(∀k,FT k->k<w'.heap.size)/\(∀g,v.ownBlock=some g->¬FT g/\E.heap.size<=g)/\A4 Aa E w')):
 Ag 22 #[A5 b,.agg #[A0 ld,A0 wc],A0 A7] w λe w'=>
  (∃n,Ar.aU P=.error n/\e=.returned (.tuple #[.pointer none,A0 n])/\A4 Aa w w')\/
  (∃A d ab sb,Ar.aU P=.ok (A,d)/\e=.returned (.tuple #[A5 sb,A0 0])/\w.heap.size<=sb/\Ap w Ft w' (λw' I=>SF w' sb ab b 0 ld wc A7 false (GD (AN A7 ld) d) A P I)):=by
 have aS:Hid (∀w',Ag 58 #[A0 ld] w' λe aF=>e=.returned (.bool true)/\w'=aF):=λw'=>by
  have:=Ls w' ld
  rwa [Cu hl]at this
 have a0:Hid (∀w',Ag 58 #[A0 wc] w' λe aF=>e=.returned (.bool true)/\w'=aF):=λw'=>by
  have:=Ls w' wc
  rwa [Cu hw]at this
 have hA:=(A4.C Aa w).aj (.cells #[A0 ld,A0 wc] 48);have aE:=Bl w (.cells #[A0 ld,A0 wc] 48);generalize hw0:(w.alloc (.cells #[A0 ld,A0 wc] 48))=w0 at hA aE;have q0:A8 w0 w.heap.size 0 (A0 ld):=D7 aE;have q1:A8 w0 w.heap.size 1 (A0 wc):=D7 aE;have a4:=A1 (a5 w0 hA);have aP:=A1 hA;have HLT:=A1 aK;have aX:=A1 aW;have a9:=A1 hl;have bA:=A1 hc
 go_enter func22,ntmps22
 go_wp2_with (fail);refine(aS.o _).k ?_;rintro w' rfl;go_wp2_with (fail);refine(a0.o _).k ?_;rintro w' rfl;go_wp2_with (fail);refine a4.m ?_;rintro e E (⟨n,hO,rfl,W⟩|⟨A,d,ab,v,FT,hO,rfl,hp,ha,hf1,hf2,hf3,W⟩)
 ·have hn:=ZX hO;have hnb:(n !=0)=true:=by simpa using hn
  have aU:=A1 hO;have aL:=A1 (aP.o.tr W);go_wp2;go_ret2;exact .inl ⟨n,aU.o,rfl,aL.o⟩
 ·obtain⟨va,z,rfl,v1,v2,v3,-⟩:=B8 hp;unfold maxLen at v2;have r0:=W.ah q0;have r1:=W.ah q1;have⟨aN,aD⟩:=aX.o A d hO;have aL:Hid (A4 Aa w E):=aP.o.tr W;have a3:=A1 hp;have a1:=A1 ha;have aR:Hid (∀k,FT k->Ft k\/w.heap.size<=k):=λk h=>(hf1 k h).imp id (AP aP.o.Ak)
  have aH:=A1 hf2;have a2:=A1 hf3;have aU:=A1 hO;have aV:=A1 aN;have aQ:=A1 aD;have aT:G6 0 (A5 ab) ld wc A7 false (λ_=>.slice none 0 0) = #[.int .i32 0,.int .u32 0,A5 ab,A0 ld,A0 wc,A0 A7,.bool false,.slice none 0 0,.slice none 0 0,.slice none 0 0,.slice none 0 0,.slice none 0 0,.slice none 0 0,.slice none 0 0,.slice none 0 0]:=rfl
  have ST:Hid (∀w2,w2=E.alloc (.cells (G6 0 (A5 ab) ld wc A7 false (λ_=>.slice none 0 0)) 111)->
   Ap w Ft w2 (λw' I=>SF w' E.heap.size ab b 0 ld wc A7 false (GD (AN A7 ld) (d.take 0)) A P I/\∀g,(Value.slice va d.length z).oB g->¬I g)/\B1 w2 (.slice va d.length z) d):=λw2 e=>by
   subst e;have kA:A4 Aa E (E.alloc (.cells (G6 0 (A5 ab) ld wc A7 false (λ_=>.slice none 0 0)) 111)):=(A4.C _ E).aj _;have hb:Bx (E.alloc (.cells (G6 0 (A5 ab) ld wc A7 false (λ_=>.slice none 0 0)) 111)) E.heap.size 0 (A5 ab) ld wc A7 false (λ_=>.slice none 0 0):=Bl E _;have nS:¬FT E.heap.size:=λh=>Gs _ (aH.o _ h);refine⟨⟨(aL.o.tr kA).aT,λk=>FT k\/Own E.heap.size (λ_=>.slice none 0 0) k,⟨⟨_,FT,⟨hb,A0b _,a1.o.ak kA,λk W=>Bn (aH.o k W) kA.Ak,nS,λk W=>?_⟩,λ_ h=>h⟩,λg hg hx=>?_⟩,λk W=>?_,λk W=>?_⟩,Au a3.o λg hg=>kA.Al g (Aw a3.o hg) (λh=>h)⟩
   ·obtain⟨i,_,hi⟩:=W;simp[Value.ownBlock]at hi
   ·rcases hx with hx|rfl|⟨i,_,hi⟩
    ·exact(a2.o g hg).1 hx
    ·have:=Aw a3.o hg;omega
    ·simp[Value.ownBlock]at hi
   ·rcases W with W|rfl|⟨i,_,hi⟩
    ·exact Bn (aH.o k W) kA.Ak
    ·simp
    ·simp[Value.ownBlock]at hi
   ·rcases W with W|rfl|⟨i,_,hi⟩
    ·exact aR.o k W
    ·exact .inr aL.o.Ak
    ·simp[Value.ownBlock]at hi
  have aY:Hid (w.heap.size<=E.heap.size):=aL.o.Ak;rw[aT]at ST;have aZ:=A1 (ST.o _ rfl);go_wp2;go_loopw [43] (λiv wr=>∃k:Nat,k<=d.length/\iv=A0 k/\Hid (Ap w Ft wr (λw' I=>SF w' E.heap.size ab b 0 ld wc A7 false (GD (AN A7 ld) (d.take k)) A P I/\∀g,(Value.slice va d.length z).oB g->¬I g)/\B1 wr (.slice va d.length z) d)) (λiv _=>d.length-(intOf iv).toNat)
  ·exact⟨0,by omega,by go_num,aZ.o⟩
  ·obtain⟨k,W,rfl,hI⟩:=hrel;obtain⟨aA,aJ⟩:∃aA,aA=wr:=⟨_,rfl⟩;subst aJ;have k0:=BJ k;by_cases aB:k<d.length
   ·(have kI:(k:Int)<(d.length:Int):=by omega);obtain⟨g,o,rfl,hgl,c1,c2,c3⟩:=I2.at hI.o.2.rd k aB;have aO:d.take (k+1)=d.take k++[d[k]'aB]:=Dq aB;have aD:=aQ.o _ (BV aB);have aN:=aV.o;generalize hp:(d[k]'aB)=p at c1 c2 c3 aO aD;have aG:Hid (∀w3,A4 Aa aA w3->Ag 60 #[A5 E.heap.size,DK p] w3 (Aj (.tuple #[]) λw'=>(Ap w Ft w' (λw' I=>SF w' E.heap.size ab b 0 ld wc A7 false (GD (AN A7 ld) (d.take (k+1))) A P I/\∀X,(Value.slice (some (A9 g o)) d.length z).oB X->¬I X)/\B1 w' (.slice (some (A9 g o)) d.length z) d))):=λw3 k3=>by
     have⟨⟨i1,F1,⟨i2,i3⟩,i4,i5⟩,i6⟩:=hI.o;have aI:∀j,j<8->(GD (AN A7 ld) (d.take k) j).length<1099511627000:=λj _=>by
      have:=Pa (AN A7 ld) j _ (d.take k) rfl;rw[BK]at this;omega
     refine(U3 w3 p (i2.ak k3) aD aI a9.o bA.o).k ?_;rintro w'⟨q1,a8,q2,q3,q4⟩;have aM:A4 Ft w w3:=i1.bl k3;have Y:∀X,(Value.slice (some (A9 g o)) d.length z).oB X->X<aA.heap.size:=λX O=>Aw i6 O;refine⟨rfl,⟨aM.AH q1 λx hx aK=>(i5 x hx).resolve_right (by omega),a8,⟨by rw[aO,P9];exact q2,λX O hx=>?_⟩,q3,λx hx=>?_⟩,?_⟩
     ·rcases q4 X hx with hy|hy
      ·exact i3 X O hy
      ·have:=Y X O;have:=k3.Ak;omega
     ·rcases q4 x hx with hy|hy
      ·exact i5 x hy
      ·exact .inr (AP aM.Ak hy)
     ·exact Au (Au i6 λX O=>k3.Al X (Y X O) λh=>h) λX O=>q1.Al X (Bn (Y X O) k3.Ak) (i3 X O)
    obtain⟨p1,p2,p3⟩:=p;unfold DK at aG;dsimp only at c1 c2 c3 aG;go_wp2_with (go_at_call 60;refine(aG.o _ ((A4.C _ aA).aj _)).k ?_;rintro w3 hS;have a6:=A1 hS);go_roundw
    ·exact⟨k+1,by omega,by go_num,a6.o⟩
    ·simp[intOf];omega
   ·(obtain rfl:k=d.length:=by omega);have a7:=A1 hI.o.1;go_wp2;go_ret2;refine .inr ⟨A,d,ab,E.heap.size,aU.o,rfl,aY.o,?_⟩;have h:=a7.o;rw[C5]at h;exact h.fK λ_ _ h=>h.1
end
end
section
open Go.RowKit
def Jr{α:Type}{l:gD α}(h:l.Nodup){i j:Nat}(E:i<l.length)(z:j<l.length)(e:l[i]'E=l[j]'z):i=j:=by
 have I:=JQ.1 h;rcases Qh i j with d|d|d
 ·exact absurd e (I i j E z d)
 ·exact d
 ·exact absurd e.symm (I j i z E d)
def Kj{es:gD AO}(h:(es.map (·.2)).Nodup){a b:AO}(d:a∈es)(E:b∈es)(e:a.2=b.2):a=b:=by
 obtain⟨i,I,rfl⟩:=DG d;obtain⟨j,z,rfl⟩:=DG E;have:i=j:=Jr h (by simpa using I) (by simpa using z) (by simpa using e);subst this;rfl
def Eh{es:gD AO}{nm:gC}{f:Nat}(h:lookup es nm=some f):(nm,f)∈es:=by
 induction es with
 | nil=>cases h
 | cons e r ih=>
  unfold lookup at h;split at h
  ·rename_i d;cases h;subst d;exact BI ..
  ·exact BC _ (ih h)
def IN{es:gD AO}{nm:gC}:lookup es nm=none↔∀e∈es,e.1≠nm:=by
 induction es with
 | nil=>simp[lookup]
 | cons e r ih=>
  unfold lookup;by_cases d:e.1=nm
  ·simp[d]
  ·simp only[d,Cd,ih,BS,forall_eq_or_imp,Kk,OQ,true_and]
def lookup_append(es d:gD AO)(nm:gC):lookup (es++d) nm=(lookup es nm).or (lookup d nm):=by
 induction es with
 | nil=>simp[lookup]
 | cons e r ih=>
  simp only[G2,lookup];split
  ·simp
  ·exact ih
def Ln(es:gD AO)(p:gC->Bool)(nm:gC):lookup (es.filter λe=>p e.1) nm=if p nm then lookup es nm else none:=by
 induction es with
 | nil=>simp[lookup]
 | cons e r ih=>
  simp only[Fu];by_cases z:e.1=nm
  ·subst z;by_cases h:p e.1
   ·simp[h,lookup]
   ·(have d:p e.1=false:=by simpa using h);rw[d]at ih ⊢;simpa using ih
  ·by_cases h:p e.1
   ·simp only[h,Cq,lookup,z,Cd,ih]
   ·(have d:p e.1=false:=by simpa using h);simp only[d,lookup,z,Cd];simpa using ih
def JF(es:gD AO)(nm:gC):(B9 es nm<0↔lookup es nm=none):=by
 rcases Jv es nm with⟨z,d⟩|⟨k,hk,z,d,h3⟩
 ·simp[z,d]
 ·simp only[z,d];exact⟨λh=>by omega,λh=>by cases h⟩
def UD(es:gD AO)(nm:gC)(W:(es.map (·.1)).Nodup)(h:¬B9 es nm<0):
 es.take (B9 es nm).toNat++es.drop ((B9 es nm).toNat+1)=es.filter λe=>decide (e.1≠nm):=by
 induction es with
 | nil=>simp[B9]at h
 | cons e r ih=>
  have d:e.1∉r.map (·.1)/\(r.map (·.1)).Nodup:=by simpa using W
  unfold B9 at h ⊢;by_cases E:e.1=nm
  ·subst E;simp only[Cq,Int.toNat_zero,Fp,Fa,Ha,DH,Dl];rw[KN (by simp)];rw[List.filter_eq_self.2];intro x O;simp only[E2,Kk];rintro z;exact d.1 (z ▸ Ed O)
  ·simp only[E,Cd]at h ⊢;by_cases I:B9 r nm<0
   ·simp[I]at h
   ·simp only[I,Cd]at h ⊢;(have L:(B9 r nm+1).toNat=(B9 r nm).toNat+1:=by omega);rw[L,FJ,DH,G2,ih d.2 I,Jc (by simp[E])]
def Sd(es:gD AO)(oe nm:gC)(Y:(es.map (·.1)).Nodup)(h:¬B9 es oe<0):
 Dw es (B9 es oe).toNat nm es.length=es.filter λe=>decide (e.1≠oe/\e.1≠nm):=by
 have I:∀k,k<=es.length->Dw es (B9 es oe).toNat nm k=(es.take k).filter λe=>decide (e.1≠oe/\e.1≠nm):=by
  intro k
  induction k with
  | zero=>intro _;simp[Dw]
  | succ k ih=>
   intro hk;(have d:k<es.length:=by omega);have z:(k=(B9 es oe).toNat)↔(es[k]'d).1=oe:=by
    rcases Py es oe with⟨O,_⟩|⟨m,hm,O,L⟩
    ·omega
    ·rw[O];constructor
     ·intro e;have X:k=m:=by simpa using e
      subst X;exact L
     ·intro e;have:k=m:=Jr Y (by simpa using d) (by simpa using hm) (by simp[e,L]);simp[this]
   rw[Dq d,KO,<-ih (by omega)];by_cases E:k≠(B9 es oe).toNat/\(es[k]'d).1≠nm
   ·rw[Sc es _ nm k d E,Jc]
    ·simp
    ·simp only[E2];exact⟨λe=>E.1 (z.2 e),E.2⟩
   ·rw[Ou es _ nm k d E,KN]
    ·simp
    ·simp only[E2];intro W;exact E ⟨λe=>W.1 (z.1 e),W.2⟩
 have:=I es.length (Ao _)
 rwa [C5]at this
def O1(F:Nat->FC)(es:gD AO)(p:AO->Bool):AU F (es.filter p)<=AU F es:=by
 induction es with
 | nil=>simp[AU]
 | cons e r ih=>
  rw[Fu];split
  ·simp only[AU];omega
  ·simp only[AU];omega
def QZ(F:Nat->FC)(f:Nat)(c:FC)(es:gD AO)(h:∀e∈es,e.2≠f):AU (upd F f c) es=AU F es:=by
 induction es with
 | nil=>simp[AU]
 | cons e r ih=>
  simp only[AU,upd,h e (BI ..),Cd];rw[<-ih λx d=>h x (BC _ d)]
def R0(F:Nat->FC)(f:Nat)(c:FC)(es:gD AO)(O:(es.map (·.2)).Nodup)(h:∃e∈es,e.2=f):AU (upd F f c) es+(F f).1.length=AU F es+c.1.length:=by
 induction es with
 | nil=>obtain⟨e,E,_⟩:=h;cases E
 | cons e r ih=>
  have z:e.2∉r.map (·.2)/\(r.map (·.2)).Nodup:=by simpa using O
  by_cases E:e.2=f
  ·subst E;have:AU (upd F e.2 c) r=AU F r:=QZ F _ c r λx I d=>z.1 (d ▸ Ed I);simp only[AU,this];simp[upd];omega
  ·obtain⟨x,I,d⟩:=h;have L:∃x∈r,x.2=f:=by
    rcases BS.1 I with rfl|I
    ·exact absurd d E
    ·exact⟨x,I,d⟩
   have:=ih z.2 L;simp only[AU,upd,E,Cd]at this ⊢;omega
def PD.fl(P:PD)(nm:Bs):Option FC:=(lookup P.D.A6 (Ab nm)).map P.F
structure Cm (P:PD) (N R:Nat):Prop where
 Bh:P.D.n.Bh=false
 CW:P.D.n.CW=0
 E0:P.D.n.E0=0
 Bc:0<=P.D.n.Bc/\P.D.n.Bc+N<=4611686018427387904
 Av:(AU P.F P.D.A6:Int)+R<=P.D.n.Av
 Aq:(P.D.A6.map (·.2)).Nodup
 Cg:(P.D.A6.map (·.1)).Nodup
section
variable{P:PD}{N R:Nat}{nm:Bs}
def Cm.ai{N' R':Nat}(h:Cm P N R)(hN:N'<=N)(hR:R'<=R):Cm P N' R':=
 ⟨h.Bh,h.CW,h.E0,⟨h.Bc.1,by have:=h.Bc.2;omega⟩,by have:=h.Av;omega,h.Aq,h.Cg⟩
def Cm.bg(h:Cm P (N+1) R):bg P.D.n=(true,0,{P.D.n with Bc:=P.D.n.Bc+1}):=by
 have⟨c1,c2⟩:=h.Bc;have e:wrap64 (P.D.n.Bc+1)=P.D.n.Bc+1:=by unfold wrap64;omega
 unfold Go.Proofs.YtodcnkbblippnaaGreatDoor.bg;dsimp only
 rw[e,Af (by simp[h.Bh]),Af (by rw[h.CW];omega),Af (by rw[h.E0];omega)]
def A1V:P.fl nm=none↔lookup P.D.A6 (Ab nm)=none:=by unfold PD.fl;simp
def MX{c:FC}(h:P.fl nm=some c):∃f,lookup P.D.A6 (Ab nm)=some f/\P.F f=c:=by
 unfold PD.fl at h;simpa using h
def Tk(h:nm≠[]):Ab nm≠ByteArray.empty:=λe=>h (by have:Ab nm=Ab []:=e;exact Gj.1 this)
def Cm.au(h:Cm P (N+1) R)(Y:P.fl nm=none)(d:nm≠[]):
 (P.au (Ab nm)).1=0/\Cm (P.au (Ab nm)).2 N R/\∀m,(P.au (Ab nm)).2.fl m=if m=nm then some ([],0) else P.fl m:=by
 have W:=A1V.1 Y;have hx:¬(Ab nm=ByteArray.empty\/B9 P.D.A6 (Ab nm)≥0):=by
  rintro (h|h)
  ·exact Tk d h
  ·have:=(JF P.D.A6 (Ab nm)).2 W;omega
 have z:∀e∈P.D.A6,e.2≠P.D.AV:=λe E X=>P.D.cC (.inl ⟨e,E,X⟩);unfold PD.au CV;rw[Af hx];dsimp only
 rw[h.bg];dsimp only
 rw[Ai rfl];refine⟨rfl,⟨h.Bh,h.CW,h.E0,by have:=h.Bc;dsimp only;omega,?_,?_,?_⟩,λm=>?_⟩
 ·have:=h.Av;dsimp only
  rw[L1,QZ _ _ _ _ z];simp only[AU,upd,Cq,Ja];omega
 ·dsimp only
  rw[EG,Hb];refine⟨h.Aq,by simp,λa O b I=>?_⟩;simp at I;subst I;obtain⟨e,E,rfl⟩:=Cl.1 O;exact z e E
 ·dsimp only
  rw[EG,Hb];refine⟨h.Cg,by simp,λa O b I=>?_⟩;simp at I;subst I;obtain⟨e,E,rfl⟩:=Cl.1 O;exact(IN.1 W) e E
 ·unfold PD.fl;dsimp only
  rw[lookup_append];by_cases L:m=nm
  ·subst L;rw[W];simp[lookup,upd]
  ·have d:¬Ab nm=Ab m:=λe=>L (Gj.1 e).symm;simp only[lookup,d,Cd,VG,L];cases hk:lookup P.D.A6 (Ab m) with
   | none=>rfl
   | some f=>
    have:f≠P.D.AV:=z _ (Eh hk);simp[upd,this]
def Li(l:Bs):(Ab l).size=l.length:=by simp[Ab,ByteArray.size]
def Cm.av{c:FC}(h:Cm P (N+1) R)(I:P.fl nm=some c)(l:Bs)(hl:l.length<=R):
 (P.av (Ab nm) l).1=0/\Cm (P.av (Ab nm) l).2 N (R-l.length)/\∀m,(P.av (Ab nm) l).2.fl m=if m=nm then some (c.1++l,c.2) else P.fl m:=by
 obtain⟨f,z,rfl⟩:=MX I;have hroom:=h.Av;have d:¬((Ab l).size:Int)>Gn {P.D with n:={P.D.n with Bc:=P.D.n.Bc+1}} P.F:=by
  unfold Gn;rw[Li];dsimp only;omega
 unfold PD.av BA;rw[z];dsimp only
 rw[h.bg];dsimp only
 rw[Ai rfl];unfold BP;rw[Af d];dsimp only
 have L:(Ab l).data.toList.take ((Ab l).size:Int).toNat=l:=by rw[Li];simp[Ab]
 rw[L];have hu:=R0 P.F f ((P.F f).1++l,(P.F f).2) P.D.A6 h.Aq ⟨_,Eh z,rfl⟩;refine⟨rfl,⟨h.Bh,h.CW,h.E0,by have:=h.Bc;dsimp only;omega,?_,h.Aq,h.Cg⟩,λm=>?_⟩
 ·dsimp only
  simp only[B3]at hu;omega
 ·unfold PD.fl;dsimp only
  by_cases E:m=nm
  ·subst E;rw[z];simp[upd]
  ·rw[Af E];cases hk:lookup P.D.A6 (Ab m) with
   | none=>rfl
   | some g=>
    have:g≠f:=λe=>E (by
     have:=Kj h.Aq (Eh hk) (Eh z) e
     exact Gj.1 (Qa this).1)
    simp[upd,this]
def Cm.ad{c:FC}(h:Cm P (N+1) R)(z:P.fl nm=some c):
 (P.ad (Ab nm)).1=0/\Cm (P.ad (Ab nm)).2 N R/\∀m,((P.ad (Ab nm)).2.fl m).map (·.1)=(P.fl m).map (·.1):=by
 obtain⟨f,d,rfl⟩:=MX z;unfold PD.ad CN;rw[d];dsimp only
 rw[h.bg];dsimp only
 rw[Ai rfl];have hu:=R0 P.F f ((P.F f).1,(P.F f).1.length) P.D.A6 h.Aq ⟨_,Eh d,rfl⟩;refine⟨rfl,⟨h.Bh,h.CW,h.E0,by have:=h.Bc;dsimp only;omega,?_,h.Aq,h.Cg⟩,λm=>?_⟩
 ·have:=h.Av;dsimp only at hu ⊢;omega
 ·unfold PD.fl;dsimp only
  cases hk:lookup P.D.A6 (Ab m) with
  | none=>rfl
  | some g=>
   by_cases e:g=f
   ·subst e;simp[upd]
   ·simp[upd,e]
def Cm.aJ(h:Cm P (N+1) R):P.aJ.1=0/\Cm P.aJ.2 N R/\∀m,P.aJ.2.fl m=P.fl m:=by
 unfold PD.aJ E9;dsimp only
 rw[h.bg];dsimp only
 rw[Ai rfl];exact⟨rfl,⟨h.Bh,h.CW,h.E0,by have:=h.Bc;dsimp only;omega,h.Av,h.Aq,h.Cg⟩,λ_=>rfl⟩
def Cm.cA(h:Cm P (N+1) R)(_p:gC->Bool)(es:gD AO)(hu:AU P.F es<=AU P.F P.D.A6)(z:(es.map (·.2)).Nodup)(d:(es.map (·.1)).Nodup):
 Cm ⟨{P.D with A6:=es,As:=P.D.As++[es],n:={P.D.n with Bc:=P.D.n.Bc+1}},P.F⟩ N R:=
 ⟨h.Bh,h.CW,h.E0,by have:=h.Bc;dsimp only;omega,by have:=h.Av;dsimp only;omega,z,d⟩
def Cm.aG{c:FC}(h:Cm P (N+1) R)(I:P.fl nm=some c):
 (P.aG (Ab nm)).1=0/\Cm (P.aG (Ab nm)).2 N R/\∀m,(P.aG (Ab nm)).2.fl m=if m=nm then none else P.fl m:=by
 obtain⟨f,E,rfl⟩:=MX I;have z:¬B9 P.D.A6 (Ab nm)<0:=λh=>by rw[JF,E]at h;cases h
 unfold PD.aG Dx;rw[Af z];dsimp only
 rw[h.bg];dsimp only
 rw[Ai rfl,UD _ _ h.Cg z];refine⟨rfl,h.cA (λ_=>true) _ (O1 _ _ _) (h.Aq.sublist (Hq.map _)) (h.Cg.sublist (Hq.map _)),λm=>?_⟩;unfold PD.fl;dsimp only
 rw[Ln P.D.A6 (λx=>decide (x≠Ab nm))];by_cases d:m=nm
 ·subst d;simp
 ·have:Ab m≠Ab nm:=λe=>d (Gj.1 e);simp[this,d]
def Cm.aR{c:FC}{oe:Bs}(h:Cm P (N+1) R)(h0:P.fl oe=some c)(E:nm≠[])(hd:oe≠nm):
 (P.aR (Ab oe) (Ab nm)).1=0/\Cm (P.aR (Ab oe) (Ab nm)).2 N R/\∀m,(P.aR (Ab oe) (Ab nm)).2.fl m=if m=nm then some c else if m=oe then none else P.fl m:=by
 obtain⟨f,Y,rfl⟩:=MX h0;have hx:¬B9 P.D.A6 (Ab oe)<0:=λh=>by rw[JF,Y]at h;cases h
 have z:=Eh Y;unfold PD.aR D8;rw[Y];dsimp only
 rw[Af (Tk E),h.bg];dsimp only
 rw[Ai rfl,Sd _ _ _ h.Cg hx];have O:(P.D.A6.filter λe=>decide (e.1≠Ab oe/\e.1≠Ab nm))=(P.D.A6.filter λe=>decide (e.1≠Ab oe)).filter λe=>decide (e.1≠Ab nm):=by
  rw[W5];congr 1;funext e;simp[and_comm]
 have hparts:AU P.F (P.D.A6.filter λe=>decide (e.1≠Ab oe))+(P.F f).1.length<=AU P.F P.D.A6:=by
  have X:∀es:gD AO,(Ab oe,f)∈es->AU P.F (es.filter λe=>decide (e.1≠Ab oe))+(P.F f).1.length<=AU P.F es:=by
   intro es
   induction es with
   | nil=>intro h;cases h
   | cons e r ih=>
    intro d;by_cases I:e.1=Ab oe
    ·rw[KN (by simp[I])];rcases BS.1 d with d|d
     ·subst d;have:=O1 P.F r λe=>decide (e.1≠Ab oe);simp only[AU];omega
     ·have:=ih d;simp only[AU];omega
    ·rw[Jc (by simp[I])];rcases BS.1 d with d|d
     ·subst d;exact absurd rfl I
     ·have:=ih d;simp only[AU];omega
  exact X _ z
 refine⟨rfl,h.cA (λ_=>true) _ ?_ ?_ ?_,λm=>?_⟩
 ·rw[L1,O];have:=O1 P.F (P.D.A6.filter λe=>decide (e.1≠Ab oe)) λe=>decide (e.1≠Ab nm);simp only[AU];omega
 ·rw[EG,Hb];refine⟨h.Aq.sublist (Hq.map _),by simp,λa ha b L=>?_⟩;simp at L;subst L;obtain⟨e,I,rfl⟩:=Cl.1 ha;have⟨he1,he2⟩:=GV.1 I;intro aA;have:=Kj h.Aq he1 z aA;subst this;simp at he2
 ·rw[EG,Hb];refine⟨h.Cg.sublist (Hq.map _),by simp,λa ha b L=>?_⟩;simp at L;subst L;obtain⟨e,I,rfl⟩:=Cl.1 ha;have:=(GV.1 I).2;simp at this;exact this.2
 ·unfold PD.fl;dsimp only
  rw[lookup_append,Ln P.D.A6 (λx=>decide (x≠Ab oe/\x≠Ab nm))];by_cases d:m=nm
  ·subst d;simp[lookup]
  ·have E:¬Ab nm=Ab m:=λe=>d (Gj.1 e).symm;have W:Ab m≠Ab nm:=λe=>d (Gj.1 e);simp only[lookup,E,Cd,VG,d];by_cases ho:m=oe
   ·subst ho;simp
   ·have:Ab m≠Ab oe:=λe=>ho (Gj.1 e);simp[this,W,ho]
end
def A1n(l:gD gC)(x:gC):(ins l x).Perm (x::l):=by
 unfold ins;refine List.perm_middle.trans ?_;rw[E4]
def UL(es:gD AO):∀k,k<=es.length->(F7 es k).Perm ((es.take k).map (·.1)):=by
 intro k
 induction k with
 | zero=>intro _;simp[F7]
 | succ k ih=>
  intro hk;have d:k<es.length:=by omega
  rw[N6 es k d,Dq d,EG];refine(A1n _ _).trans ?_;refine((ih (by omega)).cons _).trans ?_;exact(List.perm_append_singleton _ _).symm
def LC(es:gD AO):(dList es).Perm (es.map (·.1)):=by
 have:=UL es es.length (Ao _)
 rwa [C5]at this
def PD.bs(P:PD)(nm:Bs):Option Bs:=(P.fl nm).map (·.1)
section
variable{P P':PD}{N R:Nat}{nm:Bs}
def Hw:nm∈P.Az↔P.bs nm≠none:=by
 unfold PD.Az PD.bs PD.fl;rw[Cl];constructor
 ·rintro⟨b,z,rfl⟩;have:=(LC P.D.A6).mem_iff.1 z;obtain⟨e,d,rfl⟩:=Cl.1 this;cases hk:lookup P.D.A6 (Ab e.1.data.toList) with
  | none=>rw[FR]at hk;exact absurd rfl (IN.1 hk e d)
  | some f=>simp
 ·intro h;cases hk:lookup P.D.A6 (Ab nm) with
  | none=>rw[hk]at h;exact absurd rfl h
  | some f=>
   refine⟨Ab nm,(LC P.D.A6).mem_iff.2 (Cl.2 ⟨_,Eh hk,rfl⟩),by simp[Ab]⟩
def Cm.cU(h:Cm P N R):P.Az.Nodup:=by
 unfold PD.Az;have z:=(LC P.D.A6).nodup_iff.2 h.Cg;rw[List.Nodup,KG];refine List.Pairwise.imp (λd e=>d ?_) z;rename_i a b;rw[<-FR a,<-FR b,e]
def J0:P.bs nm=none↔P.fl nm=none:=by unfold PD.bs;simp
def LF{c:Bs}(h:P.bs nm=some c):∃k,P.fl nm=some (c,k):=by
 unfold PD.bs at h;cases hx:P.fl nm with
 | none=>rw[hx]at h;cases h
 | some x=>rw[hx]at h;obtain⟨a,k⟩:=x;simp at h;subst h;exact⟨k,rfl⟩
def Cm.dX(h:Cm P (N+1) R)(z:P.bs nm=none)(d:nm≠[]):
 (P.au (Ab nm)).1=0/\Cm (P.au (Ab nm)).2 N R/\∀m,(P.au (Ab nm)).2.bs m=if m=nm then some [] else P.bs m:=by
 have⟨h1,h2,h3⟩:=h.au (J0.1 z) d;refine⟨h1,h2,λm=>?_⟩;unfold PD.bs;rw[h3 m];split<;>rfl
def Cm.fB{c:Bs}(h:Cm P (N+1) R)(z:P.bs nm=some c)(l:Bs)(d:l.length<=R):
 (P.av (Ab nm) l).1=0/\Cm (P.av (Ab nm) l).2 N (R-l.length)/\∀m,(P.av (Ab nm) l).2.bs m=if m=nm then some (c++l) else P.bs m:=by
 have⟨k,hk⟩:=LF z;have⟨h1,h2,h3⟩:=h.av hk l d;refine⟨h1,h2,λm=>?_⟩;unfold PD.bs;rw[h3 m];split<;>rfl
def Cm.dA{c:Bs}(h:Cm P (N+1) R)(d:P.bs nm=some c):
 (P.ad (Ab nm)).1=0/\Cm (P.ad (Ab nm)).2 N R/\∀m,(P.ad (Ab nm)).2.bs m=P.bs m:=by
 have⟨k,hk⟩:=LF d;exact h.ad hk
def Cm.dY(h:Cm P (N+1) R):P.aJ.1=0/\Cm P.aJ.2 N R/\∀m,P.aJ.2.bs m=P.bs m:=by
 have⟨h1,h2,h3⟩:=h.aJ;exact⟨h1,h2,λm=>by unfold PD.bs;rw[h3 m]⟩
def Cm.gh{c:Bs}(h:Cm P (N+1) R)(d:P.bs nm=some c):
 (P.aG (Ab nm)).1=0/\Cm (P.aG (Ab nm)).2 N R/\∀m,(P.aG (Ab nm)).2.bs m=if m=nm then none else P.bs m:=by
 have⟨k,hk⟩:=LF d;have⟨h1,h2,h3⟩:=h.aG hk;refine⟨h1,h2,λm=>?_⟩;unfold PD.bs;rw[h3 m];split<;>rfl
def Cm.fV{c:Bs}{oe:Bs}(h:Cm P (N+1) R)(E:P.bs oe=some c)(d:nm≠[])(z:oe≠nm):
 (P.aR (Ab oe) (Ab nm)).1=0/\Cm (P.aR (Ab oe) (Ab nm)).2 N R/\∀m,(P.aR (Ab oe) (Ab nm)).2.bs m=if m=nm then some c else if m=oe then none else P.bs m:=by
 have⟨k,hk⟩:=LF E;have⟨h1,h2,h3⟩:=h.aR hk d z;refine⟨h1,h2,λm=>?_⟩;unfold PD.bs;rw[h3 m];split
 ·rfl
 ·split<;>rfl
def JJ:P.Cy nm=match P.bs nm with|some c=>(c,0)|none=>([],8):=by
 unfold PD.Cy Eb PD.bs PD.fl;cases lookup P.D.A6 (Ab nm)<;>rfl
def UK:CJ P.D P.F (Ab nm)=match P.bs nm with|some c=>((c.length:Int),0)|none=>(0,8):=by
 unfold CJ PD.bs PD.fl;cases lookup P.D.A6 (Ab nm)<;>rfl
def EJ(s:Nat)(l:Bs):(AT s l).length=l.length+4:=by simp[AT,HQ]
def Cm.af{c:Bs}(h:Cm P (N+1) R)(d:P.bs nm=some c)(s:Nat)(l:Bs)(hl:l.length+4<=R):
 (P.af (Ab nm) s l).1=true/\(P.af (Ab nm) s l).2.1=0/\Cm (P.af (Ab nm) s l).2.2 N (R-(l.length+4))/\∀m,(P.af (Ab nm) s l).2.2.bs m=if m=nm then some (c++AT s l) else P.bs m:=by
 have z:=EJ s l;have⟨h1,h2,h3⟩:=h.fB d (AT s l) (by omega);rw[z]at h2;refine⟨?_,h1,h2,h3⟩;show HG P.D P.F (Ab nm) (AT s l)=true;unfold HG;have e:=@UK (P.av (Ab nm) (AT s l)).2 nm;have E:CJ (BA P.D P.F (Ab nm) ⟨(AT s l).toArray⟩).2.1 (BA P.D P.F (Ab nm) ⟨(AT s l).toArray⟩).2.2 (Ab nm)=CJ (P.av (Ab nm) (AT s l)).2.D (P.av (Ab nm) (AT s l)).2.F (Ab nm):=rfl;rw[E,e,h3 nm,UK,d];simp only[Cq,B3];simp only[E2];omega
def Cm.aI(h:Cm P (N+3) R)(L:P.bs nm=none)(d:nm≠[])(s:Nat)(l:Bs)(I:l.length+4<=R):
 (P.aI nm s l).1=0/\Cm (P.aI nm s l).2 N (R-(l.length+4))/\∀m,(P.aI nm s l).2.bs m=if m=nm then some (AT s l) else P.bs m:=by
 have⟨a1,a2,a3⟩:=Cm.dX (N:=N+2) h L d;obtain⟨-,E,O,z⟩:=Cm.af (N:=N+1) (nm:=nm) (c:=[]) a2 (by rw[a3];simp) s l I;have⟨c1,c2,c3⟩:=Cm.dA (N:=N) (nm:=nm) (c:=AT s l) O (by rw[z];simp);unfold PD.aI;rw[Af (by simp[a1]),Af (by simp[E])];refine⟨c1,c2,λm=>?_⟩;rw[c3,z,a3];split
 ·simp
 ·rfl
def X3(s:Nat)(l:Bs):Ic s (AT s l)=some l:=by
 unfold Ic;have hp:=EJ s l;have d:(AT s l).length-4=l.length:=by omega
 rw[Af (by omega),d];have z:(AT s l).take l.length=l:=by simp[AT]
 have h:(AT s l).drop l.length=Cj (AY s l):=by simp[AT]
 rw[z,h,Ai rfl]
def Sl{l:Bs}(h:P.bs nm=some (AT (AI nm) l)):P.aZ nm=(l,0):=by
 unfold PD.aZ;rw[JJ,h];simp[X3]
def Z4(h:P.bs nm=none):P.aZ nm=([],8):=by
 unfold PD.aZ;rw[JJ,h];simp
def Cm.ay:∀(l:gD Bs) {P:PD},Cm P (N+l.length) R->(∀m∈l,P.bs m≠none)->(PD.ay l P).1=0/\Cm (PD.ay l P).2 N R/\∀m,(PD.ay l P).2.bs m=P.bs m
 | [],P,h,_=>⟨rfl,h,λ_=>rfl⟩
 | x::r,P,h,hm=>by
  obtain⟨c,X⟩:=Qc.1 (hm x (BI ..));obtain⟨I,L,z⟩:=Cm.dA (N:=N+r.length) (by simpa[Nat.add_assoc] using h) X;obtain⟨E,O,W⟩:=Cm.ay r L λm d=>by rw[z];exact hm m (BC _ d)
  unfold PD.ay;rw[Af (by simp[I])];exact⟨E,O,λm=>by rw[W,z]⟩
def Cm.aO:∀(l:gD Bs) {P:PD},Cm P (N+l.length) R->l.Nodup->(∀m∈l,P.bs m≠none)->(PD.aO l P).1=0/\Cm (PD.aO l P).2 N R/\∀m,(PD.aO l P).2.bs m=if m∈l then none else P.bs m
 | [],P,h,_,_=>⟨rfl,h,λm=>by simp[PD.aO]⟩
 | x::r,P,h,hn,hm=>by
  have d:=JR.1 hn;obtain⟨c,Y⟩:=Qc.1 (hm x (BI ..));obtain⟨L,O,E⟩:=Cm.gh (N:=N+r.length) (by simpa[Nat.add_assoc] using h) Y;obtain⟨I,W,X⟩:=Cm.aO r O d.2 λm z=>by
   (have e:m≠x:=λe=>by subst e;exact d.1 z);rw[E,Af e];exact hm m (BC _ z)
  unfold PD.aO;rw[Af (by simp[L])];refine⟨I,W,λm=>?_⟩;rw[X,E];by_cases e:m=x
  ·subst e;simp
  ·simp[e]
end
def U7:∀(l:gD Int) (k:Nat) (r:Bs),(∀n∈l,Ay n)->l.length<k->r.length<8->GF k (l.flatMap AQ++r)=l
 | [],k,r,_,_,hr=>by
  cases k with
  | zero=>rfl
  | succ k=>simp[GF,hr]
 | n::t,k,r,hn,hk,hr=>by
  cases k with
  | zero=>simp at hk
  | succ k=>
   (have e:(n::t).flatMap AQ++r=AQ n++(t.flatMap AQ++r):=by simp[List.append_assoc]);have d:=CP n;rw[e];unfold GF;rw[Af (by simp[d]),MU n (hn n (BI ..))];rw[W8 (by rw[d]),U7 t k r (λx h=>hn x (BC _ h)) (by simp at hk;omega) hr]
def JE(l:gD Int):(l.flatMap AQ).length=8*l.length:=by
 induction l with
 | nil=>rfl
 | cons n t ih=>rw[M6,B3,ih,CP,CA];omega
def A1e(l:gD Int)(h:∀n∈l,Ay n):EM (l.flatMap AQ)=l:=by
 unfold EM;cases l with
 | nil=>rfl
 | cons n t=>
  have:=U7 (n::t) ((n::t).flatMap AQ).length [] h (by rw[JE];simp) (by simp);simpa using this
structure NL (ix:Ix):Prop where
 Bd:isNum ix.Bd=true
 sd:∀n∈ix.sd,isNum n=true
 Fc:CG Cr ix.sd=true
def Pd{n:Int}(h:isNum n=true):Ay n:=by
 unfold isNum at h;simp at h;constructor<;>omega
def A1D{ix:Ix}(h:NL ix):indexOf (Cn ix.Bd ix.sd,0)=some ix:=by
 have z:Cn ix.Bd ix.sd=(ix.Bd::ix.sd).flatMap AQ:=by simp[Cn]
 have hall:∀n∈ix.Bd::ix.sd,isNum n=true:=λn d=>by
  rcases BS.1 d with rfl|d
  ·exact h.Bd
  ·exact h.sd n d
 have e:EM (Cn ix.Bd ix.sd)=ix.Bd::ix.sd:=by
  rw[z];exact A1e _ λn d=>Pd (hall n d)
 have E:(Cn ix.Bd ix.sd).length=(ix.Bd::ix.sd).length*8:=by rw[z,JE];omega
 unfold indexOf;dsimp only
 rw[Af (by decide),e,Af (by simp[E]),Af,Ai]
 ·simp
 ·simpa using h.Fc
 ·have:(ix.Bd::ix.sd).all isNum=true:=NK.2 hall;rw[this];simp
def A1C:indexOf ([],8)=some ⟨1,[]⟩:=by simp[indexOf]
def FB(p:Pu):(Bg p.1 p.2.1 p.2.2).length=17:=by simp[Bg,CP]
def SE{p:Pu}(h:Bm p)(r:Bs):MD (Bg p.1 p.2.1 p.2.2++r)=p/\((Bg p.1 p.2.1 p.2.2++r).headD 0).toNat<8:=by
 obtain⟨a,t,v⟩:=p;obtain⟨⟨O,L⟩,z,d⟩:=h;dsimp only at O L z d ⊢;have I:=CP t;have E:((UInt8.ofNat (a % 256).toNat).toNat:Int)=a:=by
  have:(a % 256).toNat=a.toNat:=by omega
  rw[this];simp;omega
 unfold MD Bg;simp only[G2,List.headD_cons,DH,Dl,Ci];rw[E,MU t z,W8 (by rw[I]),MU v d];exact⟨rfl,by omega⟩
def RH:∀(l:gD Pu) (k:Nat),(∀p∈l,Bm p)->l.length<k->EV k (Cp l)=some (l,[])
 | [],k,_,hk=>by
  cases k with
  | zero=>simp at hk
  | succ k=>simp[EV,Cp]
 | p::t,k,hp,hk=>by
  cases k with
  | zero=>simp at hk
  | succ k=>
   (have e:Cp (p::t)=Bg p.1 p.2.1 p.2.2++Cp t:=by simp[Cp]);have⟨h1,h2⟩:=SE (hp p (BI ..)) (Cp t);have d:=FB p;rw[e];unfold EV;rw[Af (by simp[d]),Ai h2,W8 (by rw[d]),RH t k (λx h=>hp x (BC _ h)) (by simp at hk;omega),h1];rfl
def IF(l:gD Pu):(Cp l).length=17*l.length:=by
 induction l with
 | nil=>rfl
 | cons p t ih=>
  have e:Cp (p::t)=Bg p.1 p.2.1 p.2.2++Cp t:=by simp[Cp]
  rw[e,B3,ih,FB,CA];omega
def Yi{l:gD Pu}(h:∀p∈l,Bm p)(d:CG Cw l=true):Ji (Cp l,0)=some l:=by
 unfold Ji;dsimp only
 rw[Af (by decide)];cases l with
 | nil=>simp[Cp,EV,d]
 | cons p t=>
  rw[RH (p::t) _ h (by rw[IF];simp)];simp[d]
def Ei:Nat->gD Pu->Bs
 | _,[]=>[]
 | s,p::r=>AT s (Bg p.1 p.2.1 p.2.2)++Ei (AY s (Bg p.1 p.2.1 p.2.2)) r
def HU:Nat->gD Pu->Nat
 | s,[]=>s
 | s,p::r=>HU (AY s (Bg p.1 p.2.1 p.2.2)) r
def TO:∀(l:gD Pu) (s:Nat) (p:Pu),Ei s (l++[p])=Ei s l++AT (HU s l) (Bg p.1 p.2.1 p.2.2)/\HU s (l++[p])=AY (HU s l) (Bg p.1 p.2.1 p.2.2)
 | [],s,p=>by simp[Ei,HU]
 | x::r,s,p=>by
  have⟨h1,h2⟩:=TO r (AY s (Bg x.1 x.2.1 x.2.2)) p;simp only[G2,Ei,HU,h1,h2,Ci,and_self]
def Jx:∀(l:gD Pu) (s:Nat),(Ei s l).length=21*l.length
 | [],_=>rfl
 | p::r,s=>by
  simp only[Ei,B3,EJ,FB,Jx r,CA];omega
def MB:∀(l:gD Pu) (s k:Nat) (t:Bs),(∀p∈l,Bm p)->l.length<k->t.length<21->DV k s (Ei s l++t)=(l,true)
 | [],s,k,t,_,_,ht=>by simp only[Ei,Fa];exact Sn ht
 | p::r,s,k,t,hp,hk,ht=>by
  cases k with
  | zero=>simp at hk
  | succ k=>
   have z:=hp p (BI ..);have h17:=FB p;have E:=MB r (AY s (Bg p.1 p.2.1 p.2.2)) k t (λx I=>hp x (BC _ I)) (by simp at hk;omega) ht;have⟨h1,h2⟩:=SE z [];have d:Bg p.1 p.2.1 p.2.2=UInt8.ofNat (p.1 % 256).toNat::(AQ p.2.1++AQ p.2.2):=rfl;simp only[Gt]at h1 h2;have e:Ei s (p::r)++t=UInt8.ofNat (p.1 % 256).toNat::(AQ p.2.1++AQ p.2.2)++Cj (AY s (Bg p.1 p.2.1 p.2.2))++(Ei (AY s (Bg p.1 p.2.1 p.2.2)) r++t):=by
    simp only[Ei,AT,d,Ci]
   rw[e,Sr (by simp[CP]) (HQ _) (by rw[<-d]) (by rw[d]at h2;exact h2)];rw[<-d,E];have h:=h1;unfold MD at h;rw[d]at h;simp only[List.headD_cons,DH,Dl]at h;rw[h]
def Ej(nm:Bs)(ag:Int)(l:gD Pu):Bs:=AT (AI nm) (AQ ag)++Ei (AY (AI nm) (AQ ag)) l
def FE(nm:Bs)(ag:Int)(l:gD Pu):Nat:=HU (AY (AI nm) (AQ ag)) l
def Jy(nm:Bs)(ag:Int)(l:gD Pu):(Ej nm ag l).length=12+21*l.length:=by
 unfold Ej;rw[B3,EJ,CP,Jx]
def TQ(nm:Bs)(ag:Int)(l:gD Pu)(p:Pu):Ej nm ag (l++[p])=Ej nm ag l++AT (FE nm ag l) (Bg p.1 p.2.1 p.2.2)/\FE nm ag (l++[p])=AY (FE nm ag l) (Bg p.1 p.2.1 p.2.2):=by
 have⟨h1,h2⟩:=TO l (AY (AI nm) (AQ ag)) p;unfold Ej FE;rw[h1,h2,Ci];exact⟨rfl,rfl⟩
def Su(nm:Bs)(ag:Int)(l:gD Pu)(t:Bs)(h:Ay ag)(d:∀p∈l,Bm p)(z:t.length<21):Gy (AI nm) ag (Ej nm ag l++t)=(l,0):=by
 have e:Ej nm ag l++t=AQ ag++Cj (AY (AI nm) (AQ ag))++(Ei (AY (AI nm) (AQ ag)) l++t):=by
  simp only[Ej,AT,Ci]
 rw[e,Ss (CP _) (HQ _)];have E:BM (AQ ag)=ag:=by have:=MU ag h [];simpa using this
 rw[Ai ⟨rfl,E⟩,MB l _ _ t d (by rw[B3,Jx];omega) z];simp
def Z9(s:Nat)(ag:Int)(t:Bs)(d:t.length<12):Gy s ag t=([],0):=by
 unfold Gy;rw[Ai d]
section
variable{P:PD}{n ag:Int}
def TM{c:Bs}(h:P.bs (Ah n)=some c):P.aX n ag=Gy (AI (Ah n)) ag c:=by
 have d:=@JJ P (Ah n);unfold PD.Cy at d;rw[h]at d;unfold PD.aX H0;have e:Eb P.D P.F ⟨(Ah n).toArray⟩=(c,0):=d;rw[e];simp
def A1z{ix:Ix}(h:NL ix)(d:P.bs AJ=some (AT (AI AJ) (Cn ix.Bd ix.sd))):P.bb=some ix:=by
 unfold PD.bb;rw[Sl d,A1D h]
def Pk(d:P.bs AJ=none):P.bb=some ⟨1,[]⟩:=by
 unfold PD.bb;rw[Z4 d,A1C]
def Ye{l:gD Pu}(h:∀p∈l,Bm p)(z:CG Cw l=true)(d:P.bs (AG n)=some (AT (AI (AG n)) (Cp l))):P.CD n=some l:=by
 unfold PD.CD;rw[Sl d,Yi h z]
def P4{l:gD Pu}{t:Bs}(d:Ay ag)(h:∀p∈l,Bm p)(z:t.length<21)(E:P.bs (Ah n)=some (Ej (Ah n) ag l++t)):P.aX n ag=(l,0):=by
 rw[TM E,Su _ _ _ _ d h z]
end
def Jt(n:Int):Ah n=108::(Lib.repeatL [48] (19-(Lib.itoa n).length)++Lib.itoa n):=by simp[Ah,BT,Ey,Dh]
def IK(n:Int):AG n=115::(Lib.repeatL [48] (19-(Lib.itoa n).length)++Lib.itoa n):=by simp[AG,BT,Ey,Dh]
def TD{lt:Bs}{a b:Int}(d:isNum a=true)(E:isNum b=true)(h:Ey lt a=Ey lt b):a=b:=by
 unfold isNum at d E;simp at d E;have z:=MN lt (n:=a) (by omega) (by omega);have I:=MN lt (n:=b) (by omega) (by omega);rw[h,I]at z;simpa using z.symm
def Gi{a b:Int}(d:isNum a=true)(z:isNum b=true)(h:Ah a=Ah b):a=b:=TD (lt:=Dh 1) d z (by simpa[Ah,BT] using h)
def Lh{a b:Int}(d:isNum a=true)(z:isNum b=true)(h:AG a=AG b):a=b:=TD (lt:=Dh 2) d z (by simpa[AG,BT] using h)
def Gm(a b:Int):Ah a≠AG b:=by rw[Jt,IK];simp
def HT(a:Int):Ah a≠AJ:=by rw[Jt];simp[AJ]
def K7(a:Int):AG a≠AJ:=by rw[IK];simp[AJ]
def Lo(a:Int):Ah a≠Bw:=by rw[Jt];simp[Bw]
def Mr(a:Int):AG a≠Bw:=by rw[IK];simp[Bw]
def JA:AJ≠Bw:=by simp[AJ,Bw]
def Lk{n:Int}(h:isNum n=true):Bq (Ah n)=(1,n):=by
 have d:1<=n/\n<=4611686018427387904:=by unfold isNum at h;simpa using h
 unfold Bq;have e:En [108] (Ah n)=some n:=by
  have:=MN (Dh 1) (n:=n) (by omega) d.2;simpa[Ah,BT,Dh] using this
 rw[e]
def Lm{c d:UInt8}{r:Bs}(h:c≠d):En [c] (d::r)=none:=by
 cases hx:En [c] (d::r) with
 | none=>rfl
 | some v=>have:=(Ll hx).2;simp[Ey]at this;exact absurd this.1 h
def OV{n:Int}(h:isNum n=true):Bq (AG n)=(2,n):=by
 have d:1<=n/\n<=4611686018427387904:=by unfold isNum at h;simpa using h
 have e:En [115] (AG n)=some n:=by
  have:=MN (Dh 2) (n:=n) (by omega) d.2;simpa[AG,BT,Dh] using this
 have z:En [108] (AG n)=none:=by rw[IK];exact Lm (by decide)
 unfold Bq Hy;rw[z,e]
def Tu:Bq AJ=(3,0):=by
 have h:En [108] AJ=none:=Lm (by decide);have d:En [115] AJ=none:=Lm (by decide);unfold Bq Hy;rw[h,d];simp[Hx]
def A0C(a:Int):Ah a≠[]:=by rw[Jt];simp
def Yf(a:Int):AG a≠[]:=by rw[IK];simp
def Fo(P:PD):Int->gD (Int×gD Pu)->Prop
 | _,[]=>True
 | a,x::r=>P.aX x.1 a=(x.2,0)/\Fo P (a+x.2.length) r
def Ax(l:gD (Int×gD Pu)):gD Pu:=l.flatMap (·.2)
def VF(P:PD)(j:Jn)(cl:gD (Int×gD Pu)):Option (gD Pu)->Prop
 | none=>j.AB=none/\j.An=cl.map (·.1)
 | some l=>j.AB=some (j.Ac,FE (Ah j.Ac) j.pd l)/\j.An=cl.map (·.1)++[j.Ac]/\P.bs (Ah j.Ac)=some (Ej (Ah j.Ac) j.pd l)/\(∀p∈l,Bm p)/\isNum j.Ac=true
structure Lay (P:PD) (A:Ar) (sg cl:gD (Int×gD Pu)) (ol:Option (gD Pu)):Prop where
 DX:NL A.ix
 ix:(P.bs AJ=none/\A.ix=⟨1,[]⟩)\/P.bs AJ=some (AT (AI AJ) (Cn A.ix.Bd A.ix.sd))
 sd:sg.map (·.1)=A.ix.sd
 CD:∀x∈sg,((∀p∈x.2,Bm p)/\CG Cw x.2=true)/\P.bs (AG x.1)=some (AT (AI (AG x.1)) (Cp x.2))
 CX:∀x∈cl,(isNum x.1=true/\x.1<=A.j.Ac)/\∀p∈x.2,Bm p
 JI:∀x∈cl,ol≠none->x.1≠A.j.Ac
 F6:(∀x∈cl,A.ix.Bd<=x.1)/\(ol≠none->A.ix.Bd<=A.j.Ac)
 An:Fo P 0 cl
 GM:A.j.pd=((Ax cl).length:Int)
 AB:VF P A.j cl ol
 F4:0<=A.j.Ac/\A.ix.Bd<=A.j.Ac+1/\∀n,isNum n=true->P.bs (Ah n)≠none->n<=A.j.Ac
 EI:0<=A.Ac/\∀n,isNum n=true->P.bs (AG n)≠none->n<=A.Ac
 AR:∀nm∈A.AR,P.bs nm≠none
 Hz:A.j.An.Pairwise (· < ·)
 Ex:∀nm,P.bs nm≠none->(Bq nm).1≠0
 HS:∀n,isNum n=true->A.ix.Bd<=n->P.bs (Ah n)≠none->n∈A.j.An
def Bj(sg cl:gD (Int×gD Pu))(ol:Option (gD Pu)):gD Pu:=Ax sg++(Ax cl++ol.getD [])
section
variable{P P':PD}{A:Ar}{sg cl:gD (Int×gD Pu)}{ol:Option (gD Pu)}{N R:Nat}
def Fo.aw(d:∀m,P'.bs m=P.bs m):∀ {a:Int} {l:gD (Int×gD Pu)},Fo P a l->Fo P' a l
 | _,[],_=>trivial
 | a,x::r,h=>by
  obtain⟨E,z⟩:=h;refine⟨?_,z.aw d⟩;rw[<-E];unfold PD.aX H0;have e:∀Q:PD,Eb Q.D Q.F ⟨(Ah x.1).toArray⟩=match Q.bs (Ah x.1) with|some c=>(c,0)|none=>([],8):=λQ=>@JJ Q (Ah x.1)
  rw[e P',e P,d]
def A0B{n:Int}(d:P'.bs (Ah n)=P.bs (Ah n))(a:Int):P'.aX n a=P.aX n a:=by
 unfold PD.aX H0;have e:∀Q:PD,Eb Q.D Q.F ⟨(Ah n).toArray⟩=match Q.bs (Ah n) with|some c=>(c,0)|none=>([],8):=λQ=>@JJ Q (Ah n)
 rw[e P',e P,d]
def Fo.bz:∀ {a:Int} {l:gD (Int×gD Pu)},Fo P a l->(∀x∈l,P'.bs (Ah x.1)=P.bs (Ah x.1))->Fo P' a l
 | _,[],_,_=>trivial
 | a,x::_,h,hb=>⟨(A0B (hb x (BI ..)) a).trans h.1,h.2.bz λy d=>hb y (BC _ d)⟩
def Fo.bZ:∀ {a:Int} {l:gD (Int×gD Pu)} {x:Int×gD Pu},Fo P a l->P.aX x.1 (a+(Ax l).length)=(x.2,0)->Fo P a (l++[x])
 | a,[],x,_,h=>⟨by simpa[Ax] using h,trivial⟩
 | a,y::r,x,h,h2=>⟨h.1,h.2.bZ (by
  rw[<-h2];congr 1
  simp only[Ax,M6,B3];omega)⟩
def OA:∀ {l:gD (Int×gD Pu)} {d:gD Pu},Fo P d.length l->P.bq (l.map (·.1)) d=(d++Ax l,0)
 | [],d,_=>by simp[PD.bq,Ax]
 | x::r,d,h=>by
  obtain⟨z,E⟩:=h;simp only[GW,PD.bq];rw[z];dsimp only
  rw[Af (by simp),OA (by simpa using E)];simp[Ax,List.append_assoc]
def A0F{n a:Int}{l:gD Pu}(h:P.aX n a=(l,0)):P.bs (Ah n)≠none:=by
 intro d;have e:Eb P.D P.F ⟨(Ah n).toArray⟩=([],8):=by have:=@JJ P (Ah n);unfold PD.Cy at this;rw[d]at this;exact this
 unfold PD.aX H0 at h;rw[e]at h;simp at h
def Fo.DD:∀ {a:Int} {l:gD (Int×gD Pu)} {x:Int×gD Pu},Fo P a l->x∈l->P.bs (Ah x.1)≠none
 | a,y::r,x,h,d=>by
  rcases BS.1 d with rfl|d
  ·exact A0F h.1
  ·exact h.2.DD d
def Lay.dE(h:Lay P A sg cl ol)(hl:(Ax cl).length<=1099511627776):Ay A.j.pd:=by rw[h.GM];constructor<;>omega
def Lay.pd(h:Lay P A sg cl ol)(z:(Ax cl).length<=1099511627776):P.pd A.j.An=(Ax cl++ol.getD [],0):=by
 have d:=h.AB;unfold PD.pd;cases ol with
 | none=>
  rw[d.2,OA h.An];simp
 | some l=>
  obtain⟨-,I,E,L,h4⟩:=d
  have O:Fo P 0 (cl++[(A.j.Ac,l)]):=h.An.bZ (by
   have:=h.GM;rw[NM,<-this]
   exact P4 (t:=[]) (h.dE z) L (by simp) (by simpa using E))
  have e:cl.map (·.1)++[A.j.Ac]=(cl++[(A.j.Ac,l)]).map (·.1):=by simp
  rw[I,e,OA O];simp[Ax]
def Lay.ck(h:Lay P A sg cl ol):P.sd A.ix.sd=some sg:=by
 rw[<-h.sd];have d:∀l:gD (Int×gD Pu),(∀x∈l,x∈sg)->P.sd (l.map (·.1))=some l:=by
  intro l
  induction l with
  | nil=>intro _;rfl
  | cons x r ih=>
   intro z;have⟨⟨h1,h2⟩,h3⟩:=h.CD x (z x (BI ..));simp only[GW,PD.sd];rw[Ye h1 h2 h3];dsimp only
   rw[ih λy E=>z y (BC _ E)];rfl
 exact d sg λ_ h=>h
def Lay.aw(h:Lay P A sg cl ol)(d:∀m,P'.bs m=P.bs m):Lay P' A sg cl ol:=by
 refine⟨h.DX,by rw[d];exact h.ix,h.sd,λx z=>by rw[d];exact h.CD x z,h.CX,h.JI,h.F6,h.An.aw d,h.GM,?_,⟨h.F4.1,h.F4.2.1,λn I z=>h.F4.2.2 n I (by rw[<-d];exact z)⟩,
  ⟨h.EI.1,λn I z=>h.EI.2 n I (by rw[<-d];exact z)⟩,λnm E=>by rw[d];exact h.AR nm E,h.Hz,λnm E=>h.Ex nm (by rw[<-d];exact E),λn O L W=>h.HS n O L (by rw[<-d];exact W)⟩
 have:=h.AB;cases ol with
 | none=>exact this
 | some l=>unfold VF at this ⊢;rw[d];exact this
def Lay.I(h:Lay P A sg cl ol)(E:Cm P (N+A.AR.length) R):(A.I P).1=0/\(A.I P).2.1 = {A with AR:=[]}/\Cm (A.I P).2.2 N R/\(∀m,(A.I P).2.2.bs m=P.bs m)/\Lay (A.I P).2.2 {A with AR:=[]} sg cl ol:=by
 have⟨h1,h2,h3⟩:=Cm.ay A.AR E h.AR;have e:A.I P=(0,{A with AR:=[]},(P.ay A.AR).2):=by unfold Ar.I;rw[Af (by simp[h1])]
 have d:=h.aw h3;rw[e];exact⟨rfl,rfl,h2,h3,⟨d.DX,d.ix,d.sd,d.CD,d.CX,d.JI,d.F6,d.An,d.GM,d.AB,d.F4,d.EI,λnm z=>(by cases z),d.Hz,d.Ex,d.HS⟩⟩
def Lay.ax(h:Lay P A sg cl none)(hc:Cm P (N+2) R)(hn:isNum (A.j.Ac+1)=true)(hR:12<=R):
 (A.j.ax P).1=0/\Cm (A.j.ax P).2.2 N (R-12)/\Lay (A.j.ax P).2.2 {A with j:=(A.j.ax P).2.1} sg cl (some [])/\(A.j.ax P).2.1.AB≠none:=by
 obtain⟨n,W⟩:∃n,A.j.Ac+1=n:=⟨_,rfl⟩;have h0:P.bs (Ah n)=none:=by
  cases z:P.bs (Ah n) with
  | none=>rfl
  | some c=>have:=h.F4.2.2 n (W ▸ hn) (by rw[z];simp);omega
 have⟨a1,a2,a3⟩:=Cm.dX (N:=N+1) hc h0 (A0C n);obtain⟨-,b1,b2,b3⟩:=Cm.af (N:=N) (nm:=Ah n) (c:=[]) a2 (by rw[a3];simp) (AI (Ah n)) (AQ A.j.pd) (by rw[CP];omega);rw[CP]at b2;have L:=h.AB;have e:A.j.ax P=(0,⟨A.j.An++[n],n,A.j.pd,some (n,AY (AI (Ah n)) (AQ A.j.pd))⟩,((P.au (Ab (Ah n))).2.af (Ab (Ah n)) (AI (Ah n)) (AQ A.j.pd)).2.2):=by
  unfold Jn.ax;rw[W,Af (by simp[a1])];dsimp only
  rw[Af (by simp[b1])]
 rw[e];dsimp only
 have d:∀m,m≠Ah n->((P.au (Ab (Ah n))).2.af (Ab (Ah n)) (AI (Ah n)) (AQ A.j.pd)).2.2.bs m=P.bs m:=λm O=>by rw[b3,Af O,a3,Af O]
 have E:=b3 (Ah n);rw[Ai rfl,Fa]at E;generalize ((P.au (Ab (Ah n))).2.af (Ab (Ah n)) (AI (Ah n)) (AQ A.j.pd)).2.2=P2 at d E b2;have I:=W ▸ hn;have X:∀x∈cl,x.1≠n:=λx z e=>by have:=(h.CX x z).1.2;omega
 refine⟨rfl,b2,⟨h.DX,?_,h.sd,λx z=>?_,λx z=>?_,λx z _=>X x z,⟨h.F6.1,λ_=>by have:=h.F4.2.1;dsimp only;omega⟩,?_,h.GM,?_,?_,?_,λnm O=>?_,?_,λnm O=>?_,λk h1 h2 h3=>?_⟩,by simp⟩
 ·rw[d _ (HT n).symm];exact h.ix
 ·rw[d _ (Gm n x.1).symm];exact h.CD x z
 ·have⟨⟨c1,c2⟩,c3⟩:=h.CX x z;exact⟨⟨c1,by dsimp only;omega⟩,c3⟩
 ·exact h.An.bz λx z=>d _ λe=>X x z (Gi (h.CX x z).1.1 I e)
 ·refine⟨rfl,by dsimp only;rw[L.2],?_,by simp,I⟩;dsimp only
  rw[E];simp[Ej,Ei]
 ·refine⟨by have:=h.F4.1;dsimp only;omega,by have:=h.F4.2.1;dsimp only;omega,λk Y z=>?_⟩;dsimp only
  by_cases e:Ah k=Ah n
  ·have:=Gi Y I e;omega
  ·rw[d _ e]at z;have:=h.F4.2.2 k Y z;omega
 ·refine⟨h.EI.1,λk Y z=>h.EI.2 k Y ?_⟩
  rwa [d _ (Gm n k).symm]at z
 ·by_cases e:nm=Ah n
  ·subst e;rw[E];simp
  ·rw[d _ e];exact h.AR nm O
 ·dsimp only
  refine EF.2 ⟨h.Hz,by simp,λa ha b hb=>?_⟩;simp at hb;subst hb;rw[L.2]at ha;obtain⟨x,z,rfl⟩:=Cl.1 ha;have:=(h.CX x z).1.2;omega
 ·by_cases e:nm=Ah n
  ·subst e;rw[Lk I];simp
  ·rw[d _ e]at O;exact h.Ex nm O
 ·dsimp only
  by_cases e:Ah k=Ah n
  ·have:=Gi h1 I e;subst this;simp
  ·rw[d _ e]at h3;exact G1 _ (h.HS k h1 h2 h3)
def Lay.aF{l:gD Pu}(h:Lay P A sg cl (some l))(hc:Cm P (N+1) R)(p:Pu)(Y:Bm p)(hR:21<=R):
 (A.j.aF P p).1=true/\(A.j.aF P p).2.1=0/\Cm (A.j.aF P p).2.2.2 N (R-21)/\Lay (A.j.aF P p).2.2.2 {A with j:=(A.j.aF P p).2.2.1} sg cl (some (l++[p])):=by
 have⟨W,h2,h3,h4,h5⟩:=h.AB;obtain⟨n,hnn⟩:∃n,A.j.Ac=n:=⟨_,rfl⟩;have⟨b0,b1,b2,b3⟩:=Cm.af (N:=N) hc h3 (FE (Ah A.j.Ac) A.j.pd l) (Bg p.1 p.2.1 p.2.2) (by rw[FB];omega);rw[FB]at b2;have⟨q1,q2⟩:=TQ (Ah A.j.Ac) A.j.pd l p;unfold Jn.aF;rw[W];dsimp only
 refine⟨b0,b1,b2,?_⟩;have d:∀m,m≠Ah A.j.Ac->(P.af (Ab (Ah A.j.Ac)) (FE (Ah A.j.Ac) A.j.pd l) (Bg p.1 p.2.1 p.2.2)).2.2.bs m=P.bs m:=λm I=>by rw[b3,Af I]
 have E:=b3 (Ah A.j.Ac);rw[Ai rfl]at E;generalize (P.af (Ab (Ah A.j.Ac)) (FE (Ah A.j.Ac) A.j.pd l) (Bg p.1 p.2.1 p.2.2)).2.2=P2 at d E b2;refine⟨h.DX,?_,h.sd,λx z=>?_,h.CX,λx z _=>h.JI x z (by simp),⟨h.F6.1,λ_=>h.F6.2 (by simp)⟩,?_,h.GM,⟨?_,h2,?_,?_,h5⟩,⟨h.F4.1,h.F4.2.1,λk O z=>?_⟩,⟨h.EI.1,λk O z=>?_⟩,λnm I=>?_,h.Hz,λnm I=>?_,λk W X L=>?_⟩
 ·rw[d _ (HT _).symm];exact h.ix
 ·rw[d _ (Gm _ x.1).symm];exact h.CD x z
 ·exact h.An.bz λx z=>d _ λe=>h.JI x z (by simp) (Gi (h.CX x z).1.1 h5 e)
 ·dsimp only;rw[q2]
 ·dsimp only;rw[E,q1]
 ·intro x z;rcases AX.1 z with z|z
  ·exact h4 x z
  ·simp at z;subst z;exact Y
 ·by_cases e:Ah k=Ah A.j.Ac
  ·have:=Gi O h5 e;show k<=A.j.Ac;omega
  ·rw[d _ e]at z;exact h.F4.2.2 k O z
 ·rw[d _ (Gm _ k).symm]at z;exact h.EI.2 k O z
 ·by_cases e:nm=Ah A.j.Ac
  ·subst e;rw[E];simp
  ·rw[d _ e];exact h.AR nm I
 ·by_cases e:nm=Ah A.j.Ac
  ·subst e;rw[Lk h5];simp
  ·rw[d _ e]at I;exact h.Ex nm I
 ·by_cases e:Ah k=Ah A.j.Ac
  ·have:=Gi W h5 e;subst this;show A.j.Ac∈A.j.An;rw[h2];simp
  ·rw[d _ e]at L;exact h.HS k W X L
def Lay.af(h:Lay P A sg cl ol)(z:Cm P (N+A.AR.length+3) R)(E:ol=none->isNum (A.j.Ac+1)=true)(p:Pu)(d:Bm p)(hR:33<=R):
 (A.af P p).1=true/\(A.af P p).2.1=0/\Cm (A.af P p).2.2.2 N (R-33)/\Lay (A.af P p).2.2.2 (A.af P p).2.2.1 sg cl (some (ol.getD []++[p]))/\(A.af P p).2.2.1.AR=[]:=by
 have⟨s1,s2,s3,s4,s5⟩:=h.I (N:=N+3) (z.ai (by omega) (Ao _));unfold Ar.af;rw[Af (by simp[s1])];dsimp only
 rw[s2];dsimp only
 generalize (A.I P).2.2=P1 at s3 s4 s5;cases ol with
 | none=>
  have⟨b1,b2,b3,b4⟩:=Lay.ax (N:=N+1) s5 s3 (E rfl) (by omega);dsimp only at b1 b2 b3 b4;have⟨p1,p2,p3,p4⟩:=b3.aF (N:=N) b2 p d (by omega);dsimp only at p1 p2 p3 p4;have e:A.j.af P1 p=(A.j.ax P1).2.1.aF (A.j.ax P1).2.2 p:=by
   unfold Jn.af;rw[Ai h.AB.1,Af (by simp[b1])]
  rw[e];exact⟨p1,p2,p3.ai (Ao _) (by omega),p4,rfl⟩
 | some l=>
  have⟨p1,p2,p3,p4⟩:=s5.aF (N:=N) (s3.ai (by omega) (Ao _)) p d (by omega);dsimp only at p1 p2 p3 p4;have e:A.j.af P1 p=A.j.aF P1 p:=by
   unfold Jn.af;rw[Af (by rw[h.AB.1];simp)]
  rw[e];exact⟨p1,p2,p3.ai (Ao _) (by omega),p4,rfl⟩
def Lay.ad(h:Lay P A sg cl ol)(O:Cm P (N+A.AR.length+2) R):
 (A.ad P).1=0/\Cm (A.ad P).2.2 N R/\Lay (A.ad P).2.2 (A.ad P).2.1 sg cl ol/\(A.ad P).2.1 = {A with AR:=[]}:=by
 have⟨s1,s2,s3,s4,s5⟩:=h.I (N:=N+2) (O.ai (by omega) (Ao _));have E:((A.I P).2.1.j.ad (A.I P).2.2).1=0/\Cm ((A.I P).2.1.j.ad (A.I P).2.2).2 (N+1) R/\∀m,((A.I P).2.1.j.ad (A.I P).2.2).2.bs m=(A.I P).2.2.bs m:=by
  rw[s2];dsimp only
  unfold Jn.ad;cases ol with
  | none=>rw[h.AB.1];exact⟨rfl,s3.ai (by omega) (Ao _),λ_=>rfl⟩
  | some l=>
   rw[h.AB.1];have z:=s5.AB.2.2.1;dsimp only at z;exact Cm.dA (N:=N+1) s3 z
 obtain⟨I,L,d⟩:=E;have⟨d1,d2,d3⟩:=Cm.dY (N:=N) L;unfold Ar.ad;rw[Af (by simp[s1]),Af (by simp[I])];refine⟨d1,d2,?_,s2⟩;dsimp only
 rw[s2];rw[s2]at d3 d;dsimp only at d3 d ⊢;exact s5.aw λm=>by rw[d3,d]
end
end
end Go.Proofs.YtodcnkbblippnaaGreatDoor
