/- Part 15 of a proof: walks of the program. -/
import Derived.Test.YtodcnkbblippnaaGreatDoorPart14
namespace Go.Proofs.YtodcnkbblippnaaGreatDoor
set_option maxRecDepth 100000
set_option maxHeartbeats 32000000
set_option linter.defProp false
open Go.Proofs.Tryz
section
open Go.MuLone Go.RowKit
section
variable {w w' w2:World} {sb ab b B:Nat} {mu life win A7:Int} {ro:Bool} {lv:Nat->Value} {L L':Nat->List Pt} {A A':Ar} {P P':PD} {F0 FT:Nat->Prop} {a c m N:Nat}
def SF.c0(h:SF w sb ab b mu life win A7 ro L A P FT):A8 w sb 0 (.int .i32 mu)/\w.frozen? (A9 sb 0)=false/\sb<w.heap.size/\A8 w sb 2 (A6 ab):=by
 obtain⟨lv,F0,q,-⟩:=h;exact⟨q.Af.c0,q.Af.fz 0,q.Af.lt,q.Af.c2⟩
def SF.b9(h:SF w sb ab b mu life win A7 ro L A P FT)(E:∀k,FT k->B<=k)(f:Nat)(args:List Value)(n:Int)(X:Lets B w)(O:∀z F0,AD z ab b A P F0->(∀k,F0 k->k<z.heap.size)->Lets B z->(∀k,F0 k->B<=k)->Calls Tryz.prog f args.toArray z λe w'=>e=.returned (.int .i64 n)/\As z F0 w' (λw' d=>AD w' ab b A' P' d)):
 Calls Tryz.prog f args.toArray w λe w'=>e=.returned (.int .i64 n)/\As w FT w' (λw' d=>SF w' sb ab b mu life win A7 ro L A' P' d):=by
 obtain⟨lv,F0,q,I⟩:=h;refine(O w F0 q.ar q.lt X (λk W=>E k (I k (.inl W)))).mono ?_;rintro e w'⟨rfl,Y⟩;exact⟨rfl,q.eg I Y⟩
def A07(w:World)(n:Int)(h:SF w sb ab b 0 life win A7 false L A P FT)(aD:∀k,FT k->k<w.heap.size)(hL:Lets B w)(W:∀k,FT k->B<=k)(aK:∀d F0,AD d ab b A P F0->(∀k,F0 k->k<d.heap.size)->Lets B d->(∀k,F0 k->B<=k)->Ag 68 #[A6 ab,A0 win] d (Aj (A0 n) λw'=>As d F0 w' (λw' z=>AD w' ab b A' P' z))):
 Ag 24 #[A6 sb] w (Aj (A0 n) λw'=>As w FT w' (λw' z=>SF w' sb ab b 0 life win A7 (decide (n≠0)) L A' P' z)):=by
 obtain⟨c0,f0,hz,-⟩:=h.c0;have X:A4 Aa w (w.aC #[A6 sb] 36):=(A4.C _ w).ah _;have aA:=Bf w (.cells #[A6 sb] 36);have aE:=hL.1;refine(Qt w n (λw2=>As w FT w2 (λw' z=>SF w' sb ab b 1 life win A7 (decide (n≠0)) L A' P' z)) c0 f0 hz (λd aH=>?_)).mono ?_
 ·have I:=(h.al X).bJ;rw[<-aH]at I;obtain⟨Y,aF,s1,s2,s3⟩:=I;have aB:=(hL.aM X).ai Y W;have b0:(w.aC #[A6 sb] 36).cell? (A9 w.heap.size 0)=some (A6 sb):=CP aA;have hx:d.cell? (A9 w.heap.size 0)=some (A6 sb):=by
   have hb:=Y.Am w.heap.size (by simp) (λhx=>GB _ (aD _ hx));unfold World.cell? at b0 ⊢;rw[hb];exact b0
  have O:∀k,aF k->B<=k:=λk hk=>(s3 k hk).elim (W k) λh=>AQ aE (AQ X.Al h)
  obtain⟨aG,aJ,q,hs⟩:=s1;have s1:SF d sb ab b 1 life win A7 false L A P aF:=⟨aG,aJ,q,hs⟩;have body:Ag 67 #[A6 w.heap.size] d (Aj (A0 n) λw'=>As d aF w' (λw' z=>SF w' sb ab b 1 life win A7 false L A' P' z)):=by
   have kd:A4 Aa d d.drew:=(A4.C _ d).aa;refine A09 d w.heap.size n _ q.Af hx ?_;refine((s1.al kd).b9 O _ [A6 ab,A0 win] n (aB.aM kd) aK).mono ?_;rintro e w'⟨rfl,E⟩;exact⟨rfl,E.aY kd⟩
  refine(A2s d w.heap.size n s1 body).mono ?_;rintro e w'⟨rfl,E⟩;have aI:=(As.a7 Y s3 E).aY X;obtain⟨-,F3,q3,-,-⟩:=E;obtain⟨d0,df,-,-⟩:=q3.c0;exact⟨rfl,d0,df,aI⟩
 ·rintro e w'⟨rfl,w2,E,rfl⟩;exact⟨rfl,SFto.CT E 0 _ λlv h=>h.s0 0⟩
def W5(w:World)(n:Int)(h:SF w sb ab b 0 life win A7 false L A P FT)(Y:Lets B w)(E:∀k,FT k->B<=k)(aA:∀z F0,AD z ab b A P F0->(∀k,F0 k->k<z.heap.size)->Lets B z->(∀k,F0 k->B<=k)->Ag 74 #[A6 ab] z (Aj (A0 n) λw'=>As z F0 w' (λw' d=>AD w' ab b A' P' d))):
 Ag 31 #[A6 sb] w (Aj (A0 n) λw'=>As w FT w' (λw' d=>SF w' sb ab b 0 life win A7 (decide (n≠0)) L A' P' d)):=by
 obtain⟨c0,f0,-,-⟩:=h.c0;have O:=Y.1;obtain⟨X,F1,s1,s2,s3⟩:=h.bJ;obtain⟨-,-,-,c2⟩:=s1.c0;refine(Qs (ab:=ab) w n (λw2=>As w FT w2 (λw' d=>SF w' sb ab b 1 life win A7 (decide (n≠0)) L A' P' d)) c0 f0 c2 ?_).mono ?_
 ·refine(A2q _ 0 n s1 (s1.b9 (λk hk=>(s3 k hk).elim (E k) λh=>AQ O h) _ [A6 ab] n (Y.ai X E) aA)).mono ?_;rintro e w'⟨rfl,I⟩;have W:=As.a7 X s3 I;obtain⟨-,F3,q3,-,-⟩:=I;obtain⟨d0,df,-,-⟩:=q3.c0;exact⟨rfl,d0,df,W⟩
 ·rintro e w'⟨rfl,w2,I,rfl⟩;exact⟨rfl,SFto.CT I 0 _ λlv h=>h.s0 0⟩
end
end
section
open Go.MuLone Go.RowKit
attribute [local go_sem ↓] Go.wp_at_zero Go.wp_at_succ Cw
def Zh(w:World):Eb w (λ_=>.slice none 0 0) (λ_=>[]):=
 ⟨λ_ _=>Cp _ _ _ _,λ_ _=>List.Pairwise.nil,λ_ _=>by simp,λ_ _ _ _ _ g h=>by simp[Value.ownBlock]at h⟩
def Gp(o:Int)(d:List Pu):Nat->List Pt:=d.foldl (λL p=>Es L o p.1.toNat p.2.1 p.2.2) (λ_=>[])
def Oi(o:Int)(d:List Pu)(p:Pu):Gp o (d++[p])=Es (Gp o d) o p.1.toNat p.2.1 p.2.2:=by simp[Gp]
def Oj(o:Int)(k:Nat):∀n (d:List Pu),d.length=n->(Gp o d k).length<=n
 | 0,d,h=>by obtain rfl:=Hj.1 h;simp[Gp]
 | n+1,d,h=>by
  have z:d≠[]:=λe=>by subst e;simp at h
  have E:=(N2 z).symm;rw[E,Oi];have h1:=Oj o k n d.dropLast (by rw[UJ];omega);have h2:=Oh (Gp o d.dropLast) o (d.getLast z).1.toNat (d.getLast z).2.1 (d.getLast z).2.2 k;omega
def Zd{P:PD}{n:Int}(h:Ar.aQ P=.error n):n≠0:=by
 unfold Ar.aQ at h;split at h
 ·cases h;decide
 ·split at h
  ·cases h;decide
  ·split at h
   ·cases h;decide
   ·split at h
    ·rename_i d;cases h;exact d
    ·cases h
section
variable {w w' w2:World} {sb ab b B:Nat} {mu life win A7:Int} {ro:Bool} {lv:Nat->Value} {L L':Nat->List Pt} {A A':Ar} {P P':PD} {F0 Ft FT:Nat->Prop} {a c m N:Nat}
def RU(w:World)(life win A7:Int)(hl:1<=life/\life<=4611686018427387904)(hw:1<=win/\win<=4611686018427387904)(hc:Ax A7)(aK:∀k,Ft k->k<w.heap.size)(aW:∀A d,Ar.aQ P=.ok (A,d)->d.length<1099511627000/\∀p∈d,0<=p.1/\p.1<8)(a5:∀E,A4 Aa w E->Ag 59 #[A6 b] E λe w'=>
  (∃n,Ar.aQ P=.error n/\e=.returned (.tuple #[.pointer none,.slice none 0 0,A0 n])/\A4 Aa E w')\/
  (∃A d ab v FT,Ar.aQ P=.ok (A,d)/\e=.returned (.tuple #[A6 ab,v,A0 0])/\B5 w' v d/\AD w' ab b A P FT/\(∀k,FT k->Ft k\/E.heap.size<=k)/\(∀k,FT k->k<w'.heap.size)/\(∀g,v.ownBlock=some g->¬FT g/\E.heap.size<=g)/\A4 Aa E w')):
 Ag 22 #[A6 b,.agg #[A0 life,A0 win],A0 A7] w λe w'=>
  (∃n,Ar.aQ P=.error n/\e=.returned (.tuple #[.pointer none,A0 n])/\A4 Aa w w')\/
  (∃A d ab sb,Ar.aQ P=.ok (A,d)/\e=.returned (.tuple #[A6 sb,A0 0])/\w.heap.size<=sb/\As w Ft w' (λw' I=>SF w' sb ab b 0 life win A7 false (Gp (AT A7 life) d) A P I)):=by
 have aS:Hid (∀w',Ag 58 #[A0 life] w' λe aF=>e=.returned (.bool true)/\w'=aF):=λw'=>by
  have:=KF w' life
  rwa [Ct hl]at this
 have a0:Hid (∀w',Ag 58 #[A0 win] w' λe aF=>e=.returned (.bool true)/\w'=aF):=λw'=>by
  have:=KF w' win
  rwa [Ct hw]at this
 have hA:=(A4.C Aa w).ah (.cells #[A0 life,A0 win] 48);have aE:=Bf w (.cells #[A0 life,A0 win] 48);generalize hw0:(w.alloc (.cells #[A0 life,A0 win] 48))=w0 at hA aE;have q0:A8 w0 w.heap.size 0 (A0 life):=CP aE;have q1:A8 w0 w.heap.size 1 (A0 win):=CP aE;have a4:=A1 (a5 w0 hA);have aP:=A1 hA;have HLT:=A1 aK;have aX:=A1 aW;have a9:=A1 hl;have bA:=A1 hc
 go_enter func22,ntmps22
 go_wp2_with (fail);refine(aS.o _).mono ?_;rintro e w'⟨rfl,rfl⟩;go_wp2_with (fail);refine(a0.o _).mono ?_;rintro e w'⟨rfl,rfl⟩;go_wp2_with (fail);refine a4.m ?_;rintro e E (⟨n,hO,rfl,W⟩|⟨A,d,ab,v,FT,hO,rfl,hp,ha,hf1,hf2,hf3,W⟩)
 ·have hn:=Zd hO;have hnb:(n !=0)=true:=by simpa using hn
  have aU:=A1 hO;have aL:=A1 (aP.o.tr W);go_wp2;go_ret2;exact .inl ⟨n,aU.o,rfl,aL.o⟩
 ·obtain⟨va,z,rfl,v1,v2,v3,-⟩:=Bk hp;unfold maxLen at v2;have r0:=W.ag q0;have r1:=W.ag q1;obtain⟨aN,aD⟩:=aX.o A d hO;have aL:Hid (A4 Aa w E):=aP.o.tr W;have a3:=A1 hp;have a1:=A1 ha;have aR:Hid (∀k,FT k->Ft k\/w.heap.size<=k):=λk h=>(hf1 k h).imp id (AQ aP.o.Al)
  have aH:=A1 hf2;have a2:=A1 hf3;have aU:=A1 hO;have aV:=A1 aN;have aQ:=A1 aD;have aT:FO 0 (A6 ab) life win A7 false (λ_=>.slice none 0 0) = #[.int .i32 0,.int .u32 0,A6 ab,A0 life,A0 win,A0 A7,.bool false,.slice none 0 0,.slice none 0 0,.slice none 0 0,.slice none 0 0,.slice none 0 0,.slice none 0 0,.slice none 0 0,.slice none 0 0]:=rfl
  have ST:Hid (∀w2,w2=E.alloc (.cells (FO 0 (A6 ab) life win A7 false (λ_=>.slice none 0 0)) 111)->
   As w Ft w2 (λw' I=>SF w' E.heap.size ab b 0 life win A7 false (Gp (AT A7 life) (d.take 0)) A P I/\∀g,(Value.slice va d.length z).oB g->¬I g)/\B5 w2 (.slice va d.length z) d):=λw2 e=>by
   subst e;have kA:A4 Aa E (E.alloc (.cells (FO 0 (A6 ab) life win A7 false (λ_=>.slice none 0 0)) 111)):=(A4.C _ E).ah _;have hb:Bw (E.alloc (.cells (FO 0 (A6 ab) life win A7 false (λ_=>.slice none 0 0)) 111)) E.heap.size 0 (A6 ab) life win A7 false (λ_=>.slice none 0 0):=Bf E _;have nS:¬FT E.heap.size:=λh=>GB _ (aH.o _ h);refine⟨⟨(aL.o.tr kA).ad λ_ _ h=>h.elim,λk=>FT k\/Own E.heap.size (λ_=>.slice none 0 0) k,⟨⟨_,FT,⟨hb,Zh _,a1.o.al kA,λk W=>Bi (aH.o k W) kA.Al,nS,λk W=>?_⟩,λ_ h=>h⟩,λg hg hx=>?_⟩,λk W=>?_,λk W=>?_⟩,Aw a3.o λg hg=>kA.Am g (Ay a3.o hg) (λh=>h)⟩
   ·obtain⟨i,_,hi⟩:=W;simp[Value.ownBlock]at hi
   ·rcases hx with hx|rfl|⟨i,_,hi⟩
    ·exact(a2.o g hg).1 hx
    ·have:=Ay a3.o hg;omega
    ·simp[Value.ownBlock]at hi
   ·rcases W with W|rfl|⟨i,_,hi⟩
    ·exact Bi (aH.o k W) kA.Al
    ·simp
    ·simp[Value.ownBlock]at hi
   ·rcases W with W|rfl|⟨i,_,hi⟩
    ·exact aR.o k W
    ·exact .inr aL.o.Al
    ·simp[Value.ownBlock]at hi
  have aY:Hid (w.heap.size<=E.heap.size):=aL.o.Al;rw[aT]at ST;have aZ:=A1 (ST.o _ rfl);go_wp2;go_loopw [43] (λiv wr=>∃k:Nat,k<=d.length/\iv=A0 k/\Hid (As w Ft wr (λw' I=>SF w' E.heap.size ab b 0 life win A7 false (Gp (AT A7 life) (d.take k)) A P I/\∀g,(Value.slice va d.length z).oB g->¬I g)/\B5 wr (.slice va d.length z) d)) (λiv _=>d.length-(intOf iv).toNat)
  case atStart=>exact⟨0,by omega,by go_num,aZ.o⟩
  case round=>
   obtain⟨k,W,rfl,hI⟩:=hrel;obtain⟨aA,aJ⟩:∃aA,aA=wr:=⟨_,rfl⟩;subst aJ;have k0:=BR k;by_cases aB:k<d.length
   ·(have kI:(k:Int)<(d.length:Int):=by omega);obtain⟨g,o,rfl,hgl,c1,c2,c3⟩:=Hx.at hI.o.2.rd k aB;have aO:d.take (k+1)=d.take k++[d[k]'aB]:=DL aB;have aD:=aQ.o _ (BT aB);have aN:=aV.o;generalize hp:(d[k]'aB)=p at c1 c2 c3 aO aD;have aG:Hid (∀w3,A4 Aa aA w3->Ag 60 #[A6 E.heap.size,DV p] w3 (Aj (.tuple #[]) λw'=>(As w Ft w' (λw' I=>SF w' E.heap.size ab b 0 life win A7 false (Gp (AT A7 life) (d.take (k+1))) A P I/\∀X,(Value.slice (some (A9 g o)) d.length z).oB X->¬I X)/\B5 w' (.slice (some (A9 g o)) d.length z) d))):=λw3 k3=>by
     obtain⟨⟨i1,F1,⟨i2,i3⟩,i4,i5⟩,i6⟩:=hI.o;have aI:∀j,j<8->(Gp (AT A7 life) (d.take k) j).length<1099511627000:=λj _=>by
      have:=Oj (AT A7 life) j _ (d.take k) rfl;rw[BI]at this;omega
     refine(SM w3 p (i2.al k3) aD aI a9.o bA.o).mono ?_;rintro e w'⟨rfl,q1,a8,q2,q3,q4⟩;have aM:A4 Ft w w3:=i1.Au k3 λ_ h _=>h.elim;have Y:∀X,(Value.slice (some (A9 g o)) d.length z).oB X->X<aA.heap.size:=λX O=>Ay i6 O;refine⟨rfl,⟨aM.Au q1 λx hx aK=>(i5 x hx).resolve_right (by omega),a8,⟨by rw[aO,Oi];exact q2,λX O hx=>?_⟩,q3,λx hx=>?_⟩,?_⟩
     ·rcases q4 X hx with hy|hy
      ·exact i3 X O hy
      ·have:=Y X O;have:=k3.Al;omega
     ·rcases q4 x hx with hy|hy
      ·exact i5 x hy
      ·exact .inr (AQ aM.Al hy)
     ·exact Aw (Aw i6 λX O=>k3.Am X (Y X O) λh=>h) λX O=>q1.Am X (Bi (Y X O) k3.Al) (i3 X O)
    obtain⟨p1,p2,p3⟩:=p;unfold DV at aG;dsimp only at c1 c2 c3 aG;go_wp2_with (go_at_call 60;refine(aG.o _ ((A4.C _ aA).ah _)).mono ?_;rintro e w3⟨rfl,hS⟩;have a6:=A1 hS);go_roundw
    case rel=>exact⟨k+1,by omega,by go_num,a6.o⟩
    case measure=>simp[intOf];omega
   ·(obtain rfl:k=d.length:=by omega);have a7:=A1 hI.o.1;go_wp2;go_ret2;refine .inr ⟨A,d,ab,E.heap.size,aU.o,rfl,aY.o,?_⟩;have h:=a7.o;rw[Cc]at h;exact h.fy λ_ _ h=>h.1
end
end
section
open Go.RowKit
def JG{α:Type}{l:List α}(h:l.Nodup){i j:Nat}(E:i<l.length)(z:j<l.length)(e:l[i]'E=l[j]'z):i=j:=by
 have I:=Lb.1 h;rcases A3v i j with d|d|d
 ·exact absurd e (I i j E z d)
 ·exact d
 ·exact absurd e.symm (I j i z E d)
def JF{es:List AN}(h:(es.map (·.2)).Nodup){a b:AN}(d:a∈es)(E:b∈es)(e:a.2=b.2):a=b:=by
 obtain⟨i,I,rfl⟩:=Ep d;obtain⟨j,z,rfl⟩:=Ep E;have:i=j:=JG h (by simpa using I) (by simpa using z) (by simpa using e);subst this;rfl
def E9{es:List AN}{nm:ByteArray}{f:Nat}(h:lookup es nm=some f):(nm,f)∈es:=by
 induction es with
 | nil=>cases h
 | cons e r ih=>
  unfold lookup at h;split at h
  ·rename_i d;cases h;subst d;exact BQ ..
  ·exact BW _ (ih h)
def IW{es:List AN}{nm:ByteArray}:lookup es nm=none↔∀e∈es,e.1≠nm:=by
 induction es with
 | nil=>simp[lookup]
 | cons e r ih=>
  unfold lookup;by_cases d:e.1=nm
  ·simp[d]
  ·simp only[d,C3,ih,BX,forall_eq_or_imp,JH,O5,true_and]
def lookup_append(es d:List AN)(nm:ByteArray):lookup (es++d) nm=(lookup es nm).or (lookup d nm):=by
 induction es with
 | nil=>simp[lookup]
 | cons e r ih=>
  simp only[FL,lookup];split
  ·simp
  ·exact ih
def KC(es:List AN)(p:ByteArray->Bool)(nm:ByteArray):lookup (es.filter λe=>p e.1) nm=if p nm then lookup es nm else none:=by
 induction es with
 | nil=>simp[lookup]
 | cons e r ih=>
  simp only[Gd];by_cases z:e.1=nm
  ·subst z;by_cases h:p e.1
   ·simp[h,lookup]
   ·(have d:p e.1=false:=by simpa using h);rw[d]at ih ⊢;simpa using ih
  ·by_cases h:p e.1
   ·simp only[h,Ci,lookup,z,C3,ih]
   ·(have d:p e.1=false:=by simpa using h);simp only[d,lookup,z,C3];simpa using ih
def J5(es:List AN)(nm:ByteArray):(B6 es nm<0↔lookup es nm=none):=by
 rcases IX es nm with⟨z,d⟩|⟨k,hk,z,d,h3⟩
 ·simp[z,d]
 ·simp only[z,d];exact⟨λh=>by omega,λh=>by cases h⟩
def Tn(es:List AN)(nm:ByteArray)(W:(es.map (·.1)).Nodup)(h:¬B6 es nm<0):
 es.take (B6 es nm).toNat++es.drop ((B6 es nm).toNat+1)=es.filter λe=>decide (e.1≠nm):=by
 induction es with
 | nil=>simp[B6]at h
 | cons e r ih=>
  have d:e.1∉r.map (·.1)/\(r.map (·.1)).Nodup:=by simpa using W
  unfold B6 at h ⊢;by_cases E:e.1=nm
  ·subst E;simp only[Ci,Int.toNat_zero,Fe,EU,GM,Du,Db];rw[Lh (by simp)];rw[List.filter_eq_self.2];intro x O;simp only[DO,JH];rintro z;exact d.1 (z ▸ Ed O)
  ·simp only[E,C3]at h ⊢;by_cases I:B6 r nm<0
   ·simp[I]at h
   ·simp only[I,C3]at h ⊢;(have L:(B6 r nm+1).toNat=(B6 r nm).toNat+1:=by omega);rw[L,Fs,Du,FL,ih d.2 I,Jg (by simp[E])]
def R7(es:List AN)(old nm:ByteArray)(Y:(es.map (·.1)).Nodup)(h:¬B6 es old<0):
 Dk es (B6 es old).toNat nm es.length=es.filter λe=>decide (e.1≠old/\e.1≠nm):=by
 have I:∀k,k<=es.length->Dk es (B6 es old).toNat nm k=(es.take k).filter λe=>decide (e.1≠old/\e.1≠nm):=by
  intro k
  induction k with
  | zero=>intro _;simp[Dk]
  | succ k ih=>
   intro hk;(have d:k<es.length:=by omega);have z:(k=(B6 es old).toNat)↔(es[k]'d).1=old:=by
    rcases OE es old with⟨O,_⟩|⟨m,hm,O,L⟩
    ·omega
    ·rw[O];constructor
     ·intro e;have X:k=m:=by simpa using e
      subst X;exact L
     ·intro e;have:k=m:=JG Y (by simpa using d) (by simpa using hm) (by simp[e,L]);simp[this]
   rw[DL d,Li,<-ih (by omega)];by_cases E:k≠(B6 es old).toNat/\(es[k]'d).1≠nm
   ·rw[R6 es _ nm k d E,Jg]
    ·simp
    ·simp only[DO];exact⟨λe=>E.1 (z.2 e),E.2⟩
   ·rw[NH es _ nm k d E,Lh]
    ·simp
    ·simp only[DO];intro W;exact E ⟨λe=>W.1 (z.1 e),W.2⟩
 have:=I es.length (Ao _)
 rwa [Cc]at this
def Ni(F:Nat->FC)(es:List AN)(p:AN->Bool):AX F (es.filter p)<=AX F es:=by
 induction es with
 | nil=>simp[AX]
 | cons e r ih=>
  rw[Gd];split
  ·simp only[AX];omega
  ·simp only[AX];omega
def Q5(F:Nat->FC)(f:Nat)(c:FC)(es:List AN)(h:∀e∈es,e.2≠f):AX (upd F f c) es=AX F es:=by
 induction es with
 | nil=>simp[AX]
 | cons e r ih=>
  simp only[AX,upd,h e (BQ ..),C3];rw[<-ih λx d=>h x (BW _ d)]
def Q6(F:Nat->FC)(f:Nat)(c:FC)(es:List AN)(O:(es.map (·.2)).Nodup)(h:∃e∈es,e.2=f):AX (upd F f c) es+(F f).1.length=AX F es+c.1.length:=by
 induction es with
 | nil=>obtain⟨e,E,_⟩:=h;cases E
 | cons e r ih=>
  have z:e.2∉r.map (·.2)/\(r.map (·.2)).Nodup:=by simpa using O
  by_cases E:e.2=f
  ·subst E;have:AX (upd F e.2 c) r=AX F r:=Q5 F _ c r λx I d=>z.1 (d ▸ Ed I);simp only[AX,this];simp[upd];omega
  ·obtain⟨x,I,d⟩:=h;have L:∃x∈r,x.2=f:=by
    rcases BX.1 I with rfl|I
    ·exact absurd d E
    ·exact⟨x,I,d⟩
   have:=ih z.2 L;simp only[AX,upd,E,C3]at this ⊢;omega
def PD.fl(P:PD)(nm:Bs):Option FC:=(lookup P.D.A5 (Ab nm)).map P.F
structure Cm (P:PD) (N R:Nat):Prop where
 Bh:P.D.n.Bh=false
 CN:P.D.n.CN=0
 DJ:P.D.n.DJ=0
 B8:0<=P.D.n.B8/\P.D.n.B8+N<=4611686018427387904
 AA:(AX P.F P.D.A5:Int)+R<=P.D.n.AA
 Ap:(P.D.A5.map (·.2)).Nodup
 Cd:(P.D.A5.map (·.1)).Nodup
section
variable {P:PD} {N R:Nat} {nm:Bs}
def Cm.ad{N' R':Nat}(h:Cm P N R)(hN:N'<=N)(hR:R'<=R):Cm P N' R':=
 ⟨h.Bh,h.CN,h.DJ,⟨h.B8.1,by have:=h.B8.2;omega⟩,by have:=h.AA;omega,h.Ap,h.Cd⟩
def Cm.bg(h:Cm P (N+1) R):bg P.D.n=(true,0,{P.D.n with B8:=P.D.n.B8+1}):=by
 obtain⟨c1,c2⟩:=h.B8;have e:wrap64 (P.D.n.B8+1)=P.D.n.B8+1:=by unfold wrap64;omega
 unfold Go.Proofs.YtodcnkbblippnaaGreatDoor.bg;dsimp only
 rw[e,Ae (by simp[h.Bh]),Ae (by rw[h.CN];omega),Ae (by rw[h.DJ];omega)]
def A1a:P.fl nm=none↔lookup P.D.A5 (Ab nm)=none:=by unfold PD.fl;simp
def Mj{c:FC}(h:P.fl nm=some c):∃f,lookup P.D.A5 (Ab nm)=some f/\P.F f=c:=by
 unfold PD.fl at h;simpa using h
def S4(h:nm≠[]):Ab nm≠ByteArray.empty:=λe=>h (by have:Ab nm=Ab []:=e;exact G5.1 this)
def Cm.ao(h:Cm P (N+1) R)(Y:P.fl nm=none)(d:nm≠[]):
 (P.ao (Ab nm)).1=0/\Cm (P.ao (Ab nm)).2 N R/\∀m,(P.ao (Ab nm)).2.fl m=if m=nm then some ([],0) else P.fl m:=by
 have W:=A1a.1 Y;have hx:¬(Ab nm=ByteArray.empty\/B6 P.D.A5 (Ab nm)≥0):=by
  rintro (h|h)
  ·exact S4 d h
  ·have:=(J5 P.D.A5 (Ab nm)).2 W;omega
 have z:∀e∈P.D.A5,e.2≠P.D.AV:=λe E X=>P.D.cx (.inl ⟨e,E,X⟩);unfold PD.ao CM;rw[Ae hx];dsimp only
 rw[h.bg];dsimp only
 rw[Ai rfl];refine⟨rfl,⟨h.Bh,h.CN,h.DJ,by have:=h.B8;dsimp only;omega,?_,?_,?_⟩,λm=>?_⟩
 ·have:=h.AA;dsimp only
  rw[Kg,Q5 _ _ _ _ z];simp only[AX,upd,Ci,ID];omega
 ·dsimp only
  rw[EV,Hf];refine⟨h.Ap,by simp,λa O b I=>?_⟩;simp at I;subst I;obtain⟨e,E,rfl⟩:=CD.1 O;exact z e E
 ·dsimp only
  rw[EV,Hf];refine⟨h.Cd,by simp,λa O b I=>?_⟩;simp at I;subst I;obtain⟨e,E,rfl⟩:=CD.1 O;exact(IW.1 W) e E
 ·unfold PD.fl;dsimp only
  rw[lookup_append];by_cases L:m=nm
  ·subst L;rw[W];simp[lookup,upd]
  ·have d:¬Ab nm=Ab m:=λe=>L (G5.1 e).symm;simp only[lookup,d,C3,Option.or_none,L];cases hk:lookup P.D.A5 (Ab m) with
   | none=>rfl
   | some f=>
    have:f≠P.D.AV:=z _ (E9 hk);simp[upd,this]
def Kw(l:Bs):(Ab l).size=l.length:=by simp[Ab,ByteArray.size]
def Cm.aq{c:FC}(h:Cm P (N+1) R)(I:P.fl nm=some c)(l:Bs)(hl:l.length<=R):
 (P.aq (Ab nm) l).1=0/\Cm (P.aq (Ab nm) l).2 N (R-l.length)/\∀m,(P.aq (Ab nm) l).2.fl m=if m=nm then some (c.1++l,c.2) else P.fl m:=by
 obtain⟨f,z,rfl⟩:=Mj I;have hroom:=h.AA;have d:¬((Ab l).size:Int)>G9 {P.D with n:={P.D.n with B8:=P.D.n.B8+1}} P.F:=by
  unfold G9;rw[Kw];dsimp only;omega
 unfold PD.aq Bx;rw[z];dsimp only
 rw[h.bg];dsimp only
 rw[Ai rfl];unfold BK;rw[Ae d];dsimp only
 have L:(Ab l).data.toList.take ((Ab l).size:Int).toNat=l:=by rw[Kw];simp[Ab]
 rw[L];have hu:=Q6 P.F f ((P.F f).1++l,(P.F f).2) P.D.A5 h.Ap ⟨_,E9 z,rfl⟩;refine⟨rfl,⟨h.Bh,h.CN,h.DJ,by have:=h.B8;dsimp only;omega,?_,h.Ap,h.Cd⟩,λm=>?_⟩
 ·dsimp only
  simp only[Ba]at hu;omega
 ·unfold PD.fl;dsimp only
  by_cases E:m=nm
  ·subst E;rw[z];simp[upd]
  ·rw[Ae E];cases hk:lookup P.D.A5 (Ab m) with
   | none=>rfl
   | some g=>
    have:g≠f:=λe=>E (by
     have:=JF h.Ap (E9 hk) (E9 z) e
     exact G5.1 (Pf this).1)
    simp[upd,this]
def Cm.ae{c:FC}(h:Cm P (N+1) R)(z:P.fl nm=some c):
 (P.ae (Ab nm)).1=0/\Cm (P.ae (Ab nm)).2 N R/\∀m,((P.ae (Ab nm)).2.fl m).map (·.1)=(P.fl m).map (·.1):=by
 obtain⟨f,d,rfl⟩:=Mj z;unfold PD.ae Cz;rw[d];dsimp only
 rw[h.bg];dsimp only
 rw[Ai rfl];have hu:=Q6 P.F f ((P.F f).1,(P.F f).1.length) P.D.A5 h.Ap ⟨_,E9 d,rfl⟩;refine⟨rfl,⟨h.Bh,h.CN,h.DJ,by have:=h.B8;dsimp only;omega,?_,h.Ap,h.Cd⟩,λm=>?_⟩
 ·have:=h.AA;dsimp only at hu ⊢;omega
 ·unfold PD.fl;dsimp only
  cases hk:lookup P.D.A5 (Ab m) with
  | none=>rfl
  | some g=>
   by_cases e:g=f
   ·subst e;simp[upd]
   ·simp[upd,e]
def Cm.aF(h:Cm P (N+1) R):P.aF.1=0/\Cm P.aF.2 N R/\∀m,P.aF.2.fl m=P.fl m:=by
 unfold PD.aF DW;dsimp only
 rw[h.bg];dsimp only
 rw[Ai rfl];exact⟨rfl,⟨h.Bh,h.CN,h.DJ,by have:=h.B8;dsimp only;omega,h.AA,h.Ap,h.Cd⟩,λ_=>rfl⟩
def Cm.cu(h:Cm P (N+1) R)(_p:ByteArray->Bool)(es:List AN)(hu:AX P.F es<=AX P.F P.D.A5)(z:(es.map (·.2)).Nodup)(d:(es.map (·.1)).Nodup):
 Cm ⟨{P.D with A5:=es,Aq:=P.D.Aq++[es],n:={P.D.n with B8:=P.D.n.B8+1}},P.F⟩ N R:=
 ⟨h.Bh,h.CN,h.DJ,by have:=h.B8;dsimp only;omega,by have:=h.AA;dsimp only;omega,z,d⟩
def Cm.az{c:FC}(h:Cm P (N+1) R)(I:P.fl nm=some c):
 (P.az (Ab nm)).1=0/\Cm (P.az (Ab nm)).2 N R/\∀m,(P.az (Ab nm)).2.fl m=if m=nm then none else P.fl m:=by
 obtain⟨f,E,rfl⟩:=Mj I;have z:¬B6 P.D.A5 (Ab nm)<0:=λh=>by rw[J5,E]at h;cases h
 unfold PD.az Ds;rw[Ae z];dsimp only
 rw[h.bg];dsimp only
 rw[Ai rfl,Tn _ _ h.Cd z];refine⟨rfl,h.cu (λ_=>true) _ (Ni _ _ _) (h.Ap.sublist (HG.map _)) (h.Cd.sublist (HG.map _)),λm=>?_⟩;unfold PD.fl;dsimp only
 rw[KC P.D.A5 (λx=>decide (x≠Ab nm))];by_cases d:m=nm
 ·subst d;simp
 ·have:Ab m≠Ab nm:=λe=>d (G5.1 e);simp[this,d]
def Cm.aN{c:FC}{old:Bs}(h:Cm P (N+1) R)(h0:P.fl old=some c)(E:nm≠[])(hd:old≠nm):
 (P.aN (Ab old) (Ab nm)).1=0/\Cm (P.aN (Ab old) (Ab nm)).2 N R/\∀m,(P.aN (Ab old) (Ab nm)).2.fl m=if m=nm then some c else if m=old then none else P.fl m:=by
 obtain⟨f,Y,rfl⟩:=Mj h0;have hx:¬B6 P.D.A5 (Ab old)<0:=λh=>by rw[J5,Y]at h;cases h
 have z:=E9 Y;unfold PD.aN D3;rw[Y];dsimp only
 rw[Ae (S4 E),h.bg];dsimp only
 rw[Ai rfl,R7 _ _ _ h.Cd hx];have O:(P.D.A5.filter λe=>decide (e.1≠Ab old/\e.1≠Ab nm))=(P.D.A5.filter λe=>decide (e.1≠Ab old)).filter λe=>decide (e.1≠Ab nm):=by
  rw[UL];congr 1;funext e;simp[and_comm]
 have hparts:AX P.F (P.D.A5.filter λe=>decide (e.1≠Ab old))+(P.F f).1.length<=AX P.F P.D.A5:=by
  have X:∀es:List AN,(Ab old,f)∈es->AX P.F (es.filter λe=>decide (e.1≠Ab old))+(P.F f).1.length<=AX P.F es:=by
   intro es
   induction es with
   | nil=>intro h;cases h
   | cons e r ih=>
    intro d;by_cases I:e.1=Ab old
    ·rw[Lh (by simp[I])];rcases BX.1 d with d|d
     ·subst d;have:=Ni P.F r λe=>decide (e.1≠Ab old);simp only[AX];omega
     ·have:=ih d;simp only[AX];omega
    ·rw[Jg (by simp[I])];rcases BX.1 d with d|d
     ·subst d;exact absurd rfl I
     ·have:=ih d;simp only[AX];omega
  exact X _ z
 refine⟨rfl,h.cu (λ_=>true) _ ?_ ?_ ?_,λm=>?_⟩
 ·rw[Kg,O];have:=Ni P.F (P.D.A5.filter λe=>decide (e.1≠Ab old)) λe=>decide (e.1≠Ab nm);simp only[AX];omega
 ·rw[EV,Hf];refine⟨h.Ap.sublist (HG.map _),by simp,λa ha b L=>?_⟩;simp at L;subst L;obtain⟨e,I,rfl⟩:=CD.1 ha;obtain⟨aB,aA⟩:=Hg.1 I;intro aD;have:=JF h.Ap aB z aD;subst this;simp at aA
 ·rw[EV,Hf];refine⟨h.Cd.sublist (HG.map _),by simp,λa ha b L=>?_⟩;simp at L;subst L;obtain⟨e,I,rfl⟩:=CD.1 ha;have:=(Hg.1 I).2;simp at this;exact this.2
 ·unfold PD.fl;dsimp only
  rw[lookup_append,KC P.D.A5 (λx=>decide (x≠Ab old/\x≠Ab nm))];by_cases d:m=nm
  ·subst d;simp[lookup]
  ·have E:¬Ab nm=Ab m:=λe=>d (G5.1 e).symm;have W:Ab m≠Ab nm:=λe=>d (G5.1 e);simp only[lookup,E,C3,Option.or_none,d];by_cases ho:m=old
   ·subst ho;simp
   ·have:Ab m≠Ab old:=λe=>ho (G5.1 e);simp[this,W,ho]
end
def A0A(l:List ByteArray)(x:ByteArray):(ins l x).Perm (x::l):=by
 unfold ins;refine List.perm_middle.trans ?_;rw[E0]
def Tv(es:List AN):∀k,k<=es.length->(ES es k).Perm ((es.take k).map (·.1)):=by
 intro k
 induction k with
 | zero=>intro _;simp[ES]
 | succ k ih=>
  intro hk;have d:k<es.length:=by omega
  rw[Ms es k d,DL d,EV];refine(A0A _ _).trans ?_;refine((ih (by omega)).cons _).trans ?_;exact(List.perm_append_singleton _ _).symm
def KQ(es:List AN):(dList es).Perm (es.map (·.1)):=by
 have:=Tv es es.length (Ao _)
 rwa [Cc]at this
def PD.bs(P:PD)(nm:Bs):Option Bs:=(P.fl nm).map (·.1)
section
variable {P P':PD} {N R:Nat} {nm:Bs}
def H6:nm∈P.Az↔P.bs nm≠none:=by
 unfold PD.Az PD.bs PD.fl;rw[CD];constructor
 ·rintro⟨b,z,rfl⟩;have:=(KQ P.D.A5).mem_iff.1 z;obtain⟨e,d,rfl⟩:=CD.1 this;cases hk:lookup P.D.A5 (Ab e.1.data.toList) with
  | none=>rw[Gm]at hk;exact absurd rfl (IW.1 hk e d)
  | some f=>simp
 ·intro h;cases hk:lookup P.D.A5 (Ab nm) with
  | none=>rw[hk]at h;exact absurd rfl h
  | some f=>
   refine⟨Ab nm,(KQ P.D.A5).mem_iff.2 (CD.2 ⟨_,E9 hk,rfl⟩),by simp[Ab]⟩
def Cm.cM(h:Cm P N R):P.Az.Nodup:=by
 unfold PD.Az;have z:=(KQ P.D.A5).nodup_iff.2 h.Cd;rw[List.Nodup,A3G];refine List.Pairwise.imp (λd e=>d ?_) z;rename_i a b;rw[<-Gm a,<-Gm b,e]
def Is:P.bs nm=none↔P.fl nm=none:=by unfold PD.bs;simp
def KT{c:Bs}(h:P.bs nm=some c):∃k,P.fl nm=some (c,k):=by
 unfold PD.bs at h;cases hx:P.fl nm with
 | none=>rw[hx]at h;cases h
 | some x=>rw[hx]at h;obtain⟨a,k⟩:=x;simp at h;subst h;exact⟨k,rfl⟩
def Cm.dN(h:Cm P (N+1) R)(I:P.bs nm=none)(d:nm≠[]):
 (P.ao (Ab nm)).1=0/\Cm (P.ao (Ab nm)).2 N R/\∀m,(P.ao (Ab nm)).2.bs m=if m=nm then some [] else P.bs m:=by
 obtain⟨E,z,L⟩:=h.ao (Is.1 I) d;refine⟨E,z,λm=>?_⟩;unfold PD.bs;rw[L m];split<;>rfl
def Cm.fo{c:Bs}(h:Cm P (N+1) R)(L:P.bs nm=some c)(l:Bs)(z:l.length<=R):
 (P.aq (Ab nm) l).1=0/\Cm (P.aq (Ab nm) l).2 N (R-l.length)/\∀m,(P.aq (Ab nm) l).2.bs m=if m=nm then some (c++l) else P.bs m:=by
 obtain⟨k,d⟩:=KT L;obtain⟨I,E,O⟩:=h.aq d l z;refine⟨I,E,λm=>?_⟩;unfold PD.bs;rw[O m];split<;>rfl
def Cm.dp{c:Bs}(h:Cm P (N+1) R)(z:P.bs nm=some c):
 (P.ae (Ab nm)).1=0/\Cm (P.ae (Ab nm)).2 N R/\∀m,(P.ae (Ab nm)).2.bs m=P.bs m:=by
 obtain⟨k,d⟩:=KT z;exact h.ae d
def Cm.dO(h:Cm P (N+1) R):P.aF.1=0/\Cm P.aF.2 N R/\∀m,P.aF.2.bs m=P.bs m:=by
 obtain⟨z,d,E⟩:=h.aF;exact⟨z,d,λm=>by unfold PD.bs;rw[E m]⟩
def Cm.fU{c:Bs}(h:Cm P (N+1) R)(I:P.bs nm=some c):
 (P.az (Ab nm)).1=0/\Cm (P.az (Ab nm)).2 N R/\∀m,(P.az (Ab nm)).2.bs m=if m=nm then none else P.bs m:=by
 obtain⟨k,d⟩:=KT I;obtain⟨E,z,L⟩:=h.az d;refine⟨E,z,λm=>?_⟩;unfold PD.bs;rw[L m];split<;>rfl
def Cm.fM{c:Bs}{old:Bs}(h:Cm P (N+1) R)(O:P.bs old=some c)(d:nm≠[])(z:old≠nm):
 (P.aN (Ab old) (Ab nm)).1=0/\Cm (P.aN (Ab old) (Ab nm)).2 N R/\∀m,(P.aN (Ab old) (Ab nm)).2.bs m=if m=nm then some c else if m=old then none else P.bs m:=by
 obtain⟨k,E⟩:=KT O;obtain⟨L,I,W⟩:=h.aN E d z;refine⟨L,I,λm=>?_⟩;unfold PD.bs;rw[W m];split
 ·rfl
 ·split<;>rfl
def Ja:P.CH nm=match P.bs nm with|some c=>(c,0)|none=>([],8):=by
 unfold PD.CH DZ PD.bs PD.fl;cases lookup P.D.A5 (Ab nm)<;>rfl
def Tu:Cv P.D P.F (Ab nm)=match P.bs nm with|some c=>((c.length:Int),0)|none=>(0,8):=by
 unfold Cv PD.bs PD.fl;cases lookup P.D.A5 (Ab nm)<;>rfl
def EX(s:Nat)(l:Bs):(AS s l).length=l.length+4:=by simp[AS,Hn]
def Cm.af{c:Bs}(h:Cm P (N+1) R)(z:P.bs nm=some c)(s:Nat)(l:Bs)(hl:l.length+4<=R):
 (P.af (Ab nm) s l).1=true/\(P.af (Ab nm) s l).2.1=0/\Cm (P.af (Ab nm) s l).2.2 N (R-(l.length+4))/\∀m,(P.af (Ab nm) s l).2.2.bs m=if m=nm then some (c++AS s l) else P.bs m:=by
 have I:=EX s l;obtain⟨L,d,E⟩:=h.fo z (AS s l) (by omega);rw[I]at d;refine⟨?_,L,d,E⟩;show Hd P.D P.F (Ab nm) (AS s l)=true;unfold Hd;have e:=@Tu (P.aq (Ab nm) (AS s l)).2 nm;have O:Cv (Bx P.D P.F (Ab nm) ⟨(AS s l).toArray⟩).2.1 (Bx P.D P.F (Ab nm) ⟨(AS s l).toArray⟩).2.2 (Ab nm)=Cv (P.aq (Ab nm) (AS s l)).2.D (P.aq (Ab nm) (AS s l)).2.F (Ab nm):=rfl;rw[O,e,E nm,Tu,z];simp only[Ci,Ba];simp only[DO];omega
def Cm.aG(h:Cm P (N+3) R)(X:P.bs nm=none)(d:nm≠[])(s:Nat)(l:Bs)(L:l.length+4<=R):
 (P.aG nm s l).1=0/\Cm (P.aG nm s l).2 N (R-(l.length+4))/\∀m,(P.aG nm s l).2.bs m=if m=nm then some (AS s l) else P.bs m:=by
 obtain⟨O,W,z⟩:=Cm.dN (N:=N+2) h X d;obtain⟨-,I,Y,E⟩:=Cm.af (N:=N+1) (nm:=nm) (c:=[]) W (by rw[z];simp) s l L;obtain⟨c1,c2,c3⟩:=Cm.dp (N:=N) (nm:=nm) (c:=AS s l) Y (by rw[E];simp);unfold PD.aG;rw[Ae (by simp[O]),Ae (by simp[I])];refine⟨c1,c2,λm=>?_⟩;rw[c3,E,z];split
 ·simp
 ·rfl
def VQ(s:Nat)(l:Bs):HK s (AS s l)=some l:=by
 unfold HK;have hp:=EX s l;have d:(AS s l).length-4=l.length:=by omega
 rw[Ae (by omega),d];have z:(AS s l).take l.length=l:=by simp[AS]
 have h:(AS s l).drop l.length=C9 (AW s l):=by simp[AS]
 rw[z,h,Ai rfl]
def Rg{l:Bs}(h:P.bs nm=some (AS (AI nm) l)):P.aV nm=(l,0):=by
 unfold PD.aV;rw[Ja,h];simp[VQ]
def Yf(h:P.bs nm=none):P.aV nm=([],8):=by
 unfold PD.aV;rw[Ja,h];simp
def Cm.aw:∀(l:List Bs) {P:PD},Cm P (N+l.length) R->(∀m∈l,P.bs m≠none)->(PD.aw l P).1=0/\Cm (PD.aw l P).2 N R/\∀m,(PD.aw l P).2.bs m=P.bs m
 | [],P,h,_=>⟨rfl,h,λ_=>rfl⟩
 | x::r,P,h,hm=>by
  obtain⟨c,X⟩:=Pg.1 (hm x (BQ ..));obtain⟨I,L,z⟩:=Cm.dp (N:=N+r.length) (by simpa[Nat.add_assoc] using h) X;obtain⟨E,O,W⟩:=Cm.aw r L λm d=>by rw[z];exact hm m (BW _ d)
  unfold PD.aw;rw[Ae (by simp[I])];exact⟨E,O,λm=>by rw[W,z]⟩
def Cm.aL:∀(l:List Bs) {P:PD},Cm P (N+l.length) R->l.Nodup->(∀m∈l,P.bs m≠none)->(PD.aL l P).1=0/\Cm (PD.aL l P).2 N R/\∀m,(PD.aL l P).2.bs m=if m∈l then none else P.bs m
 | [],P,h,_,_=>⟨rfl,h,λm=>by simp[PD.aL]⟩
 | x::r,P,h,hn,hm=>by
  have d:=MT.1 hn;obtain⟨c,Y⟩:=Pg.1 (hm x (BQ ..));obtain⟨L,O,E⟩:=Cm.fU (N:=N+r.length) (by simpa[Nat.add_assoc] using h) Y;obtain⟨I,W,X⟩:=Cm.aL r O d.2 λm z=>by
   (have e:m≠x:=λe=>by subst e;exact d.1 z);rw[E,Ae e];exact hm m (BW _ z)
  unfold PD.aL;rw[Ae (by simp[L])];refine⟨I,W,λm=>?_⟩;rw[X,E];by_cases e:m=x
  ·subst e;simp
  ·simp[e]
end
def SS:∀(l:List Int) (k:Nat) (r:Bs),(∀n∈l,Ax n)->l.length<k->r.length<8->Gq k (l.flatMap AO++r)=l
 | [],k,r,_,_,hr=>by
  cases k with
  | zero=>rfl
  | succ k=>simp[Gq,hr]
 | n::t,k,r,hn,hk,hr=>by
  cases k with
  | zero=>simp at hk
  | succ k=>
   (have e:(n::t).flatMap AO++r=AO n++(t.flatMap AO++r):=by simp[List.append_assoc]);have d:=CL n;rw[e];unfold Gq;rw[Ae (by simp[d]),Mf n (hn n (BQ ..))];rw[UN (by rw[d]),SS t k r (λx h=>hn x (BW _ h)) (by simp at hk;omega) hr]
def JL(l:List Int):(l.flatMap AO).length=8*l.length:=by
 induction l with
 | nil=>rfl
 | cons n t ih=>rw[MZ,Ba,ih,CL,Cq];omega
def A0r(l:List Int)(h:∀n∈l,Ax n):EB (l.flatMap AO)=l:=by
 unfold EB;cases l with
 | nil=>rfl
 | cons n t=>
  have:=SS (n::t) ((n::t).flatMap AO).length [] h (by rw[JL];simp) (by simp);simpa using this
structure N4 (ix:Ix):Prop where
 B9:isNum ix.B9=true
 segs:∀n∈ix.segs,isNum n=true
 G3:Cr Ch ix.segs=true
def SQ{n:Int}(h:isNum n=true):Ax n:=by
 unfold isNum at h;simp at h;constructor<;>omega
def A0O{ix:Ix}(h:N4 ix):indexOf (Cj ix.B9 ix.segs,0)=some ix:=by
 have z:Cj ix.B9 ix.segs=(ix.B9::ix.segs).flatMap AO:=by simp[Cj]
 have hall:∀n∈ix.B9::ix.segs,isNum n=true:=λn d=>by
  rcases BX.1 d with rfl|d
  ·exact h.B9
  ·exact h.segs n d
 have e:EB (Cj ix.B9 ix.segs)=ix.B9::ix.segs:=by
  rw[z];exact A0r _ λn d=>SQ (hall n d)
 have E:(Cj ix.B9 ix.segs).length=(ix.B9::ix.segs).length*8:=by rw[z,JL];omega
 unfold indexOf;dsimp only
 rw[Ae (by decide),e,Ae (by simp[E]),Ae,Ai]
 ·simp
 ·simpa using h.G3
 ·have:(ix.B9::ix.segs).all isNum=true:=N3.2 hall;rw[this];simp
def A0N:indexOf ([],8)=some ⟨1,[]⟩:=by simp[indexOf]
def Fj(p:Pu):(Be p.1 p.2.1 p.2.2).length=17:=by simp[Be,CL]
def Rv{p:Pu}(h:Bq p)(r:Bs):LQ (Be p.1 p.2.1 p.2.2++r)=p/\((Be p.1 p.2.1 p.2.2++r).headD 0).toNat<8:=by
 obtain⟨a,t,v⟩:=p;obtain⟨⟨O,L⟩,z,d⟩:=h;dsimp only at O L z d ⊢;have I:=CL t;have E:((UInt8.ofNat (a % 256).toNat).toNat:Int)=a:=by
  have:(a % 256).toNat=a.toNat:=by omega
  rw[this];simp;omega
 unfold LQ Be;simp only[FL,List.headD_cons,Du,Db,C8];rw[E,Mf t z,UN (by rw[I]),Mf v d];exact⟨rfl,by omega⟩
def QF:∀(l:List Pu) (k:Nat),(∀p∈l,Bq p)->l.length<k->EJ k (Cf l)=some (l,[])
 | [],k,_,hk=>by
  cases k with
  | zero=>simp at hk
  | succ k=>simp[EJ,Cf]
 | p::t,k,hp,hk=>by
  cases k with
  | zero=>simp at hk
  | succ k=>
   (have e:Cf (p::t)=Be p.1 p.2.1 p.2.2++Cf t:=by simp[Cf]);obtain⟨z,h⟩:=Rv (hp p (BQ ..)) (Cf t);have d:=Fj p;rw[e];unfold EJ;rw[Ae (by simp[d]),Ai h,UN (by rw[d]),QF t k (λx E=>hp x (BW _ E)) (by simp at hk;omega),z];rfl
def IN(l:List Pu):(Cf l).length=17*l.length:=by
 induction l with
 | nil=>rfl
 | cons p t ih=>
  have e:Cf (p::t)=Be p.1 p.2.1 p.2.2++Cf t:=by simp[Cf]
  rw[e,Ba,ih,Fj,Cq];omega
def Xk{l:List Pu}(h:∀p∈l,Bq p)(d:Cr Ck l=true):IK (Cf l,0)=some l:=by
 unfold IK;dsimp only
 rw[Ae (by decide)];cases l with
 | nil=>simp[Cf,EJ,d]
 | cons p t=>
  rw[QF (p::t) _ h (by rw[IN];simp)];simp[d]
def E5:Nat->List Pu->Bs
 | _,[]=>[]
 | s,p::r=>AS s (Be p.1 p.2.1 p.2.2)++E5 (AW s (Be p.1 p.2.1 p.2.2)) r
def Ht:Nat->List Pu->Nat
 | s,[]=>s
 | s,p::r=>Ht (AW s (Be p.1 p.2.1 p.2.2)) r
def SD:∀(l:List Pu) (s:Nat) (p:Pu),E5 s (l++[p])=E5 s l++AS (Ht s l) (Be p.1 p.2.1 p.2.2)/\Ht s (l++[p])=AW (Ht s l) (Be p.1 p.2.1 p.2.2)
 | [],s,p=>by simp[E5,Ht]
 | x::r,s,p=>by
  obtain⟨h,d⟩:=SD r (AW s (Be x.1 x.2.1 x.2.2)) p;simp only[FL,E5,Ht,h,d,C8,and_self]
def IZ:∀(l:List Pu) (s:Nat),(E5 s l).length=21*l.length
 | [],_=>rfl
 | p::r,s=>by
  simp only[E5,Ba,EX,Fj,IZ r,Cq];omega
def LO:∀(l:List Pu) (s k:Nat) (t:Bs),(∀p∈l,Bq p)->l.length<k->t.length<21->DD k s (E5 s l++t)=(l,true)
 | [],s,k,t,_,_,ht=>by simp only[E5,EU];exact Ri ht
 | p::r,s,k,t,hp,hk,ht=>by
  cases k with
  | zero=>simp at hk
  | succ k=>
   have z:=hp p (BQ ..);have h17:=Fj p;have L:=LO r (AW s (Be p.1 p.2.1 p.2.2)) k t (λx O=>hp x (BW _ O)) (by simp at hk;omega) ht;obtain⟨I,E⟩:=Rv z [];have d:Be p.1 p.2.1 p.2.2=UInt8.ofNat (p.1 % 256).toNat::(AO p.2.1++AO p.2.2):=rfl;simp only[EF]at I E;have e:E5 s (p::r)++t=UInt8.ofNat (p.1 % 256).toNat::(AO p.2.1++AO p.2.2)++C9 (AW s (Be p.1 p.2.1 p.2.2))++(E5 (AW s (Be p.1 p.2.1 p.2.2)) r++t):=by
    simp only[E5,AS,d,C8]
   rw[e,Rl (by simp[CL]) (Hn _) (by rw[<-d]) (by rw[d]at E;exact E)];rw[<-d,L];have h:=I;unfold LQ at h;rw[d]at h;simp only[List.headD_cons,Du,Db]at h;rw[h]
def E6(nm:Bs)(ahead:Int)(l:List Pu):Bs:=AS (AI nm) (AO ahead)++E5 (AW (AI nm) (AO ahead)) l
def Fl(nm:Bs)(ahead:Int)(l:List Pu):Nat:=Ht (AW (AI nm) (AO ahead)) l
def J0(nm:Bs)(ahead:Int)(l:List Pu):(E6 nm ahead l).length=12+21*l.length:=by
 unfold E6;rw[Ba,EX,CL,IZ]
def SG(nm:Bs)(ahead:Int)(l:List Pu)(p:Pu):E6 nm ahead (l++[p])=E6 nm ahead l++AS (Fl nm ahead l) (Be p.1 p.2.1 p.2.2)/\Fl nm ahead (l++[p])=AW (Fl nm ahead l) (Be p.1 p.2.1 p.2.2):=by
 obtain⟨h,d⟩:=SD l (AW (AI nm) (AO ahead)) p;unfold E6 Fl;rw[h,d,C8];exact⟨rfl,rfl⟩
def Rn(nm:Bs)(ahead:Int)(l:List Pu)(t:Bs)(h:Ax ahead)(d:∀p∈l,Bq p)(z:t.length<21):Gh (AI nm) ahead (E6 nm ahead l++t)=(l,0):=by
 have e:E6 nm ahead l++t=AO ahead++C9 (AW (AI nm) (AO ahead))++(E5 (AW (AI nm) (AO ahead)) l++t):=by
  simp only[E6,AS,C8]
 rw[e,Rm (CL _) (Hn _)];have E:BG (AO ahead)=ahead:=by have:=Mf ahead h [];simpa using this
 rw[Ai ⟨rfl,E⟩,LO l _ _ t d (by rw[Ba,IZ];omega) z];simp
def Yk(s:Nat)(ahead:Int)(t:Bs)(d:t.length<12):Gh s ahead t=([],0):=by
 unfold Gh;rw[Ai d]
section
variable {P:PD} {n ahead:Int}
def SA{c:Bs}(h:P.bs (Ah n)=some c):P.aT n ahead=Gh (AI (Ah n)) ahead c:=by
 have d:=@Ja P (Ah n);unfold PD.CH at d;rw[h]at d;unfold PD.aT GD;have e:DZ P.D P.F ⟨(Ah n).toArray⟩=(c,0):=d;rw[e];simp
def A0M{ix:Ix}(h:N4 ix)(d:P.bs AK=some (AS (AI AK) (Cj ix.B9 ix.segs))):P.aZ=some ix:=by
 unfold PD.aZ;rw[Rg d,A0O h]
def Ou(d:P.bs AK=none):P.aZ=some ⟨1,[]⟩:=by
 unfold PD.aZ;rw[Yf d,A0N]
def Xg{l:List Pu}(h:∀p∈l,Bq p)(z:Cr Ck l=true)(d:P.bs (AJ n)=some (AS (AI (AJ n)) (Cf l))):P.Cy n=some l:=by
 unfold PD.Cy;rw[Rg d,Xk h z]
def Oe{l:List Pu}{t:Bs}(d:Ax ahead)(h:∀p∈l,Bq p)(z:t.length<21)(E:P.bs (Ah n)=some (E6 (Ah n) ahead l++t)):P.aT n ahead=(l,0):=by
 rw[SA E,Rn _ _ _ _ d h z]
end
def IV(n:Int):Ah n=108::(Lib.repeatL [48] (19-(Lib.itoa n).length)++Lib.itoa n):=by simp[Ah,BN,Em,D7]
def Ih(n:Int):AJ n=115::(Lib.repeatL [48] (19-(Lib.itoa n).length)++Lib.itoa n):=by simp[AJ,BN,Em,D7]
def Sp{lt:Bs}{a b:Int}(d:isNum a=true)(E:isNum b=true)(h:Em lt a=Em lt b):a=b:=by
 unfold isNum at d E;simp at d E;have z:=M3 lt (n:=a) (by omega) (by omega);have I:=M3 lt (n:=b) (by omega) (by omega);rw[h,I]at z;simpa using z.symm
def G4{a b:Int}(d:isNum a=true)(z:isNum b=true)(h:Ah a=Ah b):a=b:=Sp (lt:=D7 1) d z (by simpa[Ah,BN] using h)
def Kv{a b:Int}(d:isNum a=true)(z:isNum b=true)(h:AJ a=AJ b):a=b:=Sp (lt:=D7 2) d z (by simpa[AJ,BN] using h)
def G8(a b:Int):Ah a≠AJ b:=by rw[IV,Ih];simp
def Hs(a:Int):Ah a≠AK:=by rw[IV];simp[AK]
def Jw(a:Int):AJ a≠AK:=by rw[Ih];simp[AK]
def KE(a:Int):Ah a≠Bv:=by rw[IV];simp[Bv]
def LF(a:Int):AJ a≠Bv:=by rw[Ih];simp[Bv]
def J3:AK≠Bv:=by simp[AK,Bv]
def Ky{n:Int}(h:isNum n=true):Bn (Ah n)=(1,n):=by
 have d:1<=n/\n<=4611686018427387904:=by unfold isNum at h;simpa using h
 unfold Bn;have e:E8 [108] (Ah n)=some n:=by
  have:=M3 (D7 1) (n:=n) (by omega) d.2;simpa[Ah,BN,D7] using this
 rw[e]
def KA{c d:UInt8}{r:Bs}(h:c≠d):E8 [c] (d::r)=none:=by
 cases hx:E8 [c] (d::r) with
 | none=>rfl
 | some v=>have:=(Kz hx).2;simp[Em]at this;exact absurd this.1 h
def O9{n:Int}(h:isNum n=true):Bn (AJ n)=(2,n):=by
 have d:1<=n/\n<=4611686018427387904:=by unfold isNum at h;simpa using h
 have e:E8 [115] (AJ n)=some n:=by
  have:=M3 (D7 2) (n:=n) (by omega) d.2;simpa[AJ,BN,D7] using this
 have z:E8 [108] (AJ n)=none:=by rw[Ih];exact KA (by decide)
 unfold Bn H8;rw[z,e]
def Sf:Bn AK=(3,0):=by
 have h:E8 [108] AK=none:=KA (by decide);have d:E8 [115] AK=none:=KA (by decide);unfold Bn H8;rw[h,d];simp[H7]
def ZI(a:Int):Ah a≠[]:=by rw[IV];simp
def Xh(a:Int):AJ a≠[]:=by rw[Ih];simp
def Fc(P:PD):Int->List (Int×List Pu)->Prop
 | _,[]=>True
 | a,x::r=>P.aT x.1 a=(x.2,0)/\Fc P (a+x.2.length) r
def AG(l:List (Int×List Pu)):List Pu:=l.flatMap (·.2)
def Us(P:PD)(j:Jn)(cl:List (Int×List Pu)):Option (List Pu)->Prop
 | none=>j.AE=none/\j.Av=cl.map (·.1)
 | some l=>j.AE=some (j.Ac,Fl (Ah j.Ac) j.puts l)/\j.Av=cl.map (·.1)++[j.Ac]/\P.bs (Ah j.Ac)=some (E6 (Ah j.Ac) j.puts l)/\(∀p∈l,Bq p)/\isNum j.Ac=true
structure Lay (P:PD) (A:Ar) (sg cl:List (Int×List Pu)) (ol:Option (List Pu)):Prop where
 Ea:N4 A.ix
 ix:(P.bs AK=none/\A.ix=⟨1,[]⟩)\/P.bs AK=some (AS (AI AK) (Cj A.ix.B9 A.ix.segs))
 segs:sg.map (·.1)=A.ix.segs
 Cy:∀x∈sg,((∀p∈x.2,Bq p)/\Cr Ck x.2=true)/\P.bs (AJ x.1)=some (AS (AI (AJ x.1)) (Cf x.2))
 CO:∀x∈cl,(isNum x.1=true/\x.1<=A.j.Ac)/\∀p∈x.2,Bq p
 J9:∀x∈cl,ol≠none->x.1≠A.j.Ac
 ER:(∀x∈cl,A.ix.B9<=x.1)/\(ol≠none->A.ix.B9<=A.j.Ac)
 Av:Fc P 0 cl
 Gx:A.j.puts=((AG cl).length:Int)
 AE:Us P A.j cl ol
 EN:0<=A.j.Ac/\A.ix.B9<=A.j.Ac+1/\∀n,isNum n=true->P.bs (Ah n)≠none->n<=A.j.Ac
 Ey:0<=A.Ac/\∀n,isNum n=true->P.bs (AJ n)≠none->n<=A.Ac
 AR:∀nm∈A.AR,P.bs nm≠none
 H9:A.j.Av.Pairwise (· < ·)
 El:∀nm,P.bs nm≠none->(Bn nm).1≠0
 Hr:∀n,isNum n=true->A.ix.B9<=n->P.bs (Ah n)≠none->n∈A.j.Av
def Dl(sg cl:List (Int×List Pu))(ol:Option (List Pu)):List Pu:=AG sg++(AG cl++ol.getD [])
section
variable {P P':PD} {A:Ar} {sg cl:List (Int×List Pu)} {ol:Option (List Pu)} {N R:Nat}
def Fc.au(d:∀m,P'.bs m=P.bs m):∀ {a:Int} {l:List (Int×List Pu)},Fc P a l->Fc P' a l
 | _,[],_=>trivial
 | a,x::r,h=>by
  obtain⟨E,z⟩:=h;refine⟨?_,z.au d⟩;rw[<-E];unfold PD.aT GD;have e:∀Q:PD,DZ Q.D Q.F ⟨(Ah x.1).toArray⟩=match Q.bs (Ah x.1) with|some c=>(c,0)|none=>([],8):=λQ=>@Ja Q (Ah x.1)
  rw[e P',e P,d]
def ZH{n:Int}(d:P'.bs (Ah n)=P.bs (Ah n))(a:Int):P'.aT n a=P.aT n a:=by
 unfold PD.aT GD;have e:∀Q:PD,DZ Q.D Q.F ⟨(Ah n).toArray⟩=match Q.bs (Ah n) with|some c=>(c,0)|none=>([],8):=λQ=>@Ja Q (Ah n)
 rw[e P',e P,d]
def Fc.br:∀ {a:Int} {l:List (Int×List Pu)},Fc P a l->(∀x∈l,P'.bs (Ah x.1)=P.bs (Ah x.1))->Fc P' a l
 | _,[],_,_=>trivial
 | a,x::_,h,hb=>⟨(ZH (hb x (BQ ..)) a).trans h.1,h.2.br λy d=>hb y (BW _ d)⟩
def Fc.bT:∀ {a:Int} {l:List (Int×List Pu)} {x:Int×List Pu},Fc P a l->P.aT x.1 (a+(AG l).length)=(x.2,0)->Fc P a (l++[x])
 | a,[],x,_,h=>⟨by simpa[AG] using h,trivial⟩
 | a,y::r,x,h,h2=>⟨h.1,h.2.bT (by
  rw[<-h2];congr 1
  simp only[AG,MZ,Ba];omega)⟩
def NM:∀ {l:List (Int×List Pu)} {d:List Pu},Fc P d.length l->P.bh (l.map (·.1)) d=(d++AG l,0)
 | [],d,_=>by simp[PD.bh,AG]
 | x::r,d,h=>by
  obtain⟨z,E⟩:=h;simp only[HC,PD.bh];rw[z];dsimp only
  rw[Ae (by simp),NM (by simpa using E)];simp[AG,List.append_assoc]
def ZL{n a:Int}{l:List Pu}(h:P.aT n a=(l,0)):P.bs (Ah n)≠none:=by
 intro d;have e:DZ P.D P.F ⟨(Ah n).toArray⟩=([],8):=by have:=@Ja P (Ah n);unfold PD.CH at this;rw[d]at this;exact this
 unfold PD.aT GD at h;rw[e]at h;simp at h
def Fc.E4:∀ {a:Int} {l:List (Int×List Pu)} {x:Int×List Pu},Fc P a l->x∈l->P.bs (Ah x.1)≠none
 | a,y::r,x,h,d=>by
  rcases BX.1 d with rfl|d
  ·exact ZL h.1
  ·exact h.2.E4 d
def Lay.du(h:Lay P A sg cl ol)(hl:(AG cl).length<=1099511627776):Ax A.j.puts:=by rw[h.Gx];constructor<;>omega
def Lay.puts(h:Lay P A sg cl ol)(z:(AG cl).length<=1099511627776):P.puts A.j.Av=(AG cl++ol.getD [],0):=by
 have d:=h.AE;unfold PD.puts;cases ol with
 | none=>
  rw[d.2,NM h.Av];simp
 | some l=>
  obtain⟨-,I,E,L,h4⟩:=d
  have O:Fc P 0 (cl++[(A.j.Ac,l)]):=h.Av.bT (by
   have:=h.Gx;rw[N5,<-this]
   exact Oe (t:=[]) (h.du z) L (by simp) (by simpa using E))
  have e:cl.map (·.1)++[A.j.Ac]=(cl++[(A.j.Ac,l)]).map (·.1):=by simp
  rw[I,e,NM O];simp[AG]
def Lay.fv(h:Lay P A sg cl ol):P.segs A.ix.segs=some sg:=by
 rw[<-h.segs];have d:∀l:List (Int×List Pu),(∀x∈l,x∈sg)->P.segs (l.map (·.1))=some l:=by
  intro l
  induction l with
  | nil=>intro _;rfl
  | cons x r ih=>
   intro z;obtain⟨⟨L,I⟩,O⟩:=h.Cy x (z x (BQ ..));simp only[HC,PD.segs];rw[Xg L I O];dsimp only
   rw[ih λy E=>z y (BW _ E)];rfl
 exact d sg λ_ h=>h
def Lay.au(h:Lay P A sg cl ol)(d:∀m,P'.bs m=P.bs m):Lay P' A sg cl ol:=by
 refine⟨h.Ea,by rw[d];exact h.ix,h.segs,λx z=>by rw[d];exact h.Cy x z,h.CO,h.J9,h.ER,h.Av.au d,h.Gx,?_,⟨h.EN.1,h.EN.2.1,λn I z=>h.EN.2.2 n I (by rw[<-d];exact z)⟩,
  ⟨h.Ey.1,λn I z=>h.Ey.2 n I (by rw[<-d];exact z)⟩,λnm E=>by rw[d];exact h.AR nm E,h.H9,λnm E=>h.El nm (by rw[<-d];exact E),λn O L W=>h.Hr n O L (by rw[<-d];exact W)⟩
 have:=h.AE;cases ol with
 | none=>exact this
 | some l=>unfold Us at this ⊢;rw[d];exact this
def Lay.I(h:Lay P A sg cl ol)(O:Cm P (N+A.AR.length) R):(A.I P).1=0/\(A.I P).2.1 = {A with AR:=[]}/\Cm (A.I P).2.2 N R/\(∀m,(A.I P).2.2.bs m=P.bs m)/\Lay (A.I P).2.2 {A with AR:=[]} sg cl ol:=by
 obtain⟨L,I,z⟩:=Cm.aw A.AR O h.AR;have e:A.I P=(0,{A with AR:=[]},(P.aw A.AR).2):=by unfold Ar.I;rw[Ae (by simp[L])]
 have d:=h.au z;rw[e];exact⟨rfl,rfl,I,z,⟨d.Ea,d.ix,d.segs,d.Cy,d.CO,d.J9,d.ER,d.Av,d.Gx,d.AE,d.EN,d.Ey,λnm E=>(by cases E),d.H9,d.El,d.Hr⟩⟩
def Lay.av(h:Lay P A sg cl none)(hc:Cm P (N+2) R)(hn:isNum (A.j.Ac+1)=true)(hR:12<=R):
 (A.j.av P).1=0/\Cm (A.j.av P).2.2 N (R-12)/\Lay (A.j.av P).2.2 {A with j:=(A.j.av P).2.1} sg cl (some [])/\(A.j.av P).2.1.AE≠none:=by
 obtain⟨n,W⟩:∃n,A.j.Ac+1=n:=⟨_,rfl⟩;have h0:P.bs (Ah n)=none:=by
  cases z:P.bs (Ah n) with
  | none=>rfl
  | some c=>have:=h.EN.2.2 n (W ▸ hn) (by rw[z];simp);omega
 obtain⟨a1,a2,a3⟩:=Cm.dN (N:=N+1) hc h0 (ZI n);obtain⟨-,b1,b2,b3⟩:=Cm.af (N:=N) (nm:=Ah n) (c:=[]) a2 (by rw[a3];simp) (AI (Ah n)) (AO A.j.puts) (by rw[CL];omega);rw[CL]at b2;have L:=h.AE;have e:A.j.av P=(0,⟨A.j.Av++[n],n,A.j.puts,some (n,AW (AI (Ah n)) (AO A.j.puts))⟩,((P.ao (Ab (Ah n))).2.af (Ab (Ah n)) (AI (Ah n)) (AO A.j.puts)).2.2):=by
  unfold Jn.av;rw[W,Ae (by simp[a1])];dsimp only
  rw[Ae (by simp[b1])]
 rw[e];dsimp only
 have d:∀m,m≠Ah n->((P.ao (Ab (Ah n))).2.af (Ab (Ah n)) (AI (Ah n)) (AO A.j.puts)).2.2.bs m=P.bs m:=λm O=>by rw[b3,Ae O,a3,Ae O]
 have E:=b3 (Ah n);rw[Ai rfl,EU]at E;generalize ((P.ao (Ab (Ah n))).2.af (Ab (Ah n)) (AI (Ah n)) (AO A.j.puts)).2.2=P2 at d E b2;have I:=W ▸ hn;have X:∀x∈cl,x.1≠n:=λx z e=>by have:=(h.CO x z).1.2;omega
 refine⟨rfl,b2,⟨h.Ea,?_,h.segs,λx z=>?_,λx z=>?_,λx z _=>X x z,⟨h.ER.1,λ_=>by have:=h.EN.2.1;dsimp only;omega⟩,?_,h.Gx,?_,?_,?_,λnm O=>?_,?_,λnm O=>?_,λk h1 h2 h3=>?_⟩,by simp⟩
 ·rw[d _ (Hs n).symm];exact h.ix
 ·rw[d _ (G8 n x.1).symm];exact h.Cy x z
 ·obtain⟨⟨c1,c2⟩,c3⟩:=h.CO x z;exact⟨⟨c1,by dsimp only;omega⟩,c3⟩
 ·exact h.Av.br λx z=>d _ λe=>X x z (G4 (h.CO x z).1.1 I e)
 ·refine⟨rfl,by dsimp only;rw[L.2],?_,by simp,I⟩;dsimp only
  rw[E];simp[E6,E5]
 ·refine⟨by have:=h.EN.1;dsimp only;omega,by have:=h.EN.2.1;dsimp only;omega,λk Y z=>?_⟩;dsimp only
  by_cases e:Ah k=Ah n
  ·have:=G4 Y I e;omega
  ·rw[d _ e]at z;have:=h.EN.2.2 k Y z;omega
 ·refine⟨h.Ey.1,λk Y z=>h.Ey.2 k Y ?_⟩
  rwa [d _ (G8 n k).symm]at z
 ·by_cases e:nm=Ah n
  ·subst e;rw[E];simp
  ·rw[d _ e];exact h.AR nm O
 ·dsimp only
  refine Ew.2 ⟨h.H9,by simp,λa ha b hb=>?_⟩;simp at hb;subst hb;rw[L.2]at ha;obtain⟨x,z,rfl⟩:=CD.1 ha;have:=(h.CO x z).1.2;omega
 ·by_cases e:nm=Ah n
  ·subst e;rw[Ky I];simp
  ·rw[d _ e]at O;exact h.El nm O
 ·dsimp only
  by_cases e:Ah k=Ah n
  ·have:=G4 h1 I e;subst this;simp
  ·rw[d _ e]at h3;exact FJ _ (h.Hr k h1 h2 h3)
def Lay.ay{l:List Pu}(h:Lay P A sg cl (some l))(hc:Cm P (N+1) R)(p:Pu)(hp:Bq p)(hR:21<=R):
 (A.j.ay P p).1=true/\(A.j.ay P p).2.1=0/\Cm (A.j.ay P p).2.2.2 N (R-21)/\Lay (A.j.ay P p).2.2.2 {A with j:=(A.j.ay P p).2.2.1} sg cl (some (l++[p])):=by
 obtain⟨X,h2,h3,h4,L⟩:=h.AE;obtain⟨n,hnn⟩:∃n,A.j.Ac=n:=⟨_,rfl⟩;obtain⟨b0,b1,b2,b3⟩:=Cm.af (N:=N) hc h3 (Fl (Ah A.j.Ac) A.j.puts l) (Be p.1 p.2.1 p.2.2) (by rw[Fj];omega);rw[Fj]at b2;obtain⟨q1,q2⟩:=SG (Ah A.j.Ac) A.j.puts l p;unfold Jn.ay;rw[X];dsimp only
 refine⟨b0,b1,b2,?_⟩;have d:∀m,m≠Ah A.j.Ac->(P.af (Ab (Ah A.j.Ac)) (Fl (Ah A.j.Ac) A.j.puts l) (Be p.1 p.2.1 p.2.2)).2.2.bs m=P.bs m:=λm I=>by rw[b3,Ae I]
 have E:=b3 (Ah A.j.Ac);rw[Ai rfl]at E;generalize (P.af (Ab (Ah A.j.Ac)) (Fl (Ah A.j.Ac) A.j.puts l) (Be p.1 p.2.1 p.2.2)).2.2=P2 at d E b2;refine⟨h.Ea,?_,h.segs,λx z=>?_,h.CO,λx z _=>h.J9 x z (by simp),⟨h.ER.1,λ_=>h.ER.2 (by simp)⟩,?_,h.Gx,⟨?_,h2,?_,?_,L⟩,⟨h.EN.1,h.EN.2.1,λk W z=>?_⟩,⟨h.Ey.1,λk W z=>?_⟩,λnm I=>?_,h.H9,λnm I=>?_,λk X Y O=>?_⟩
 ·rw[d _ (Hs _).symm];exact h.ix
 ·rw[d _ (G8 _ x.1).symm];exact h.Cy x z
 ·exact h.Av.br λx z=>d _ λe=>h.J9 x z (by simp) (G4 (h.CO x z).1.1 L e)
 ·dsimp only;rw[q2]
 ·dsimp only;rw[E,q1]
 ·intro x z;rcases AY.1 z with z|z
  ·exact h4 x z
  ·simp at z;subst z;exact hp
 ·by_cases e:Ah k=Ah A.j.Ac
  ·have:=G4 W L e;show k<=A.j.Ac;omega
  ·rw[d _ e]at z;exact h.EN.2.2 k W z
 ·rw[d _ (G8 _ k).symm]at z;exact h.Ey.2 k W z
 ·by_cases e:nm=Ah A.j.Ac
  ·subst e;rw[E];simp
  ·rw[d _ e];exact h.AR nm I
 ·by_cases e:nm=Ah A.j.Ac
  ·subst e;rw[Ky L];simp
  ·rw[d _ e]at I;exact h.El nm I
 ·by_cases e:Ah k=Ah A.j.Ac
  ·have:=G4 X L e;subst this;show A.j.Ac∈A.j.Av;rw[h2];simp
  ·rw[d _ e]at O;exact h.Hr k X Y O
def Lay.af(h:Lay P A sg cl ol)(hc:Cm P (N+A.AR.length+3) R)(hn:ol=none->isNum (A.j.Ac+1)=true)(p:Pu)(W:Bq p)(hR:33<=R):
 (A.af P p).1=true/\(A.af P p).2.1=0/\Cm (A.af P p).2.2.2 N (R-33)/\Lay (A.af P p).2.2.2 (A.af P p).2.2.1 sg cl (some (ol.getD []++[p]))/\(A.af P p).2.2.1.AR=[]:=by
 obtain⟨s1,s2,s3,s4,s5⟩:=h.I (N:=N+3) (hc.ad (by omega) (Ao _));unfold Ar.af;rw[Ae (by simp[s1])];dsimp only
 rw[s2];dsimp only
 generalize (A.I P).2.2=P1 at s3 s4 s5;cases ol with
 | none=>
  obtain⟨L,X,O,Y⟩:=Lay.av (N:=N+1) s5 s3 (hn rfl) (by omega);dsimp only at L X O Y;obtain⟨I,E,d,z⟩:=O.ay (N:=N) X p W (by omega);dsimp only at I E d z;have e:A.j.af P1 p=(A.j.av P1).2.1.ay (A.j.av P1).2.2 p:=by
   unfold Jn.af;rw[Ai h.AE.1,Ae (by simp[L])]
  rw[e];exact⟨I,E,d.ad (Ao _) (by omega),z,rfl⟩
 | some l=>
  obtain⟨I,E,d,z⟩:=s5.ay (N:=N) (s3.ad (by omega) (Ao _)) p W (by omega);dsimp only at I E d z;have e:A.j.af P1 p=A.j.ay P1 p:=by
   unfold Jn.af;rw[Ae (by rw[h.AE.1];simp)]
  rw[e];exact⟨I,E,d.ad (Ao _) (by omega),z,rfl⟩
def Lay.ae(h:Lay P A sg cl ol)(O:Cm P (N+A.AR.length+2) R):
 (A.ae P).1=0/\Cm (A.ae P).2.2 N R/\Lay (A.ae P).2.2 (A.ae P).2.1 sg cl ol/\(A.ae P).2.1 = {A with AR:=[]}:=by
 obtain⟨s1,s2,s3,s4,s5⟩:=h.I (N:=N+2) (O.ad (by omega) (Ao _));have E:((A.I P).2.1.j.ae (A.I P).2.2).1=0/\Cm ((A.I P).2.1.j.ae (A.I P).2.2).2 (N+1) R/\∀m,((A.I P).2.1.j.ae (A.I P).2.2).2.bs m=(A.I P).2.2.bs m:=by
  rw[s2];dsimp only
  unfold Jn.ae;cases ol with
  | none=>rw[h.AE.1];exact⟨rfl,s3.ad (by omega) (Ao _),λ_=>rfl⟩
  | some l=>
   rw[h.AE.1];have z:=s5.AE.2.2.1;dsimp only at z;exact Cm.dp (N:=N+1) s3 z
 obtain⟨I,L,d⟩:=E;obtain⟨d1,d2,d3⟩:=Cm.dO (N:=N) L;unfold Ar.ae;rw[Ae (by simp[s1]),Ae (by simp[I])];refine⟨d1,d2,?_,s2⟩;dsimp only
 rw[s2];rw[s2]at d3 d;dsimp only at d3 d ⊢;exact s5.au λm=>by rw[d3,d]
end
end
end Go.Proofs.YtodcnkbblippnaaGreatDoor
