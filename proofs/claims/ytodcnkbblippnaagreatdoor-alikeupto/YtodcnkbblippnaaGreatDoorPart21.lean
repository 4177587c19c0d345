/- Part 21 of a proof: walks of the program. -/
import Derived.Test.YtodcnkbblippnaaGreatDoorPart20
namespace Go.Proofs.YtodcnkbblippnaaGreatDoor
set_option maxRecDepth 100000
set_option maxHeartbeats 32000000
set_option linter.defProp false
open Go.Proofs.Tryz
section
open Go.MuLone Go.RowKit
attribute [local go_sem ↓] Go.wp_at_zero Go.wp_at_succ CE
def YR(w:World):E1 w (λ_=>.slice none 0 0) (λ_=>[]):=
 ⟨λ_ _=>CD _ _ _ _,λ_ _=>List.Pairwise.nil,λ_ _=>by simp,λ_ _ _ _ _ g h=>by simp[Value.ownBlock]at h⟩
def Ga(o:Int)(d:List Pu):Nat->List Pt:=d.foldl (λL p=>Fk L o p.1.toNat p.2.1 p.2.2) (λ_=>[])
def OA(o:Int)(d:List Pu)(p:Pu):Ga o (d++[p])=Fk (Ga o d) o p.1.toNat p.2.1 p.2.2:=by simp[Ga]
def OB(o:Int)(k:Nat):∀n (d:List Pu),d.length=n->(Ga o d k).length<=n
 | 0,d,h=>by obtain rfl:=GR.1 h;simp[Ga]
 | n+1,d,h=>by
  have z:d≠[]:=λe=>by subst e;simp at h
  have E:=(N8 z).symm;rw[E,OA];have h1:=OB o k n d.dropLast (by rw[Vh];omega);have h2:=Oz (Ga o d.dropLast) o (d.getLast z).1.toNat (d.getLast z).2.1 (d.getLast z).2.2 k;omega
def YN{P:PD}{n:Int}(h:Ar.aT P=.error n):n≠0:=by
 unfold Ar.aT at h;split at h
 ·cases h;decide
 ·split at h
  ·cases h;decide
  ·split at h
   ·cases h;decide
   ·split at h
    ·rename_i d;cases h;exact d
    ·cases h
section
variable {w w' w2:World} {sb ab b B:Nat} {mu aA aB A6:Int} {ro:Bool} {lv:Nat->Value} {L L':Nat->List Pt} {A A':Ar} {P P':PD} {F0 Ft FT:Nat->Prop} {a c m N:Nat}
def YH(w:World)(aA aB A6:Int)(hl:1<=aA/\aA<=4611686018427387904)(hw:1<=aB/\aB<=4611686018427387904)(hc:AN A6)(aL:∀k,Ft k->k<w.heap.size)(aX:∀A d,Ar.aT P=.ok (A,d)->d.length<1099511627000/\∀p∈d,0<=p.1/\p.1<8)(a6:∀E,A3 Ab w E->Ag 59 #[A5 b] E λe w'=>
  (∃n,Ar.aT P=.error n/\e=.returned (.tuple #[.pointer none,.slice none 0 0,A0 n])/\A3 Ab E w')\/
  (∃A d ab v FT,Ar.aT P=.ok (A,d)/\e=.returned (.tuple #[A5 ab,v,A0 0])/\AW w' v d/\AD w' ab b A P FT/\(∀k,FT k->Ft k\/E.heap.size<=k)/\(∀k,FT k->k<w'.heap.size)/\(∀g,v.ownBlock=some g->¬FT g/\E.heap.size<=g)/\A3 Ab E w')):
 Ag 22 #[A5 b,.agg #[A0 aA,A0 aB],A0 A6] w λe w'=>
  (∃n,Ar.aT P=.error n/\e=.returned (.tuple #[.pointer none,A0 n])/\A3 Ab w w')\/
  (∃A d ab sb,Ar.aT P=.ok (A,d)/\e=.returned (.tuple #[A5 sb,A0 0])/\w.heap.size<=sb/\Aq w Ft w' (λw' H=>SF w' sb ab b 0 aA aB A6 false (Ga (Ba A6 aA) d) A P H)):=by
 have aT:Hid (∀w',Ag 58 #[A0 aA] w' λe aG=>e=.returned (.bool true)/\w'=aG):=λw'=>by
  have:=Tk w' aA
  rwa [CH hl]at this
 have a1:Hid (∀w',Ag 58 #[A0 aB] w' λe aG=>e=.returned (.bool true)/\w'=aG):=λw'=>by
  have:=Tk w' aB
  rwa [CH hw]at this
 have hA:=(A3.I Ab w).ak (.cells #[A0 aA,A0 aB] 48);have aF:=BN w (.cells #[A0 aA,A0 aB] 48);generalize hw0:(w.alloc (.cells #[A0 aA,A0 aB] 48))=w0 at hA aF;have q0:A7 w0 w.heap.size 0 (A0 aA):=Gg aF;have q1:A7 w0 w.heap.size 1 (A0 aB):=Gg aF;have a5:=A1 (a6 w0 hA);have aQ:=A1 hA;have HLT:=A1 aL;have aY:=A1 aX;have bA:=A1 hl;have bB:=A1 hc
 go_enter func22,ntmps22
 go_wp2_with (fail);refine(aT.o _).mono ?_;rintro e w'⟨rfl,rfl⟩;go_wp2_with (fail);refine(a1.o _).mono ?_;rintro e w'⟨rfl,rfl⟩;go_wp2_with (fail);refine a5.m ?_;rintro e E (⟨n,hO,rfl,O⟩|⟨A,d,ab,v,FT,hO,rfl,hp,ha,hf1,hf2,hf3,O⟩)
 ·have hn:=YN hO;have hnb:(n !=0)=true:=by simpa using hn
  have aV:=A1 hO;have aM:=A1 (aQ.o.tr O);go_wp2;go_ret2;exact .inl ⟨n,aV.o,rfl,aM.o⟩
 ·obtain⟨va,z,rfl,v1,v2,v3,-⟩:=B8 hp;unfold maxLen at v2;have r0:=O.al q0;have r1:=O.al q1;obtain⟨aO,aE⟩:=aY.o A d hO;have aM:Hid (A3 Ab w E):=aQ.o.tr O;have a4:=A1 hp;have a2:=A1 ha;have aS:Hid (∀k,FT k->Ft k\/w.heap.size<=k):=λk h=>(hf1 k h).imp id (AM aQ.o.Ak)
  have aI:=A1 hf2;have a3:=A1 hf3;have aV:=A1 hO;have aW:=A1 aO;have aR:=A1 aE;have aU:Fz 0 (A5 ab) aA aB A6 false (λ_=>.slice none 0 0) = #[.int .i32 0,.int .u32 0,A5 ab,A0 aA,A0 aB,A0 A6,.bool false,.slice none 0 0,.slice none 0 0,.slice none 0 0,.slice none 0 0,.slice none 0 0,.slice none 0 0,.slice none 0 0,.slice none 0 0]:=rfl
  have ST:Hid (∀w2,w2=E.alloc (.cells (Fz 0 (A5 ab) aA aB A6 false (λ_=>.slice none 0 0)) 111)->
   Aq w Ft w2 (λw' H=>SF w' E.heap.size ab b 0 aA aB A6 false (Ga (Ba A6 aA) (d.take 0)) A P H/\∀g,(Value.slice va d.length z).oB g->¬H g)/\AW w2 (.slice va d.length z) d):=λw2 e=>by
   subst e;have kA:A3 Ab E (E.alloc (.cells (Fz 0 (A5 ab) aA aB A6 false (λ_=>.slice none 0 0)) 111)):=(A3.I _ E).ak _;have hb:Bm (E.alloc (.cells (Fz 0 (A5 ab) aA aB A6 false (λ_=>.slice none 0 0)) 111)) E.heap.size 0 (A5 ab) aA aB A6 false (λ_=>.slice none 0 0):=BN E _;have nS:¬FT E.heap.size:=λh=>FZ _ (aI.o _ h);refine⟨⟨(aM.o.tr kA).aa λ_ _ h=>h.elim,λk=>FT k\/Own E.heap.size (λ_=>.slice none 0 0) k,⟨⟨_,FT,⟨hb,YR _,a2.o.aw kA,λk O=>Bk (aI.o k O) kA.Ak,nS,λk O=>?_⟩,λ_ h=>h⟩,λg hg hx=>?_⟩,λk O=>?_,λk O=>?_⟩,Ay a4.o λg hg=>kA.Ao g (AB a4.o hg) (λh=>h)⟩
   ·obtain⟨i,_,hi⟩:=O;simp[Value.ownBlock]at hi
   ·rcases hx with hx|rfl|⟨i,_,hi⟩
    ·exact(a3.o g hg).1 hx
    ·have:=AB a4.o hg;omega
    ·simp[Value.ownBlock]at hi
   ·rcases O with O|rfl|⟨i,_,hi⟩
    ·exact Bk (aI.o k O) kA.Ak
    ·simp
    ·simp[Value.ownBlock]at hi
   ·rcases O with O|rfl|⟨i,_,hi⟩
    ·exact aS.o k O
    ·exact .inr aM.o.Ak
    ·simp[Value.ownBlock]at hi
  have aZ:Hid (w.heap.size<=E.heap.size):=aM.o.Ak;rw[aU]at ST;have a0:=A1 (ST.o _ rfl);go_wp2;go_loopw [43] (λiv wr=>∃k:Nat,k<=d.length/\iv=A0 k/\Hid (Aq w Ft wr (λw' H=>SF w' E.heap.size ab b 0 aA aB A6 false (Ga (Ba A6 aA) (d.take k)) A P H/\∀g,(Value.slice va d.length z).oB g->¬H g)/\AW wr (.slice va d.length z) d)) (λiv _=>d.length-(intOf iv).toNat)
  case atStart=>exact⟨0,by omega,by go_num,a0.o⟩
  case round=>
   obtain⟨k,O,rfl,hI⟩:=hrel;obtain⟨Y,aK⟩:∃Y,Y=wr:=⟨_,rfl⟩;subst aK;have k0:=C3 k;by_cases aD:k<d.length
   ·(have kI:(k:Int)<(d.length:Int):=by omega);obtain⟨g,o,rfl,hgl,c1,c2,c3⟩:=Ho.at hI.o.2.rd k aD;have aP:d.take (k+1)=d.take k++[d[k]'aD]:=Dn aD;have aE:=aR.o _ (BV aD);have aO:=aW.o;generalize hp:(d[k]'aD)=p at c1 c2 c3 aP aE;have aH:Hid (∀w3,A3 Ab Y w3->Ag 60 #[A5 E.heap.size,Dt p] w3 (Al (.tuple #[]) λw'=>(Aq w Ft w' (λw' H=>SF w' E.heap.size ab b 0 aA aB A6 false (Ga (Ba A6 aA) (d.take (k+1))) A P H/\∀W,(Value.slice (some (Aa g o)) d.length z).oB W->¬H W)/\AW w' (.slice (some (Aa g o)) d.length z) d))):=λw3 k3=>by
     obtain⟨⟨i1,F1,⟨i2,i3⟩,i4,i5⟩,i6⟩:=hI.o;have aJ:∀j,j<8->(Ga (Ba A6 aA) (d.take k) j).length<1099511627000:=λj _=>by
      have:=OB (Ba A6 aA) j _ (d.take k) rfl;rw[BU]at this;omega
     refine(Tj w3 p (i2.aw k3) aE aJ bA.o bB.o).mono ?_;rintro e w'⟨rfl,q1,a9,q2,q3,q4⟩;have aN:A3 Ft w w3:=i1.Ap k3 λ_ h _=>h.elim;have X:∀W,(Value.slice (some (Aa g o)) d.length z).oB W->W<Y.heap.size:=λW I=>AB i6 I;refine⟨rfl,⟨aN.Ap q1 λx hx aL=>(i5 x hx).resolve_right (by omega),a9,⟨by rw[aP,OA];exact q2,λW I hx=>?_⟩,q3,λx hx=>?_⟩,?_⟩
     ·rcases q4 W hx with hy|hy
      ·exact i3 W I hy
      ·have:=X W I;have:=k3.Ak;omega
     ·rcases q4 x hx with hy|hy
      ·exact i5 x hy
      ·exact .inr (AM aN.Ak hy)
     ·exact Ay (Ay i6 λW I=>k3.Ao W (X W I) λh=>h) λW I=>q1.Ao W (Bk (X W I) k3.Ak) (i3 W I)
    obtain⟨p1,p2,p3⟩:=p;unfold Dt at aH;dsimp only at c1 c2 c3 aH;go_wp2_with (go_at_call 60;refine(aH.o _ ((A3.I _ Y).ak _)).mono ?_;rintro e w3⟨rfl,hS⟩;have a7:=A1 hS);go_roundw
    case rel=>exact⟨k+1,by omega,by go_num,a7.o⟩
    case measure=>simp[intOf];omega
   ·(obtain rfl:k=d.length:=by omega);have a8:=A1 hI.o.1;go_wp2;go_ret2;refine .inr ⟨A,d,ab,E.heap.size,aV.o,rfl,aZ.o,?_⟩;have h:=a8.o;rw[C6]at h;exact h.fr λ_ _ h=>h.1
end
end
section
open Go.RowKit
attribute [local go_sem ↓] Go.wp_at_zero Go.wp_at_succ


end
section
open Go.RowKit
abbrev Kind:=World->(Nat->Prop)->Prop
def Lk(R:Kind):Prop:=∀(w w':World) (S FT:Nat->Prop),R w FT->(∀k,FT k->k<w.heap.size)->A3 S w w'->(∀k,FT k->¬S k)->R w' FT
def KD(b:Nat)(P:PD):Kind:=λw FT=>Bn w b P FT
def KS(E ab b:Nat)(d h A6:Int)(z:Bool)(L:Nat->List Pt)(A:Ar)(P:PD):Kind:=λw FT=>SF w E ab b 0 d h A6 z L A P FT
def KD.G2(b:Nat)(P:PD):Lk (KD b P):=λ_ _ _ _ h z H E=>Bn.aP h λk d=>H.Ao k (z k d) (E k d)
def KS.G2(X ab b:Nat)(d z A6:Int)(H:Bool)(L:Nat->List Pt)(A:Ar)(P:PD):Lk (KS X ab b d z A6 H L A P):=λw w' S FT h hl Y W=>by
 obtain⟨lv,F0,O,E⟩:=h;exact⟨lv,F0,O.Aj Y λk I=>W k (E k I),E⟩
def SF.dk{w:World}{sb ab b:Nat}{Y d z A6:Int}{I:Bool}{L:Nat->List Pt}{A:Ar}{P:PD}{FT:Nat->Prop}(h:SF w sb ab b Y d z A6 I L A P FT):∃Ft,Bn w b P Ft/\(∀k,Ft k->k<w.heap.size)/\∀k,Ft k->FT k:=by
 obtain⟨lv,F0,X,H⟩:=h;obtain⟨xb,jb,sv,ov,l,jo,Ft,E,W⟩:=X.ar;exact⟨Ft,E.dk,E.lt,λk O=>H k (.inl (W k (.inl O)))⟩
end
section
open Go.RowKit
attribute [local go_sem ↓] Go.wp_at_zero Go.wp_at_succ
def A3.bZ{S:Nat->Prop}{a b c:World}(h:A3 Ab a b)(k:A3 S b c)(d:∀x,S x->a.heap.size<=x):A3 Ab a c:=h.Ap k λx z hlt=>by have:=d x z;omega
end
section
open Go.RowKit
def Env(B:Nat)(w:World):Prop:=Lets B w/\HT w/\1<B/\2<B
def Env.aj{B:Nat}{w w':World}{S:Nat->Prop}(h:Env B w)(H:A3 S w w')(z:∀k,S k->B<=k):Env B w':=by
 obtain⟨E,⟨⟨X,Y,W⟩,e2,a2,b2⟩,O,I⟩:=h;refine⟨E.aj H z,⟨⟨X,?_,W⟩,e2,?_,b2⟩,O,I⟩
 ·rw[<-Y];have:=H.Ao 1 (Bk O E.1) λd=>by have:=z _ d;omega
  simp only[World.cell?,this]
 ·rw[<-a2];have:=H.Ao 2 (Bk I E.1) λd=>by have:=z _ d;omega
  simp only[World.cell?,this]
def Env.aS{B:Nat}{w w':World}(h:Env B w)(d:A3 Ab w w'):Env B w':=h.aj d λ_ h=>h.elim
def KY{n:Int}(h:isNum n=true):CJ n:=by
 unfold isNum at h;simp at h;exact HD (by omega) h.2
def YT{I:Int×Int}{nm:Bs}(h:F6 I nm):nm.length<=281474976710656:=by
 have H:∀(c:UInt8) (n:Int),1<=n->n<=4611686018427387904->(c::(Lib.repeatL [48] (19-(Lib.itoa n).length)++Lib.itoa n)).length<=281474976710656:=λc n d E=>by
  rw[KI d E,Cv,M6];omega
 by_cases E:(Bf nm).1=1
 ·obtain⟨⟨a,b⟩,e⟩:=On E;rw[<-e,IZ];exact H _ _ a b
 ·by_cases z:(Bf nm).1=2
  ·obtain⟨⟨a,b⟩,e⟩:=Ol z;rw[<-e,I7];exact H _ _ a b
  ·have d:=h.1;unfold Bf at d E z;cases hx:E5 [108] nm with
   | some v=>rw[hx]at E;exact absurd rfl E
   | none=>
    rw[hx]at d z;dsimp only at d z;unfold H4 at d z;cases hy:E5 [115] nm with
    | some v=>rw[hy]at z;exact absurd rfl z
    | none=>
     rw[hy]at d;dsimp only at d;unfold H3 I8 at d;split at d
     ·rename_i e;subst e;decide
     ·split at d
      ·rename_i e;subst e;decide
      ·exact absurd rfl d
def RE:∀(k s:Nat) (l:List UInt8),(DA k s l).1.length*21<=l.length
 | 0,_,_=>by simp[DA]
 | k+1,s,l=>by
  unfold DA;split
  ·simp
  ·rename_i hl;split
   ·have:=RE k (AT s (l.take 17)) (l.drop 21);rw[Cu]at this;simp only[Cv];omega
   ·simp
def Zm{P:PD}{a c m:Nat}(z:Fit P a c m)(n d:Int):(P.aW n d).1.length*21<=m:=by
 have key:∀l:List UInt8,l.length<=m->∀s,(G4 s d l).1.length*21<=m:=λl hl s=>by
  unfold G4;split
  ·simp
  ·split
   ·split
    ·have:=RE l.length (AT s (l.take 8)) (l.drop 12);rw[Cu]at this;dsimp only;omega
    ·simp
   ·simp
 unfold PD.aW Gs;split
 ·simp
 ·refine key _ ?_ _;unfold DP;split
  ·rename_i f h;exact z.B5 f (FQ h)
  ·exact Cf _
def Y7{P:PD}{a c m:Nat}(z:Fit P a c m)(l:List Int):(P.puts l).1.length*21<=l.length*m:=by
 have key:∀(l:List Int) (d:List Pu),(P.bq l d).1.length*21<=d.length*21+l.length*m:=by
  intro l
  induction l with
  | nil=>intro d;simp[PD.bq]
  | cons n r ih=>
   intro d;unfold PD.bq;split
   ·simp
   ·have h:=ih (d++(P.aW n d.length).1);have h2:=Zm z n d.length;rw[AY]at h;rw[Cv,HM];omega
 have:=key l [];simpa[PD.puts] using this
section
variable {w:World} {B sb ab b:Nat} {aA aB A6:Int} {L:Nat->List Pt} {A:Ar} {P:PD} {FT:Nat->Prop} {puts:List Pu} {Ac t N:Nat} {o:Int}
def RK(w:World)(p:Pu)(h:SF w sb ab b 0 aA aB A6 false L A P FT)(E:∀k,FT k->k<w.heap.size)(d:St t A P puts Ac o false)(ht:t+1<=330000)(hp:Bi p)(Y:Lets B w)(I:∀k,FT k->B<=k)(O:∀k,k<8->(L k).length<=t)(hl:1<=aA/\aA<=4611686018427387904)(hc:AN A6):
 Ag 23 #[A5 sb,A0 p.1,A0 p.2.1,A0 p.2.2] w (Al (A0 (A.ad P p).2.1) λw'=>
  Aq w FT w' (λw' z=>SF w' sb ab b 0 aA aB A6 (decide ((A.ad P p).2.1≠0)) (if (A.ad P p).1=true then Fk L (Ba A6 aA) p.1.toNat p.2.1 p.2.2 else L) (A.ad P p).2.2.1 (A.ad P p).2.2.2 z)):=by
 obtain⟨sg,cl,ol,H,_⟩:=d.si rfl;have W:=H.bF d.pb d.B5 (by omega);have hj:=W.j;exact Y9 w p h E hp (λ_=>⟨HD (by omega) (by omega),by constructor<;>omega,H.AV.dx H.CP⟩) (by have:=W.Am;omega) Y I d.pb.CV ⟨by omega,by omega,by omega⟩ (λk X=>by have:=O k X;omega) hl hc
def Wc(w:World)(h:SF w sb ab b 0 aA aB A6 false L A P FT)(_hFT:∀k,FT k->k<w.heap.size)(O:Lets B w)(d:∀k,FT k->B<=k):
 Ag 31 #[A5 sb] w (Al (A0 (A.ae P).1) λw'=>Aq w FT w' (λw' z=>SF w' sb ab b 0 aA aB A6 (decide ((A.ae P).1≠0)) L (A.ae P).2.1 (A.ae P).2.2 z)):=
 We w (A.ae P).1 h O d (A':=(A.ae P).2.1) (P':=(A.ae P).2.2) λE _ I H _ _=>A2q E I H
def WR{L:Nat->List Pt}(h:∀k,Dv (L k))(o:Int)(k:Nat)(t v:Int):∀i,Dv (Fk L o k t v i):=λi=>by
 unfold Fk;split
 ·unfold GY;split
  ·exact L1 (h k) _ _
  ·exact h i
 ·exact h i
def XN(aA A6:Int)(h:List Pu)(Y:∀p∈h,Bi p):Rel (Ga (Ba A6 aA) h) h aA A6:=by
 have key:∀n (l:List Pu),l.length=n->(∀p∈l,Bi p)->Rel (Ga (Ba A6 aA) l) l aA A6/\∀k,Dv (Ga (Ba A6 aA) l k):=by
  intro n
  induction n with
  | zero=>
   intro l d _;obtain rfl:=GR.1 d;exact⟨Rel.bT aA A6,λ_=>List.Pairwise.nil⟩
  | succ n ih=>
   intro l d z;rcases LA l with rfl|⟨r,p,rfl⟩
   ·cases d
   ·rw[Vr]at d z ⊢;obtain⟨i1,H⟩:=ih r (by simpa using d) λx hx=>z x (FE _ hx);have E:=z p (by simp);rw[OA];obtain⟨k,t,v⟩:=p;obtain⟨⟨X,W⟩,I,_⟩:=E;dsimp only at X W I ⊢;obtain⟨O,rfl⟩:∃O:Nat,k=O:=⟨k.toNat,by omega⟩;exact⟨i1.av (λj _=>H j) (by omega) I,WR H _ _ _ _⟩
 exact(key _ h rfl Y).1
def Tb{I H:List (Int×List Pu)}{E:Option (List Pu)}(h:Lay P A I H E):∀n∈A.j.Am,CJ n:=λn z=>by
 rw[h.bS]at z;obtain⟨x,d,rfl⟩:=Ct.1 z;cases E with
 | none=>exact KY (h.CT x d).1.1
 | some l=>
  rcases AU.1 d with d|d
  ·exact KY (h.CT x d).1.1
  ·simp at d;subst d;exact KY h.AA.2.2.2.2
def JP{x y a b:Nat}(h:x<=a)(d:y<=b){c:Nat}(z:a*b<=c):x*y<=c:=AM (MU h d) z
def TJ(W:F5 N)(hN:N<=330000)(w:World)(h:SF w sb ab b 0 aA aB A6 false L A P FT)(X:∀k,FT k->k<w.heap.size)(E:St t A P puts Ac o false)(ht:t+1<=330000)(hpN:puts.length<=N)(hw:1<=aB/\aB<=4611686018427387904)(hL:Lets B w)(Y:∀k,FT k->B<=k):
 Ag 24 #[A5 sb] w (Al (A0 (A.aR P aB).1) λw'=>Aq w FT w' (λw' I=>SF w' sb ab b 0 aA aB A6 (decide ((A.aR P aB).1≠0)) L (A.aR P aB).2.1 (A.aR P aB).2.2 I)):=by
 obtain⟨sg,cl,ol,z,_⟩:=E.si rfl;have d:=z.bF E.pb E.B5 (by omega);have hj:=d.j;have hs:=d.s;have hsg:=d.segs;have hlg:=d.Am;have hall:=z.Co.2.2;have hl0:(B6 sg cl ol).length=(Aw sg).length+(Aw cl++ol.getD []).length:=by unfold B6;rw[AY]
 have hp:=z.AV.puts z.CP;refine A0O w (A.aR P aB).1 h X hL Y (A':=(A.aR P aB).2.1) (P':=(A.aR P aB).2.2) λw1 F0 hA h0 O H=>?_;exact A2s W (by omega) w1 hA h0 aB hw (by rw[hp];dsimp only;omega) (by rw[hp];exact z.AV.b0) ⟨hs.1,by omega⟩ (by constructor<;>omega) (λx hx=>OE (z.AV.DC.segs x hx)) E.pb.CV ⟨by omega,by omega,by omega⟩
  (JP (a:=330000) (b:=13201000) (by omega) (by omega) (by decide)) (by omega) (λn hn=>KY (z.AV.DC.segs n hn)) (Tb z.AV) (by omega) O H
def A1G(Y:F5 N)(hN:N<=330000)(w:World)(h:SF w sb ab b 0 aA aB A6 false L A P FT)(aD:∀k,FT k->k<w.heap.size)(I:St t A P puts Ac (Ba A6 aA) false)(ht:t+1<=330000)(hpN:puts.length<=N)(hw:1<=aB/\aB<=4611686018427387904)(hL:Lets B w)(aE:∀k,FT k->B<=k)(hl:1<=aA/\aA<=4611686018427387904)(hc:AN A6):
 Ag 25 #[A5 sb] w (Al (A0 (A.aQ P aB (Ba A6 aA)).1) λw'=>
  Aq w FT w' (λw' W=>SF w' sb ab b 0 aA aB A6 (decide ((A.aQ P aB (Ba A6 aA)).1≠0)) L (A.aQ P aB (Ba A6 aA)).2.1 (A.aQ P aB (Ba A6 aA)).2.2 W)):=by
 obtain⟨sg,cl,ol,d,_⟩:=I.si rfl;have z:=d.bF I.pb I.B5 (by omega);have hj:=z.j;have hs:=z.s;have hsg:=z.segs;have hlg:=z.Am;have hall:=d.Co.2.2;have H:=d.AV.puts d.CP;refine A1H w (A.aQ P aB (Ba A6 aA)).1 h aD hL aE hl hc (A':=(A.aQ P aB (Ba A6 aA)).2.1) (P':=(A.aQ P aB (Ba A6 aA)).2.2) λw1 F0 hA h0 X O=>?_;refine A2t Y (by omega) w1 hA h0 aB (Ba A6 aA) hw (λsegs E=>?_) ⟨by omega,JP (a:=330000) (b:=13201000) (by omega) (by omega) (by decide)⟩ ⟨hs.1,by omega⟩ (by constructor<;>omega) (λx hx=>OE (d.AV.DC.segs x hx)) I.pb.CV ⟨by omega,by omega,by omega⟩
  (JP (a:=330000) (b:=13201000) (by omega) (by omega) (by decide)) (λn hn=>KY (d.AV.DC.segs n hn)) (Tb d.AV) (by omega) X O
 rw[d.AV.b8]at E;cases E;have e:sg.flatMap (·.2)++(P.puts A.j.Am).1=B6 sg cl ol:=by rw[H];rfl
 rw[e];refine⟨by omega,λp H=>?_⟩;rcases AU.1 H with H|H
 ·exact d.AV.cX p H
 ·exact d.AV.b0 p H
def Sj(w:World)(Ft:Nat->Prop)(hd:Bn w b P Ft)(z:∀k,Ft k->k<w.heap.size)(H:PB P t)(Y:DI (Cs t) P puts Ac (Ba A6 aA))(hr:Reads (Cs t) P puts (Ba A6 aA))(hq:∀p∈puts,Bi p)(X:puts.length<=t)(aG:Ac<=puts.length)(E:P.D.n.AX=false)(ht:t<=330000)(hE:Env B w)(hl:1<=aA/\aA<=4611686018427387904)(hw:1<=aB/\aB<=4611686018427387904)(hc:AN A6):
 Calls Tryz.prog 22 #[.pointer (some ⟨b,0,none⟩),.agg #[.int .i64 aA,.int .i64 aB],.int .i64 A6] w λe w'=>
  ∃A ab sb L,e=.returned (.tuple #[.pointer (some ⟨sb,0,none⟩),.int .i64 0])/\w.heap.size<=sb/\(∃ps,Ar.aT P=.ok (A,ps))/\St t A P puts Ac (Ba A6 aA) false/\Rel L puts aA A6/\(∀k,k<8->(L k).length<=t)/\Aq w Ft w' (λw' aE=>SF w' sb ab b 0 aA aB A6 false L A P aE):=by
 obtain⟨A,ps,h1,h2,h3,h4⟩:=St.aT H Y hr hq X aG E ht;obtain⟨sg,cl,ol,hI,_⟩:=h2.si rfl;have I:=hI.bF H X (by omega);have hpl:=h3.2.2;have O:=hI.AV.a8;refine(YH w aA aB A6 hl hw hc z (P:=P) (Ft:=Ft) (b:=b) (λA' aF h=>by rw[h1]at h;cases h;exact⟨by omega,λp H=>(h4 p H).1⟩) λw1 hk=>?_).mono ?_
 ·have W:=hE.aS hk;refine A2r w1 (B3.aH hd z hk) (λk aD=>Bk (z k aD) hk.Ak) H.CV ⟨by omega,by omega,by omega⟩ (JP (a:=990020) (b:=13201000) (by omega) (by omega) (by decide)) W.1 W.2.1 (λnm hm=>YT (Y.Ax nm λe=>H0.1 hm (Ip.2 e))) (λix hx=>?_) (λd=>?_)
  ·rw[O]at hx;cases hx;have:=I.segs;exact⟨by omega,JP (a:=330000) (b:=13201000) (by omega) (by omega) (by decide)⟩
  ·have h5:=Y7 H.CV (BQ d P.Ax);have h6:=Mc d P.Ax;have h7:=I.Ax;have h8:(BQ d P.Ax).length*(40*t+1000)<=13069254020000:=JP (a:=990020) (b:=13201000) (by omega) (by omega) (by decide);omega
 ·rintro e w' (⟨n,q1,-⟩|⟨A',aF,ab,sb,q1,rfl,q2,q3⟩)
  ·rw[h1]at q1;cases q1
  ·rw[h1]at q1;cases q1;refine⟨A,ab,sb,_,rfl,q2,⟨_,h1⟩,h2,?_,λk hk=>AM (OB _ k _ ps rfl) (by omega),q3⟩;exact XM (XN aA A6 ps h4) hq h3
end
end
section
open Go.MuLone Go.RowKit
attribute [local go_sem ↓] Go.wp_at_zero Go.wp_at_succ CE
section
variable {w w' w2:World} {sb ab b:Nat} {mu aA aB A6:Int} {ro:Bool} {lv:Nat->Value} {L:Nat->List Pt} {A:Ar} {P:PD} {F0 FT:Nat->Prop}
def Yb(w:World)(k t v:Int)(h:SF w sb ab b 0 aA aB A6 true L A P FT)(Y:∀k,FT k->k<w.heap.size)(hk:0<=k/\k<8):
 Ag 23 #[A5 sb,A0 k,A0 t,A0 v] w (Al (A0 4) λw'=>Aq w FT w' (λw' z=>SF w' sb ab b 0 aA aB A6 true L A P z)):=by
 have aF:Hid (∀w',Ag 63 #[A0 k] w' λe E=>e=.returned (.bool true)/\w'=E):=λw'=>by
  have:=KX w' k
  rwa [CH hk]at this
 have X:=Pm w sb k t v;have O:=Pn w sb k t v;generalize aE:boxed w sb k t v=w0 at X O;unfold boxed at aE;have hV:=h.aw X;have H:=hV.bM;have I:Iw (w0.sC sb 0 (.int .i32 1)) w.heap.size sb k t v:=O.Aj H.1 λi _ hx=>by have:=Y _ hx;omega
 have d:Hid (Aq w FT (w0.sC sb 0 (.int .i32 1)) (λw' z=>SF w' sb ab b 1 aA aB A6 true L A P z)):=H.a6 X;have aH:Hid (∀W,Ag 64 #[A5 sb,W] (w0.sC sb 0 (.int .i32 1)) (Al (A0 4) λw'=>(w0.sC sb 0 (.int .i32 1))=w')):=λW=>by
  obtain⟨k1,F1,s1,s2,s3⟩:=d.o;obtain⟨lv,F0,q,-⟩:=s1;exact Uk _ W q.Af
 have c0:A7 w0 sb 0 (.int .i32 0):=by obtain⟨lv,F0,q,-⟩:=hV;exact q.Af.c0
 have f0:w0.frozen? (Aa sb 0)=false:=by obtain⟨lv,F0,q,-⟩:=hV;exact q.Af.fz 0
 obtain⟨x0,x1,x2,x3⟩:=O;obtain⟨y0,y1,y2,y3⟩:=I
 go_enter_defers func23,ntmps23
 go_wp2_with (fail);refine(HF Tryz.bl (Aa sb 0) _ c0 f0).mono ?_;rintro e w'⟨rfl,rfl⟩;go_wp2_with (go_at_call 63;refine(aF.o _).mono ?_;rintro e w'⟨rfl,rfl⟩);refine(aH.o _).mono ?_;rintro e w2⟨rfl,rfl⟩;go_wp2;refine HG (f:=62) (args:=#[A5 sb]) (by simp) (by simp[go_sem]) ?_;refine(Hz Tryz.bl (Aa sb 0) .returning _ ?_ ?_).mono ?_
 ·obtain⟨-,aG,⟨aD,aI,a1,-⟩,-,-⟩:=d.o;exact a1.Af.c0
 ·obtain⟨-,aG,⟨aD,aI,a1,-⟩,-,-⟩:=d.o;exact a1.Af.fz 0
 rintro e u' E⟨rfl,rfl,rfl⟩;exact⟨_,JE rfl _ _ _,rfl,SFto.D9 d.o 0 _ λlv h=>h.s0 0⟩
def put_bad(w:World)(k t v:Int)(h:SF w sb ab b 0 aA aB A6 ro L A P FT)(X:∀k,FT k->k<w.heap.size)(hk:¬(0<=k/\k<8)):
 Ag 23 #[A5 sb,A0 k,A0 t,A0 v] w (Al (A0 2) λw'=>Aq w FT w' (λw' d=>SF w' sb ab b 0 aA aB A6 ro L A P d)):=by
 have aE:Hid (∀w',Ag 63 #[A0 k] w' λe E=>e=.returned (.bool false)/\w'=E):=λw'=>by
  have:=KX w' k
  rwa [CZ hk]at this
 have W:=Pm w sb k t v;have O:=Pn w sb k t v;generalize aD:boxed w sb k t v=w0 at W O;unfold boxed at aD;have hV:=h.aw W;have H:=hV.bM;have I:Iw (w0.sC sb 0 (.int .i32 1)) w.heap.size sb k t v:=O.Aj H.1 λi _ hx=>by have:=X _ hx;omega
 have z:Hid (Aq w FT (w0.sC sb 0 (.int .i32 1)) (λw' d=>SF w' sb ab b 1 aA aB A6 ro L A P d)):=H.a6 W;have c0:A7 w0 sb 0 (.int .i32 0):=by obtain⟨lv,F0,q,-⟩:=hV;exact q.Af.c0
 have f0:w0.frozen? (Aa sb 0)=false:=by obtain⟨lv,F0,q,-⟩:=hV;exact q.Af.fz 0
 obtain⟨x0,x1,x2,x3⟩:=O;obtain⟨y0,y1,y2,y3⟩:=I
 go_enter_defers func23,ntmps23
 go_wp2_with (first
  | (go_at_call 61;refine(HF Tryz.bl (Aa sb 0) _ c0 f0).mono ?_;rintro e w'⟨rfl,rfl⟩)
  | (go_at_call 63;refine(aE.o _).mono ?_;rintro e w'⟨rfl,rfl⟩))
 refine HG (f:=62) (args:=#[A5 sb]) (by simp) (by simp[go_sem]) ?_;refine(Hz Tryz.bl (Aa sb 0) .returning _ ?_ ?_).mono ?_
 ·obtain⟨-,aF,⟨Y,aG,a1,-⟩,-,-⟩:=z.o;exact a1.Af.c0
 ·obtain⟨-,aF,⟨Y,aG,a1,-⟩,-,-⟩:=z.o;exact a1.Af.fz 0
 rintro e u' E⟨rfl,rfl,rfl⟩;exact⟨_,JE rfl _ _ _,rfl,SFto.D9 z.o 0 _ λlv h=>h.s0 0⟩
def SF.fu{n:Int}{w2:World}(h:Aq w FT w2 (λw' d=>SF w' sb ab b 1 aA aB A6 ro L A P d)):Aq w FT (w2.setCell (Aa sb 0) (.int .i32 n)) (λw' d=>SF w' sb ab b n aA aB A6 ro L A P d):=SFto.D9 h 0 _ λ_ h=>h.s0 n
def Xs(z:World)(h:SF z sb ab b 0 aA aB A6 true L A P FT)(E:Value):
 Calls Tryz.prog 64 #[.pointer (some ⟨sb,0,none⟩),E] (z.setCell ⟨sb,0,none⟩ (.int .i32 1)) λe w'=>e=.returned (.int .i64 4)/\w'.cell? ⟨sb,0,none⟩=some (.int .i32 1)/\w'.frozen? ⟨sb,0,none⟩=false/\Aq z FT w' (λw' d=>SF w' sb ab b 1 aA aB A6 true L A P d):=by
 have I:=h.bM;obtain⟨H,W,s1,s2,s3⟩:=I;obtain⟨lv,F0,q,O⟩:=s1;refine(Uk _ E q.Af).mono ?_;rintro e w'⟨rfl,rfl⟩;exact⟨rfl,q.Af.c0,q.Af.fz 0,H,W,⟨lv,F0,q,O⟩,s2,s3⟩
def A0P(w:World)(h:SF w sb ab b 0 aA aB A6 true L A P FT)(_hFT:∀k,FT k->k<w.heap.size):
 Ag 24 #[A5 sb] w (Al (A0 4) λw'=>Aq w FT w' (λw' d=>SF w' sb ab b 0 aA aB A6 true L A P d)):=by
 obtain⟨c0,f0,W,-⟩:=h.c0;refine(QM w 4 (λw'=>Aq w FT w' (λw' d=>SF w' sb ab b 1 aA aB A6 true L A P d)) c0 f0 W λw1 E=>?_).mono ?_
 ·subst E;have H:=(A3.I Ab w).ak (.cells #[A5 sb] 36);refine(Xs _ (h.aw H) _).mono ?_;rintro e w'⟨rfl,I,z,O⟩;exact⟨rfl,I,z,O.a6 H⟩
 ·rintro e w'⟨rfl,w2,z,rfl⟩;exact⟨rfl,SF.fu z⟩
end
end
section
open Go.RowKit
attribute [local go_sem ↓] Go.wp_at_zero Go.wp_at_succ
def A1C(w:World)(b:Nat)(D:DS)(F:Nat->FC)(Ft:Nat->Prop)(h:Da w b D F Ft)(hs:D.A4.length<549755813888/\D.AO.length<549755813888/\∀l∈D.Av,l.length<1099511627776)(bZ:∀l:List Nat,l.Nodup->(∀f∈l,D.Au f)->l.length<1099511627776)(hs2:D.Av.length<1099511627776)(hF:∀f,D.Au f->(F f).1.length<=1099511627776):
 Ag 47 #[A5 b] w λe w'=>∃b2 r bJ aK,e=.returned (A5 b2)/\Da w' b2 (D.ren r) bJ aK/\(∀k,aK k->w.heap.size<=k/\k<w'.heap.size)/\A3 Ab w w'/\
  (∀f,D.Au f->bJ (r f)=F f)/\∀f f',D.Au f->D.Au f'->r f=r f'->f=f':=by
 obtain⟨vd,vs,vc,vals,bM,X,hft⟩:=h;obtain⟨hsA,hsB,b0⟩:=hs;have b7:=A1 b0;have b3:=A1 bZ;have Y:=A1 X;have bP:=A1 hF;have c0:=X.Af.c0;have c1:=X.Af.c1;have c2:=X.Af.c2;have c3:=X.Af.c3;have c4:=X.Af.c4;have c5:=X.Af.c5;have c6:=X.Af.c6;have c7:=X.Af.c7;have c8:=X.Af.c8;have c9:=X.Af.c9;have c10:=X.Af.bY;obtain⟨ac,pc,rfl,hc1,bU,aI,hcnone,hcform⟩:=B8 X.Aj;unfold maxLen at bU;have aW:=A1 aI
 have cA:Hid (∀(vl:Value) (es:List AL) (W:World) (L M:List Nat) (vo vm:Value) (aR:Nat->Value),D2 w vl es->(∀f,Df f es->D.Au f)->es.length<1099511627776->A3 Ab w W->CS w.heap.size W (w.heap.size+1) (w.heap.size+2) F L M vo vm aR->L.length<1099511627776->
  Ag 87 #[vl,A5 (w.heap.size+1),A5 (w.heap.size+2)] W λe w'=>∃v cE cB a7 a9 a8 bR,e=.returned v/\Ep w.heap.size W (w.heap.size+1) (w.heap.size+2) F L M vo vm aR es es.length es.length v w' cE cB a7 a9 a8 bR):=
  λvl es W L M vo vm aR h1 h2 h3 h4 h5 h6=>Yv Y.o h4 h5 h1 h2 bP.o ⟨h3,h6⟩
 have b6:Hid (∀W,A3 Ab w W->W.cell? (Aa b 0)=some vd/\W.cell? (Aa b 1)=some vs):=λW hc=>
  ⟨(DR (hc.Ao b Y.o.Af.lt (λh=>h))).trans Y.o.Af.c0,(DR (hc.Ao b Y.o.Af.lt (λh=>h))).trans Y.o.Af.c1⟩
 have bB:w.heap.size≠b:=by have:=Y.o.Af.lt;omega
 go_enter func47,ntmps47
 go_wp2;refine Ko 33 (by kernel_rfl) (by kernel_rfl) ?_;simp only[Li,F8,ET,DE,Dp]
 repeat still_step
 refine Kp ?_;go_wp2;generalize bW:(((w.alloc (.cells #[.slice none 0 0,.slice none 0 0,.slice none 0 0,A0 D.n.AH,A0 D.n.AZ,A0 D.n.Cb,A0 D.n.Cr,A0 D.n.BJ,A0 D.n.Bt,A0 D.n.fulls,.bool D.n.AX] 95)).alloc (.cells #[.slice none 0 0] 138)).alloc (.cells #[.slice none 0 0] 138)).drew=W1;obtain⟨bV,b9,a4⟩:=A1B w D.n F bM W1 bW.symm;have b1:=A1 b9;have aB:=A1 bV;have I:=A1 a4;refine FJ (λw'=>w'.cell? (Aa b 0)=some vd/\w'.cell? (Aa b 1)=some vs) 17
  (Bq [0,1,2,3,4,5,6,8,9,10,11,12,7,13,14,15,16] [7,13,16]) (by kernel_rfl) (by kernel_rfl) (λ_ _ _ _ _ h=>h) (b6.o _ I.o.af) ?_
 iterate 12 (refine E8 (v:=?_) rfl (by rfl) ?_ ?_;rotate_left;(· (intro w' O;(try dsimp only at O);go_simp;try with_reducible rfl));(try simp only[An]))
 refine DW rfl (by rfl) (λK hK=>?_);go_simp;refine(cA.o vd D.A4 _ _ _ _ _ _ Y.o.A4 (λf hf=>.inl hf) (by omega) I.o.af (aB.o.Aj (A3.I Ab W1).af (λ_ _ h=>h) (λ_ _ h=>h)) (by simp)).mono ?_;rintro e w2⟨v1,L,M,vo,vm,a8,e1,rfl,aM⟩;obtain⟨a1,k1,rfl,-⟩:=D2.Ce aM.EL;have aP:=A1 aM;have aQ:=A1 <| aM.cI I.o.af (aB.o.Aj (A3.I Ab W1).af (λ_ _ h=>h) (λ_ _ h=>h));have hL:L.length<=D.A4.length:=by
  obtain⟨o,q1,q2,_⟩:=aM.Gu;rw[q1];simpa using q2
 refine hK _ _ (b6.o _ aQ.o) (λO=>?_)
 (try simp only[An])
 refine DW rfl (by rfl) (λK hK=>?_);go_simp;refine(cA.o vs D.AO _ _ _ _ _ _ Y.o.AO (λf hf=>.inr (.inl hf)) (by omega) aQ.o aP.o.cs (by omega)).mono ?_;rintro e w3⟨v2,cE,cB,a7,a9,VB3,e2,rfl,aS⟩;obtain⟨a2,k2,rfl,-⟩:=D2.Ce aS.EL;have a3:Hid (A3 Ab w w3):=aS.cI aQ.o aP.o.cs;have aJ:=A1A (aB.o.Aj (A3.I Ab W1).af (λ_ _ h=>h) (λ_ _ h=>h)) ((b1.o:AK W1.drew _ _ _ _ _)) I.o.af aP.o aS;have z0:=aJ.1.c0;have z1:=aJ.1.c1;have zf:=aJ.1.fz;have bI:=A1 aJ.2;refine hK _ _ (b6.o _ a3.o) (λO=>?_);obtain⟨s0,s1⟩:=O
 (try simp only[An])
 iterate 2 (refine E8 (v:=?_) rfl (by rfl) ?_ ?_;rotate_left;(· (intro w' O;(try dsimp only at O);go_simp;try with_reducible rfl));(try simp only[An]))
 refine DW rfl (by rfl) (λK hK=>?_);go_simp;refine hK _ _ ?_ (λO=>?_)
 ·simp[World.cell?_setCell_far,bB,s0,s1]
 (try simp only[An])
 have c2b:w3.cell? (Aa b 2)=some (.slice ac D.Av.length pc):=(DR (a3.o.Ao b Y.o.Af.lt (λh=>h))).trans c2;refine Bl ?_;simp only[DE,Dp];go_wp2;generalize hW4:(w3.setCell (Aa w.heap.size 0) (.slice a1 e1.length k1)).setCell (Aa w.heap.size 1) (.slice a2 e2.length k2)=W4 at bI ⊢;go_loopw [67] (λiv wr=>∃i:Nat,i<=D.Av.length/\iv=A0 i/\Hid (∃L M vo vm z bM d cs,CR w.heap.size w wr w.heap.size (w.heap.size+1) (w.heap.size+2) D F i L M vo vm (.slice a1 e1.length k1) (.slice a2 e2.length k2) z bM d e1 e2 cs)) (λiv _=>D.Av.length-(intOf iv).toNat)
 case atStart=>exact⟨0,Cf _,rfl,_,_,_,_,_,_,_,_,bI.o⟩
 case round=>
  obtain⟨i,hi,rfl,bH⟩:=hrel;by_cases aF:i<D.Av.length
  ·obtain⟨bK,cC,a0,bD,z,bE,d,cs,k0⟩:=bH.o;have aH:=A1 k0;obtain⟨gc,rfl⟩:=aW.o (by omega);obtain⟨vk,bX,bA⟩:=Y.o.D8 i aF;have bQ:=AB Y.o.Aj (g:=gc) rfl;have m1:wr.cell? (Aa gc i)=some vk:=(DR (k0.Aj.Ao gc bQ (λh=>h))).trans (BC Y.o.Aj (g:=gc) rfl bX);obtain⟨E,H,rfl,hk1,hk2,-⟩:=D2.Ce bA;have bC:=A1 bA;obtain⟨es,aE⟩:∃es,D.Av[i]'aF=es:=⟨_,rfl⟩;(have bF:es.length<1099511627776:=by rw[<-aE];exact b7.o _ (BV aF));have bN:bK.length<1099511627776:=b3.o _ k0.Gz.I5 k0.T8;rw[aE]at bC;have b5:=A1 aE;have aX:Hid (∀f,Df f es->D.Au f):=λf hf=>.inr (.inr ⟨_,BV aF,aE ▸ hf⟩);have hi0:=C3 i;(have hi1:(i:Int)<(D.Av.length:Int):=by omega);rw[aE]at m1;obtain⟨p0,hp,b8,b4,bY⟩:=E7 Tryz.ed;have hsz:w.heap.size<wr.heap.size:=aH.o.Af.lt;have aL:Hid (CS w.heap.size ((wr.alloc (.cells #[.slice E es.length H] 120)).drew) (w.heap.size+1) (w.heap.size+2) F bK cC a0 bD bE):=aH.o.Gz.Aj ((A3.I Ab wr).ak (.cells #[.slice E es.length H] 120)).af (λ_ _ h=>h) (λ_ _ h=>h);have bL:Hid (A3 Ab w ((wr.alloc (.cells #[.slice E es.length H] 120)).drew)):=(aH.o.Aj.ak (.cells #[.slice E es.length H] 120)).af;have aY:=BN wr (.cells #[.slice E es.length H] 120);(have n0:(wr.alloc (.cells #[.slice E es.length H] 120)).cell? (Aa wr.heap.size 0)=some (.slice E es.length H):=by unfold World.cell?;rw[aY];rfl);have n1:(wr.alloc (.cells #[.slice E es.length H] 120)).cell? (Aa w.heap.size 2)=some z:=(aH.o.Af.ak (.cells #[.slice E es.length H] 120)).c2;have cD:=A1 aY;go_wp2;refine FJ (λw'=>w'.cell? (Aa w.heap.size 2)=some z/\w'.cell? (Aa wr.heap.size 0)=some (.slice E es.length H)) 12
    (Bq [0,1,2,3,4,5,6,7,8,9,10,11] [8,10,11]) (by kernel_rfl) (by kernel_rfl) (λ_ _ _ _ _ h=>h) ⟨n1,n0⟩ ?_
   iterate 8 (refine E8 (v:=?_) rfl (by rfl) ?_ ?_;rotate_left;(· (intro w' O;(try dsimp only at O);go_simp;try with_reducible rfl));(try simp only[An]))
   refine DW rfl (by rfl) (λK hK=>?_);go_simp;refine(cA.o _ es _ _ _ _ _ _ bC.o aX.o bF bL.o aL.o bN).mono ?_;rintro e w5⟨v5,L5,M5,vo5,vm5,VB5,aD,rfl,aA⟩;obtain⟨a5,k5,rfl,-⟩:=D2.Ce aA.EL;have bS:=A1 aA;have bG:AK w5 w.heap.size (.slice a1 e1.length k1) (.slice a2 e2.length k2) z D.n:=
    (aA.Aj.Ao _ (by simp;omega) (aL.o.b7 (aH.o.Af.ak (.cells #[.slice E es.length H] 120)) (.inr (.inr rfl)))).trans (aH.o.Af.ak (.cells #[.slice E es.length H] 120))
   have aZ:w5.heap[wr.heap.size]?=some (.cells #[.slice E es.length H] 120 (0,0)):=(aA.Aj.Ao _ (by simp) (aL.o.b7 cD.o (.inr (.inl rfl)))).trans cD.o;have aN:w5.ownsRow 0 120 1 z i d:=Ay aH.o.ch λg hg=>by
    obtain⟨c,hh⟩:=Be aH.o.ch hg;have h1:((wr.alloc (.cells #[.slice E es.length H] 120)).drew).heap[g]?=some (Obj.cells c 120 (0,0)):=(Dc _ _ _ (By hh)).trans hh;exact((aA.Aj.Ao _ (By h1) (aL.o.b7 h1 (.inr (.inl rfl)))).trans h1).trans hh.symm
   have p1:=bG.c2;(have p2:w5.cell? (Aa wr.heap.size 0)=some (.slice E es.length H):=by simp[World.cell?,aZ]);have aG:=A1 bG;have aU:=A1 aZ;have aO:Hid ((w5.alloc (.cells #[.slice a5 aD.length k5] 120)).ownsRow 0 120 1 z i d):=Ay aN λg hg=>Dc _ _ _ (AB aN hg);have aT:Hid (∀w6 v6 n xs,App (w5.alloc (.cells #[.slice a5 aD.length k5] 120)) w6 120 1 z v6 n xs->(w6.cell? (Aa w.heap.size 2)=some z/\w6.cell? (Aa wr.heap.size 0)=some (.slice E es.length H))/\w6.frozen? (Aa w.heap.size 2)=false):=by
    intro w6 v6 n xs hA
    have x1:w6.heap[w.heap.size]?=w5.heap[w.heap.size]?:=(hA.Cy.block _ (by have:=aG.o.lt;simp;omega) (λe=>by
     obtain⟨c,hh⟩:=Be aO.o e.symm
     exact BS hh (aG.o.ak _) (by decide) rfl)).trans (Dc _ _ _ aG.o.lt)
    have x2:w6.heap[wr.heap.size]?=w5.heap[wr.heap.size]?:=(hA.Cy.block _ (by have:=By aU.o;simp;omega) (λe=>by
     have:=AB aH.o.ch e.symm;omega)).trans (Dc _ _ _ (By aU.o))
    exact⟨⟨(DR x1).trans aG.o.c2,by simp[World.cell?,x2,aU.o]⟩,(aG.o.aH x1).fz 2⟩
   have bT:Hid (Src Tryz.prog 1 93 (AJ w5.heap.size 1 1) 1 [.slice a5 aD.length k5] (w5.alloc (.cells #[.slice a5 aD.length k5] 120))):=
    Src.bb underlying93 w5 #[.slice a5 aD.length k5] 120 w5.heap.size rfl 1 1 rfl (by simp[Value.oneCell'])
   (have bO:(i+1)*24<=140737488355328:=by omega);refine hK _ _ ⟨p1,p2⟩ (λO=>?_)
   (try simp only[An])
   (refine E8 (v:=?_) rfl (by rfl) ?_ ?_;rotate_left;(· (intro w' O;(try dsimp only at O);go_simp;try with_reducible rfl));(try simp only[An]))
   refine DW rfl (by rfl) (λK hK=>?_);go_simp;refine hK _ _ ?_ (λO=>?_)
   ·simp[World.cell?_alloc_some,p1,p2]
   (try simp only[An])
   refine DW rfl (by rfl) (λK hK=>?_);refine HW (.tmp 75) (.tmp 81) 93 93 (by rfl) 120 p0 _ 1 24 underlying93 hp b8 b4 bY rfl (by decide) z i d (by rfl) aO.o _ 1 _ (by rfl) bT.o bO ?_;intro a6 k6 w6 hA;obtain⟨r1,r2⟩:=aT.o _ _ _ _ hA;have aV:=A1 (aH.o.a7 (nq:=0) aF b5.o (((A3.I Ab wr).ak (.cells #[.slice E es.length H] 120)).af) bS.o hA);refine hK _ _ r1 (λO=>?_);obtain⟨r1,-⟩:=r1
   (try simp only[An])
   refine Bl ?_;simp only[DE,Dp];go_wp2;go_roundw
   case rel=>exact⟨i+1,by omega,by go_num,_,_,_,_,_,_,_,_,aV.o⟩
   case measure=>simp[intOf];omega
  ·(obtain rfl:i=D.Av.length:=by omega);obtain⟨bK,cC,a0,bD,z,bE,d,cs,k0⟩:=bH.o;obtain⟨r,bJ,aK,q1,q2,q3,q4,q5⟩:=k0.e5;have cI:=A1 q1;have cJ:=A1 q2;have cG:=A1 q4;have cH:=A1 q5;have cF:=A1 q3;go_wp2;go_ret;exact⟨_,r,bJ,aK,rfl,cI.o,cJ.o,cF.o,cG.o,cH.o⟩
def Sp:∀ {l m:List Nat},l.Nodup->(∀x∈l,x∈m)->l.length<=m.length
 | [],_,_,_=>Cf _
 | x::r,m,h,hs=>by
  have E:=hs x (BF ..);have z:=Kh.1 h;have:=Sp (m:=m.erase x) z.2 λy d=>(A3C λe=>z.1 (by rw[<-e];exact d)).2 (hs y (Bx _ d))
  rw[A3F E]at this;have:=A3E E;simp only[Cv];omega
def Vz(D:DS)(F:Nat->FC):Prop:=∃K,K<1099511627776/\(∀f,D.Au f->f<K)/\D.A4.length<549755813888/\D.AO.length<549755813888/\(∀l∈D.Av,l.length<1099511627776)/\D.Av.length<1099511627776/\∀f,D.Au f->(F f).1.length<=1099511627776
def U5{w:World}{b:Nat}{D:DS}{F:Nat->FC}{Ft:Nat->Prop}(h:B3 w b D F Ft)(hC:Vz D F):
 Ag 47 #[A5 b] w λe w'=>∃W z,e=.returned (A5 W)/\B3 w' W D F z/\(∀k,z k->w.heap.size<=k/\k<w'.heap.size)/\A3 Ab w w':=by
 obtain⟨r,G,h1,h2,h3⟩:=h;obtain⟨K,c1,c2,c3,c4,c5,c6,c7⟩:=hC;obtain⟨l1,l2,l3,l4⟩:=K2 D r
 refine(A1C w b _ G Ft h1 ⟨by rw[l1];exact c3,by rw[l2];exact c4,λl X=>?_⟩ (λl hn X=>?_) (by rw[l3];exact c6) (λY d=>by
  obtain⟨f,E,rfl⟩:=DS.cU d
  rw[h2 f E];exact c7 f E)).mono ?_
 ·obtain⟨l0,E,rfl⟩:=Ct.1 X;rw[IQ];exact c5 l0 E
 ·have:=Sp (m:=(List.range K).map r) hn λx H=>by
   obtain⟨f,E,rfl⟩:=DS.cU (X x H);exact DT (Lt.2 (c2 f E))
  rw[F9,Vg]at this;omega
 rintro e w'⟨W,O,aA,z,E,q2,q3,q4,q5,q6⟩;have I:(D.ren r).ren O=D.ren (λf=>O (r f)):=by
  have e:∀es:List AL,Go.Proofs.YtodcnkbblippnaaGreatDoor.ren O (Go.Proofs.YtodcnkbblippnaaGreatDoor.ren r es)=Go.Proofs.YtodcnkbblippnaaGreatDoor.ren (λf=>O (r f)) es:=λes=>by simp[Go.Proofs.YtodcnkbblippnaaGreatDoor.ren]
  simp only[DS.ren,e,Ve]
  congr 1
  exact N1 λc _=>e c
 have hid:∀f,D.Au f->(D.ren r).Au (r f):=by
  rintro f (⟨x,H,rfl⟩|⟨x,H,rfl⟩|⟨c,hc,x,H,rfl⟩)
  ·exact .inl ⟨_,DT H,rfl⟩
  ·exact .inr (.inl ⟨_,DT H,rfl⟩)
  ·exact .inr (.inr ⟨_,DT hc,_,DT H,rfl⟩)
 refine⟨W,z,E,⟨λf=>O (r f),aA,I ▸ q2,λf L=>?_,λf Y L d e=>?_⟩,q3,q4⟩
 ·rw[q5 (r f) (hid f L),h2 f L]
 ·exact h3 f Y L d (q6 _ _ (hid f L) (hid Y d) e)
def PB.dY{P:PD}{t:Nat}(h:PB P t)(ht:t<=330000):Vz P.D P.F:=
 ⟨700000*(t+1),by omega,h.Au,by have:=h.CV.A4;omega,by have:=h.CV.AO;omega,λl z=>by have:=h.CV.Fs l z;omega,by have:=h.CV.Aj;omega,λf d=>by have:=h.CV.B5 f d;omega⟩
def Io{S:Nat->Prop}{w w':World}(E:A3 S w w'){x o:Nat}{u:Value}(h:A7 w x o u)(d:¬S x):A7 w' x o u:=by
 have z:=GN w _ h;exact(DR (E.Ao x z d)).trans h
def Aq.b1{w w':World}{Ft:Nat->Prop}{R z:World->(Nat->Prop)->Prop}(h:Aq w Ft w' R)(I:∀d,R w' d->z w' d):Aq w Ft w' z:=by
 obtain⟨H,F,E,L⟩:=h;exact⟨H,F,I F E,L⟩
def Live(t M sb ab b:Nat)(aA aB A6:Int):Kind:=λw FT=>∃d L A P q Ac,SF w sb ab b 0 aA aB A6 d L A P FT/\(d=false->St t A P q Ac (Ba A6 aA) false/\(∀k,k<8->(L k).length<=t)/\q.length<=M)
section
variable {w:World} {t M N B sb ab b:Nat} {aA aB A6:Int} {FT:Nat->Prop}
def Zp(w:World)(p:Pu)(h:Live t M sb ab b aA aB A6 w FT)(d:∀k,FT k->k<w.heap.size)(X:t+1<=330000)(I:Bi p)(hL:Lets B w)(O:∀k,FT k->B<=k)(hl:1<=aA/\aA<=4611686018427387904)(hc:AN A6):
 Ag 23 #[A5 sb,A0 p.1,A0 p.2.1,A0 p.2.2] w λe w'=>(∃c,e=.returned (A0 c))/\Aq w FT w' (Live (t+1) (M+1) sb ab b aA aB A6):=by
 obtain⟨ro,L,A,P,q,Ac,h1,h2⟩:=h;cases ro with
 | true=>
  refine(Yb w p.1 p.2.1 p.2.2 h1 d I.1).mono ?_;rintro e w'⟨rfl,W⟩;exact⟨⟨_,rfl⟩,W.b1 λF E=>⟨true,L,A,P,q,Ac,E,λe=>by cases e⟩⟩
 | false=>
  obtain⟨hS,Y,hq⟩:=h2 rfl;obtain⟨-,-,-,-,-,a6,-⟩:=hS.ad X p I;refine(RK w p h1 d hS X I hL O Y hl hc).mono ?_;rintro e w'⟨rfl,W⟩;refine⟨⟨_,rfl⟩,W.b1 λF E=>⟨_,_,_,_,q++[p],Ac,E,λe=>?_⟩⟩;have z:(A.ad P p).2.1=0:=by
   by_cases z:(A.ad P p).2.1=0
   ·exact z
   ·rw[CH z]at e;cases e
  obtain⟨b1,b2⟩:=a6 z;refine⟨b2,λk H=>?_,by simp;omega⟩;rw[Ah b1];have:=Oz L (Ba A6 aA) p.1.toNat p.2.1 p.2.2 k;have:=Y k H;omega
def Zq(I:F5 N)(hN:N<=330000)(w:World)(h:Live t M sb ab b aA aB A6 w FT)(d:∀k,FT k->k<w.heap.size)(X:t+1<=330000)(hM:M<=N)(hw:1<=aB/\aB<=4611686018427387904)(hL:Lets B w)(O:∀k,FT k->B<=k):
 Ag 24 #[A5 sb] w λe w'=>(∃c,e=.returned (A0 c))/\Aq w FT w' (Live (t+1) M sb ab b aA aB A6):=by
 obtain⟨ro,L,A,P,q,Ac,Y,h2⟩:=h;cases ro with
 | true=>
  refine(A0P w Y d).mono ?_;rintro e w'⟨rfl,W⟩;exact⟨⟨_,rfl⟩,W.b1 λF E=>⟨true,L,A,P,q,Ac,E,λe=>by cases e⟩⟩
 | false=>
  obtain⟨hS,hk,hq⟩:=h2 rfl;obtain⟨-,-,-,-,a5⟩:=hS.aR (Fj aB) X;refine(TJ I hN w Y d hS X (by omega) hw hL O).mono ?_;rintro e w'⟨rfl,W⟩;refine⟨⟨_,rfl⟩,W.b1 λF E=>⟨_,_,_,_,q,q.length,E,λe=>?_⟩⟩;have z:(A.aR P aB).1=0:=by
   by_cases z:(A.aR P aB).1=0
   ·exact z
   ·rw[CH z]at e;cases e
  exact⟨a5 z,λk H=>by have:=hk k H;omega,hq⟩
end
def PD.b4(P:PD):PD:=⟨{P.D with n:=Eh {P.D.n with Cb:=if (0:Int)>0 then wrap64 (P.D.n.AZ+0) else 0} 0 0},P.F⟩




end
section
open Go.RowKit
def Iv(H:Nat)(w:World)(v:Value):Prop:=∃d,Jq w v d/\(∀t∈d,AN t)/\∀h n c x,n≠0->v=.slice h n c->h=some x->x.block<H
def Iv.bT(H:Nat)(w:World)(h:Jq w (.slice none 0 0) []):Iv H w (.slice none 0 0):=⟨[],h,by simp,λad n c x _ e h=>by cases e;cases h⟩
def E3(P:PD)(t:Nat):Prop:=P.D.n.AH=1152921504606846976/\0<=P.D.n.AZ/\P.D.n.AZ<=10000000*((t:Int)+1)
def Iu(P:PD)(e:Int)(P':PD):Prop:=P'.D.n.Cb=P.D.n.Cb/\P'.D.n.Cr=P.D.n.Cr/\P.D.n.AZ<=P'.D.n.AZ/\
 ((e=0/\P'.D.n.AX=false/\¬(P.D.n.AZ<P.D.n.Cr/\P.D.n.Cr<=P'.D.n.AZ)/\P'.D.n.Bt=P.D.n.Bt)\/
  (e=5/\P'.D.n.Bt=P.D.n.Bt+1/\((P'.D.n.AX=true/\P.D.n.AZ<P.D.n.Cb)\/(P'.D.n.AX=false/\P.D.n.AZ<P.D.n.Cr))))
def E3.aa{P:PD}{t t':Nat}(h:E3 P t)(ht:t<=t'):E3 P t':=⟨h.1,h.2.1,by have:=h.2.2;omega⟩
def Nx{P P':PD}{e:Int}{k t:Nat}(h:C8 k P.D.n e P'.D.n)(hs:Hm P e P')(h6:e≠6)(H:P.D.n.AX=false)(hc:E3 P t)(hk:k<=10000000)(ht:t<=330000)(X:P'.D.n.AH=P.D.n.AH):Iu P e P'/\E3 P' (t+1):=by
 obtain⟨c1,c2,c3⟩:=hc;obtain⟨a1,a2,W⟩:=h;obtain⟨I,b2,O,Y⟩:=W c2 (by omega);refine⟨⟨a1,a2,I,?_⟩,X.trans c1,by omega,by omega⟩;rcases hs with⟨rfl,d,-,-⟩|⟨rfl,d,-⟩|⟨rfl,-⟩
 ·obtain⟨d1,d2⟩:=Y (by decide);exact .inl ⟨rfl,d1.trans H,d2,d⟩
 ·refine .inr ⟨rfl,d,?_⟩;rcases O rfl with q|⟨z,E,-⟩|⟨z,E,-⟩
  ·rw[H]at q;cases q
  ·exact .inl ⟨z,E⟩
  ·exact .inr ⟨z,E⟩
 ·exact absurd rfl h6
def Still(P:PD):Prop:=P.D.n.Cb=0/\P.D.n.Cr=0
def Iu.de{P P':PD}{e:Int}{t:Nat}(h:Iu P e P')(d:Still P)(W:E3 P t):e=0/\Still P'/\P'.D.n.AX=false:=by
 obtain⟨H,I,a3,z⟩:=h;have h0:=W.2.1;rcases z with⟨E,O,-⟩|⟨-,-,⟨-,b⟩|⟨-,b⟩⟩
 ·exact⟨E,⟨H.trans d.1,I.trans d.2⟩,O⟩
 ·rw[d.1]at b;omega
 ·rw[d.2]at b;omega
def Rest(t:Nat)(P:PD)(puts:List Pu)(Ac:Nat)(o:Int):Prop:=PB P t/\DI (Cs t) P puts Ac o/\(∀p∈puts,Bi p)/\puts.length<=t/\Ac<=puts.length
def GX(t:Nat)(A:Ar)(P:PD)(puts:List Pu)(Ac:Nat)(o:Int)(ro:Bool):Prop:=Rest t P puts Ac o/\(P.D.n.AX=false->St t A P puts Ac o ro)
section
variable {t N:Nat} {A:Ar} {P:PD} {puts:List Pu} {Ac:Nat} {o:Int} {ro:Bool}
def St.cE(h:St t A P puts Ac o ro):Rest t P puts Ac o:=⟨h.pb,h.di,h.pu,h.B5,h.le⟩
def St.ea(h:St t A P puts Ac o ro):GX t A P puts Ac o ro:=⟨h.cE,λ_=>h⟩
def Rest.aa{t':Nat}(h:Rest t P puts Ac o)(d:t<=t'):Rest t' P puts Ac o:=⟨h.1.aa d,h.2.1.a1 (Iq d),h.2.2.1,AM h.2.2.2.1 d,h.2.2.2.2⟩
def GX.aa{t':Nat}(h:GX t A P puts Ac o ro)(d:t<=t'):GX t' A P puts Ac o ro:=⟨h.1.aa d,λz=>(h.2 z).aa d⟩
def GX.dJ(h:GX t A P puts Ac o ro)(d:Bool):GW t P puts Ac o d:=by
 cases hd:P.D.n.AX with
 | false=>exact(h.2 hd).dJ d
 | true=>exact⟨h.1.1,h.1.2.1,h.1.2.2.1,h.1.2.2.2.1,h.1.2.2.2.2,.inl hd⟩
def GW.cE{d:Bool}(h:GW t P puts Ac o d):Rest t P puts Ac o:=⟨h.1,h.2.1,h.2.2.1,h.2.2.2.1,h.2.2.2.2.1⟩
def E3.aV(h:E3 P t)(z:Int)(d:List Int):E3 (P.aV z d) t/\Still (P.aV z d):=⟨h,rfl,rfl⟩
def PB.fV(h:PB P t)(ht:t<=330000):B4 P.F P.D.A4<=13069254020000:=AM h.CV.dK (AM (MU (show 3*t+20<=990020 by omega) (show 40*t+1000<=13201000 by omega)) (by decide))
def St.fo(h:St t A P puts Ac o false)(z:E3 P t)(I:t+1<=330000)(p:Pu)(O:Bi p):
 Iu P (A.ad P p).2.1 (A.ad P p).2.2.2/\E3 (A.ad P p).2.2.2 (t+1)/\((A.ad P p).2.1=0->P.D.n.AZ+1<=(A.ad P p).2.2.2.D.n.AZ):=by
 obtain⟨-,X,-,-,-,-,H⟩:=h.ad I p O;obtain⟨sg,cl,ol,-,hll⟩:=h.si rfl;have hu:=h.pb.fV (by omega);have d:=z;obtain⟨c1,c2,c3⟩:=d;obtain⟨E,W⟩:=Nx (A1R A P p) X (λe=>by have:=H e;omega) h.AX z (by omega) (by omega) (Xr A P p);exact⟨E,W,λe=>A2A e c2 (by omega)⟩
def St.fG(h:St t A P puts Ac o false)(E:E3 P t)(z:t+1<=330000):Iu P (A.ae P).1 (A.ae P).2.2/\E3 (A.ae P).2.2 (t+1):=by
 obtain⟨-,d,-,-,-,H⟩:=h.ae z;obtain⟨sg,cl,ol,-,hll⟩:=h.si rfl;exact Nx (A1Q A P) d H h.AX E (by omega) (by omega) (Xq A P)
def Rk{O cl:List (Int×List Pu)}{ol:Option (List Pu)}(h:PB P t)(Y:FY P)(E:Py A P O cl ol t)(H:E3 P t)(ht:t+1<=330000)(hll:A.AP.length<=3*t+20)(I:P.D.n.AX=false)(kept:List Int)(fresh:List (List Pu))(hk:kept.length<=t)(hf:fresh.length<=t)(W:∀l∈fresh,l.length<=t)(X:Hm P (A.ay P kept fresh).1 (A.ay P kept fresh).2.2):Iu P (A.ay P kept fresh).1 (A.ay P kept fresh).2.2/\E3 (A.ay P kept fresh).2.2 (t+1):=by
 have hcn:=E.Mx;have z:=E.Ax;rw[Hk]at z;refine Nx (A1J A P kept fresh) X ?_ I H (by omega) (by omega) (Xk A P kept fresh);refine Xy (a:=3*(t+1)+20) (m:=40*(t+1)+1000) (h.CV.aa (a':=3*(t+1)+20) (m':=40*(t+1)+1000) (by omega) (As _) (by omega)).wd h.Au Y kept fresh (by omega) (λl hm=>by have:=W l hm;omega) (by omega) ?_;rw[H.1];have d:(3*(t+1)+20)*(40*(t+1)+1000)+(40*(t+1)+1000)<=13069267221000:=AM (Nat.add_le_add (MU (show 3*(t+1)+20<=990020 by omega) (show 40*(t+1)+1000<=13201000 by omega)) (show 40*(t+1)+1000<=13201000 by omega)) (by decide);exact Kl (Nd.2 d) (by decide)
def St.fC{Ai:Int}(h:St t A P puts Ac o false)(X:BT (Az Ai))(hc:E3 P t)(W:t+1<=330000):Iu P (A.aR P Ai).1 (A.aR P Ai).2.2/\E3 (A.aR P Ai).2.2 (t+1):=by
 obtain⟨-,Y,-,-,-⟩:=h.aR X W;obtain⟨sg,H,O,I,z⟩:=h.si rfl;have E:=I.bF h.pb h.B5 (by omega);obtain⟨n1,n2⟩:=E.Co;obtain⟨n3,n4⟩:=E.segs;have hp:=I.AV.puts I.CP;have d:=Hj X (Aw H++O.getD []);have hfl:=H6 d.ne;have hfl2:=d.B5;have e:A.aR P Ai=A.ay P A.ix.segs (Bz Ai (Aw H++O.getD [])):=by
  unfold Ar.aR;rw[hp,Ad (by simp)]
 rw[e]at Y ⊢
 exact Rk h.pb h.di.bj E hc W z h.AX A.ix.segs (Bz Ai (Aw H++O.getD [])) n3 (by omega) (λl hl=>by
  have:=(MY hl).length_le
  omega) Y
def St.e1{Ai:Int}(h:St t A P puts Ac o false)(hw:BT (Az Ai))(hc:E3 P t)(ht:t+1<=330000):Iu P (A.aQ P Ai o).1 (A.aQ P Ai o).2.2/\E3 (A.aQ P Ai o).2.2 (t+1):=by
 obtain⟨-,a2,-,-,-⟩:=h.aQ hw ht;obtain⟨d,E,z,O,W⟩:=h.si rfl;have Y:=O.bF h.pb h.B5 (by omega);obtain⟨n1,n2⟩:=Y.Co;obtain⟨n3,n4⟩:=Y.segs;have hp:=O.AV.puts O.CP;have I:=Hj hw (B6 d E z);have hfl:=H6 I.ne;have hfl2:=I.B5;have H:=JR d o (Bz Ai (B6 d E z));have X:=H.length_eq;have hal:(DQ o (Bz Ai (B6 d E z))).length<=(Bz Ai (B6 d E z)).length:=Jj _ _;rw[AY,F9]at X;have hks:(BK d o (Bz Ai (B6 d E z))).1.length=(G9 d o (Bz Ai (B6 d E z))).length:=by rw[JS,F9]
 have e:A.aQ P Ai o=A.ay P ((BK d o (Bz Ai (B6 d E z))).1.mergeSort λx y=>decide (x<=y)) (BK d o (Bz Ai (B6 d E z))).2:=by
  unfold Ar.aQ;rw[O.AV.b8];dsimp only
  have e2:d.flatMap (·.2)++(P.puts A.j.Am).1=B6 d E z:=by rw[hp];rfl
  rw[e2,hp,Ad (by simp)]
 rw[e]at a2 ⊢
 exact Rk h.pb h.di.bj Y hc ht W h.AX ((BK d o (Bz Ai (B6 d E z))).1.mergeSort λx y=>decide (x<=y)) (BK d o (Bz Ai (B6 d E z))).2 (by rw[N2];omega) (by omega) (λl hl=>by
  have:=(MY (J5 hl)).length_le
  omega) a2
def NN{A2:Ar}{P2:PD}{cd:Int}(h:St t A P puts Ac o false)(E:PB P2 (t+1))(z:DI (Cs (t+1)) P2 puts Ac o)(H:Reads (Cs (t+1)) P2 puts o)(d:cd=0->St (t+1) A2 P2 puts puts.length o false):
 GX (t+1) A2 P2 puts (if cd=0 then puts.length else Ac) o (decide (cd≠0)):=by
 have hl:=h.B5;by_cases e:cd=0
 ·rw[Ah e,CZ (nn e)];exact(d e).ea
 ·rw[Ad e,CH e];exact⟨⟨E,z,h.pu,by omega,h.le⟩,λI=>St.dw E z H h.pu (by omega) h.le I⟩
end
section
variable {t:Nat} {aA A6:Int} {L:Nat->List Pt} {A:Ar} {P:PD} {puts:List Pu} {Ac:Nat}
def Yc(z:St t A P puts Ac (Ba A6 aA) false)(ht:t+1<=330000)(p:Pu)(hp:Bi p)(hR:Rel L puts aA A6)(hs:∀k,k<8->Dv (L k)){bo:Bool}{cd:Int}{A2:Ar}{P2:PD}{W:Nat->List Pt}(I:A.ad P p=(bo,cd,A2,P2))(d:W=if bo=true then Fk L (Ba A6 aA) p.1.toNat p.2.1 p.2.2 else L):
 ∃q,(q=puts++[p]\/(q=puts/\cd≠0))/\GX (t+1) A2 P2 q Ac (Ba A6 aA) (decide (cd≠0))/\Rel W q aA A6/\(∀k,k<8->(L k).length<=t->(W k).length<=t+1):=by
 obtain⟨X,a2,a3,a4,a5,a6,a7⟩:=z.ad ht p hp;rw[I]at X a2 a3 a4 a5 a6 a7;have hq:∀x∈puts++[p],Bi x:=λx h=>by
  rcases AU.1 h with h|h
  ·exact z.pu x h
  ·simp at h;subst h;exact hp
 have E:(puts++[p]).length<=t+1:=by have:=z.B5;simp;omega
 have Y:Ac<=(puts++[p]).length:=by have:=z.le;simp;omega
 have H:∀k,k<8->(L k).length<=t->(W k).length<=t+1:=λk _ hk=>by
  rw[d];have:=Oz L (Ba A6 aA) p.1.toNat p.2.1 p.2.2 k;split<;>omega
 cases bo with
 | true=>
  rw[Ah rfl]at d;have aB:Rel W (puts++[p]) aA A6:=by
   rw[d];obtain⟨k,tt,v⟩:=p;obtain⟨⟨k0,k8⟩,O,_⟩:=hp;dsimp only at k0 k8 O ⊢;obtain⟨k',rfl⟩:∃k':Nat,k=k':=⟨k.toNat,by omega⟩;exact hR.av hs (by omega) O
  refine⟨puts++[p],.inl rfl,⟨⟨X,a3,hq,E,Y⟩,λh=>?_⟩,aB,H⟩;by_cases e:cd=0
  ·rw[CZ (nn e)];exact(a6 e).2
  ·rw[CH e];exact St.dw X a3 (a4 rfl) hq E Y h
 | false=>
  rw[Ad (by simp)]at d;subst d;obtain⟨b1,b2⟩:=a5 rfl;have e:cd≠0:=λe=>absurd (a6 e).1 (by simp);have hl:=z.B5;refine⟨puts,.inr ⟨rfl,e⟩,⟨⟨X,b1,z.pu,by omega,z.le⟩,λh=>?_⟩,hR,H⟩;rw[CH e];exact St.dw X b1 b2 z.pu (by omega) z.le h
end
end
section
open Go.RowKit
attribute [local go_sem ↓] Go.wp_at_zero Go.wp_at_succ





section
variable {w w':World} {sb ab b t:Nat} {mu aA aB A6 o:Int} {ro:Bool} {L:Nat->List Pt} {A:Ar} {P:PD} {FT:Nat->Prop} {puts:List Pu} {Ac:Nat}
def DI.eB{O:Int×Int}(h:DI O P puts Ac o)(f:Nat)(W:P.D.Au f):0<=(P.F f).2/\(P.F f).2<=(P.F f).1.length:=by
 have key:∀s∈Bu P,∀e∈s,0<=(P.F e.2).2/\(P.F e.2).2<=(P.F e.2).1.length:=λs E e d=>by
  obtain⟨ix,sg,cl,lo,nb,I,_⟩:=h.DM s E;have hv:vw P.F s e.1.data.toList=some (P.F e.2):=by
   unfold vw;rw[G8];cases hk:lookup s e.1 with
   | none=>exact absurd rfl (J0.1 hk e d)
   | some g=>
    obtain⟨i,Y,H⟩:=DU (E6 hk);obtain⟨j,hj,z⟩:=DU d;have:i=j:=JN (h.Cl s E) (by simpa using Y) (by simpa using hj) (by simp[H,z]);subst this;rw[H]at z;rw[<-z];rfl
  exact I.DX _ _ hv
 rcases W with⟨e,d,rfl⟩|⟨e,d,rfl⟩|⟨l,X,e,d,rfl⟩
 ·exact key _ h.CK e d
 ·exact key _ (BF ..) e d
 ·exact key _ (Bx _ X) e d
def SF.cg(h:SF w sb ab b mu aA aB A6 ro L A P FT):∃Ft,Bn w b P Ft/\(∀k,Ft k->k<w.heap.size)/\(∀k,Ft k->FT k)/\∀(S z:Nat->Prop) (w':World) (P':PD),A3 S w w'->(∀k,FT k->S k->Ft k)->Bn w' b P' z->(∀k,z k->k<w'.heap.size)->(∀k,z k->Ft k\/w.heap.size<=k)->
 ∃W,SF w' sb ab b mu aA aB A6 ro L A P' W/\(∀k,W k->k<w'.heap.size)/\∀k,W k->FT k\/w.heap.size<=k:=by
 obtain⟨lv,F0,I,O⟩:=h;obtain⟨xb,jb,sv,ov,l,Y,Ft,E,X⟩:=I.ar;refine⟨Ft,E.dk,E.lt,λk d=>O k (.inl (X k (.inl d))),λS z w' P' hc hS d1 d2 d3=>?_⟩;have hs:FW (Fe ab xb jb sv ov l Y) w w':=hc.aH (λ_ d=>E.bI d) λk d H=>E.De k d (hS k (O k (.inl (X k (.inr d)))) H)
 have hA:Ck w' ab b xb jb sv ov l Y A P' z:=⟨(hs ab (.inl rfl)).trans E.Af,(hs xb (.inr (.inl rfl))).trans E.ix,E.segs.aP λg hg=>hs g (.inr (.inr (.inl hg))),E.AP.aP λg hg=>hs g (.inr (.inr (.inr (.inl hg)))),
  E.jn.aP λk d=>hs k (.inr (.inr (.inr (.inr d)))),d1,d2,λk d H=>(d3 k H).elim (E.De k d) λh'=>by have:=E.bI d;omega,E.Fg,E.G3,E.FB⟩
 have nF:∀k,(k=sb\/Ey lv k)->¬F0 k:=λk d=>by
  rcases d with rfl|d
  ·exact I.ns
  ·exact I.nr k d
 have oF:∀k,(k=sb\/Ey lv k)->FT k/\k<w.heap.size:=λk d=>by
  rcases d with rfl|d
  ·exact⟨O _ (.inr (.inl rfl)),I.Af.lt⟩
  ·exact⟨O _ (.inr (.inr d)),I.E9.lt d⟩
 have nS:∀k,(k=sb\/Ey lv k)->¬S k:=λk d H=>nF k d (X k (.inl (hS k (oF k d).1 H)));have nN:∀k,(k=sb\/Ey lv k)->¬(z k\/Fe ab xb jb sv ov l Y k):=λk d H=>by
  rcases H with H|H
  ·rcases d3 k H with h' | h'
   ·exact nF k d (X k (.inl h'))
   ·have:=(oF k d).2;omega
  ·exact nF k d (X k (.inr H))
 refine⟨λk=>(z k\/Fe ab xb jb sv ov l Y k)\/Own sb lv k,⟨lv,λk=>z k\/Fe ab xb jb sv ov l Y k,⟨I.Af.Aj hc (nS sb (.inl rfl)),I.E9.Aj hc λg hg=>nS g (.inr hg),⟨xb,jb,sv,ov,l,Y,z,hA,λk d=>d⟩,λk d=>hA.bV d,nN sb (.inl rfl),λk d=>nN k (.inr d)⟩,λk d=>d⟩,λk d=>?_,λk d=>?_⟩
 ·rcases d with d|rfl|d
  ·exact hA.bV d
  ·exact Bk I.Af.lt hc.Ak
  ·exact Bk (I.E9.lt d) hc.Ak
 ·rcases d with (d|d)|rfl|d
  ·exact(d3 k d).imp (λh'=>O k (.inl (X k (.inl h')))) id
  ·exact .inl (O k (.inl (X k (.inr d))))
  ·exact .inl (O _ (.inr (.inl rfl)))
  ·exact .inl (O _ (.inr (.inr d)))
end
end
section
open Go.RowKit
section
variable {w w':World} {H wb b t:Nat} {aA o:Int} {R R':Kind} {P:PD} {FT aB:Nat->Prop} {puts:List Pu} {ls:List (Value×Int)} {Ac:Nat}
def WW(d:PB P t)(ht:t<=330000):P.D.A4.length<1099511627776/\P.D.AO.length<1099511627776/\P.D.Av.length<1099511627776/\∀c∈P.D.Av,c.length<1099511627776:=by
 have h1:=d.CV.A4;have h2:=d.CV.AO;have h3:=d.CV.Aj;exact⟨by omega,by omega,by omega,λc h=>by have:=d.CV.Fs c h;omega⟩
end
section
variable {w w':World} {H wb t:Nat} {aA:Int} {puts:List Pu} {ls:List (Value×Int)}
def Ys{p:Int}{d:DN}{k:Int}(h:AN p):0<=(Eh d k p).BJ/\(Eh d k p).BJ<=9223372036854775807:=by
 obtain⟨p1,p2⟩:=h;unfold Eh wrap64;dsimp only
 split<;>omega
end
end
section
open Go.RowKit
attribute [local go_sem ↓] Go.wp_at_zero Go.wp_at_succ
def DF(c n:Int):Int:=(if c<0 then -(c+1) else c) % n
def JQ(c n:Int)(d:0<n):0<=DF c n/\DF c n<n:=by
 unfold DF;exact⟨LH _ (by omega),PY _ d⟩
def Oy(w:World)(c n:Int)(I:AN c)(L:0<n/\n<=9223372036854775807):
 Ag 20 #[A0 c,A0 n] w (Al (A0 (DF c n)) λw'=>w=w'):=by
 obtain⟨c1,c2⟩:=I;obtain⟨H,n2⟩:=L;have z:=JQ c n H;have n0:¬n=0:=by omega
 have nm:¬n = -1:=by omega
 by_cases h:c<0
 ·have e1:IntKind.i64.wrap (c+1)=c+1:=by simp[IntKind.wrap,IntKind.bits,IntKind.signed];omega
  have e2:IntKind.i64.wrap (-(c+1)) = -(c+1):=by simp[IntKind.wrap,IntKind.bits,IntKind.signed];omega
  have d:DF c n = -((c+1).tmod n):=by unfold DF;rw[Ah h,<-Nf,A3R (by omega)]
  rw[d]at z ⊢;have E:IntKind.i64.wrap (-((c+1).tmod n)) = -((c+1).tmod n):=by simp[IntKind.wrap,IntKind.bits,IntKind.signed];omega
  go_enter func20,ntmps20
  go_wp2;go_ret;exact⟨rfl,rfl⟩
 ·have d:DF c n=c % n:=by unfold DF;rw[Ad h]
  rw[d]at z ⊢;have E:IntKind.i64.wrap (c % n)=c % n:=by simp[IntKind.wrap,IntKind.bits,IntKind.signed];omega
  go_enter func20,ntmps20
  go_wp2;go_ret;exact⟨rfl,rfl⟩
end
section
open Go.RowKit
structure KN where
 dv:Value
 sv:Value
 EF:Int
def Me(n:KN):Array Value:=#[n.dv,n.sv,A0 n.EF]
def CO(w:World)(xb:Nat)(n:KN):Prop:=w.heap[xb]?=some (.cells (Me n) 60 (0,0))
section
variable {w w':World} {xb:Nat} {n:KN}
def CO.c0(h:CO w xb n):A7 w xb 0 n.dv:=by unfold CO at h;simp[A7,World.cell?,h,Me]
def CO.s0(h:CO w xb n)(x:Value):CO (w.setCell (Aa xb 0) x) xb {n with dv:=x}:=Cq h
def CO.c1(h:CO w xb n):A7 w xb 1 n.sv:=by unfold CO at h;simp[A7,World.cell?,h,Me]
def CO.s1(h:CO w xb n)(x:Value):CO (w.setCell (Aa xb 1) x) xb {n with sv:=x}:=Cq h
def CO.c2(h:CO w xb n):A7 w xb 2 (A0 n.EF):=by unfold CO at h;simp[A7,World.cell?,h,Me]
def CO.s2(h:CO w xb n)(x:Int):CO (w.setCell (Aa xb 2) (A0 x)) xb {n with EF:=x}:=Cq h
def CO.fz(h:CO w xb n)(o:Nat):w.frozen? (Aa xb o)=false:=by unfold CO at h;simp[World.frozen?,h]
def CO.lt(h:CO w xb n):xb<w.heap.size:=By h
def CO.Aj{S:Nat->Prop}(h:CO w xb n)(d:A3 S w w')(z:¬S xb):CO w' xb n:=(d.Ao xb h.lt z).trans h
def CO.aw(h:CO w xb n)(d:A3 Ab w w'):CO w' xb n:=h.Aj d (λh=>h)
end
structure KW (w:World) (H xb:Nat) (n:KN) (R:Kind) (FT:Nat->Prop):Prop where
 Af:CO w xb n
 G2:Lk R
 EN:R w FT
 lt:∀k,FT k->k<w.heap.size
 nw:¬FT xb
 up:H<=xb
 GH:∀k,FT k->H<=k
section
variable {w w':World} {H xb:Nat} {n n':KN} {R R':Kind} {FT:Nat->Prop}
def KW.br{S:Nat->Prop}(h:KW w H xb n R FT)(d:A3 S w w')(I:¬S xb)(E:∀k,FT k->¬S k):KW w' H xb n R FT:=
 ⟨h.Af.Aj d I,h.G2,h.G2 _ _ _ _ h.EN h.lt d E,λk z=>Bk (h.lt k z) d.Ak,h.nw,h.up,h.GH⟩
def KW.aw(h:KW w H xb n R FT)(d:A3 Ab w w'):KW w' H xb n R FT:=h.br d (λh=>h) λ_ _ h=>h
def KW.Ak(h:KW w H xb n R FT):H<=w.heap.size:=by have:=h.up;have:=h.Af.lt;omega
def KW.cN(h:KW w H xb n R FT)(hs:Lk R')(W:Aq w FT w' R'):A3 (Up H) w w'/\A3 FT w w'/\∃d,KW w' H xb n R' d/\∀k,d k->FT k\/w.heap.size<=k:=by
 obtain⟨I,d,Y,X,E⟩:=W;have hz:=h.Ak;have hl:=h.Af.lt;refine⟨I.aa λx _ L=>h.GH x L,I,d,⟨h.Af.Aj I h.nw,hs,Y,X,λL=>?_,h.up,λk O=>(E k O).elim (h.GH k) λz=>AM hz z⟩,E⟩;rcases E xb L with z|z
 ·exact h.nw z
 ·omega
def KW.D9(h:KW w H xb n R FT)(o:Nat)(u:Value)(E:CO (w.setCell ⟨xb,o,none⟩ u) xb n'):A3 (One xb) w (w.setCell ⟨xb,o,none⟩ u)/\KW (w.setCell ⟨xb,o,none⟩ u) H xb n' R FT:=by
 have z:=(A3.I (One xb) w).ao (b:=xb) rfl o u;exact⟨z,E,h.G2,h.G2 _ _ _ _ h.EN h.lt z λk d e=>h.nw (by cases e;exact d),λk d=>Bk (h.lt k d) z.Ak,h.nw,h.up,h.GH⟩
end
def GU(t H xb sb ab b:Nat)(aA A6:Int)(puts:List Pu)(Ac:Nat)(ro:Bool)(P:PD)(w:World)(FT:Nat->Prop):Prop:=
 ∃L A,KW w H xb ⟨.pointer (some ⟨b,0,none⟩),.pointer (some ⟨sb,0,none⟩),A6⟩ (KS sb ab b 1000 aA A6 ro L A P) FT/\GX t A P puts Ac (Ba A6 1000) ro/\Rel L puts 1000 A6/\(∀k,k<8->(L k).length<=t)/\E3 P t/\(1<=aA/\aA<=4611686018427387904)/\AN A6
def EH(t H xb b:Nat)(sv:Value)(A6:Int)(puts:List Pu)(Ac:Nat)(aB:Bool)(P:PD)(w:World)(FT:Nat->Prop):Prop:=
 KW w H xb ⟨.pointer (some ⟨b,0,none⟩),sv,A6⟩ (KD b P) FT/\GW t P puts Ac (Ba A6 1000) aB/\E3 P t/\AN A6
def KO(t H xb sb ab b:Nat)(aA A6:Int)(puts:List Pu)(Ac:Nat)(ro:Bool)(P:PD)(w:World):Prop:=
 ∃L A FT,KW w H xb ⟨.pointer (some ⟨b,0,none⟩),.pointer (some ⟨sb,0,none⟩),A6⟩ (KS sb ab b 1000 aA A6 ro L A P) FT/\GX t A P puts Ac (Ba A6 1000) ro/\Rel L puts 1000 A6/\(∀k,k<8->(L k).length<=t)/\E3 P t/\(1<=aA/\aA<=4611686018427387904)/\AN A6
def KC(t H xb b:Nat)(sv:Value)(A6:Int)(puts:List Pu)(Ac:Nat)(aB:Bool)(P:PD)(w:World):Prop:=∃FT,EH t H xb b sv A6 puts Ac aB P w FT
def Eb(xb:Nat)(FT:Nat->Prop)(k:Nat):Prop:=k=xb\/FT k
def Ia:(1:Int)<=1000/\(1000:Int)<=4611686018427387904:=⟨by decide,by decide⟩
section
variable {w w':World} {t t' H xb sb ab b B N:Nat} {aA A6:Int} {puts:List Pu} {Ac:Nat} {ro aB:Bool} {P:PD} {sv:Value}
def KO.aw(h:KO t H xb sb ab b aA A6 puts Ac ro P w)(E:A3 Ab w w'):KO t H xb sb ab b aA A6 puts Ac ro P w':=by
 obtain⟨L,A,FT,z,d⟩:=h;exact⟨L,A,FT,z.aw E,d⟩
def KO.Af(h:KO t H xb sb ab b aA A6 puts Ac ro P w):CO w xb ⟨A5 b,A5 sb,A6⟩:=by obtain⟨L,A,FT,d,-⟩:=h;exact d.Af
def KO.pu(h:KO t H xb sb ab b aA A6 puts Ac ro P w):(∀p∈puts,Bi p)/\puts.length<=t/\Ac<=puts.length/\E3 P t/\AN A6:=by
 obtain⟨L,A,FT,h1,d,h3,h4,z,h6,E⟩:=h;exact⟨d.1.2.2.1,d.1.2.2.2.1,d.1.2.2.2.2,z,E⟩
def KO.b2(h:KO t H xb sb ab b aA A6 puts Ac ro P w):∃lv L,Bm w sb 0 (A5 ab) 1000 aA A6 ro lv/\E1 w lv L/\Rel L puts 1000 A6:=by
 obtain⟨L,A,FT,d,h2,z,-⟩:=h;obtain⟨lv,F0,q,-⟩:=d.EN;exact⟨lv,L,q.Af,q.E9,z⟩
def KO.bD(h:KO t H xb sb ab b aA A6 puts Ac ro P w)(k:Nat)(d:k<8)(a c:Int):
 Ag 37 #[A5 sb,A0 k,A0 a,A0 c] w λe w'=>∃x,e=.returned (.tuple #[x,A0 0])/\Dm w' x (refQ puts k a c 1000 A6)/\A3 Ab w w':=by
 obtain⟨lv,L,O,E,Y⟩:=h.b2;obtain⟨X,-,-,-,I⟩:=h.pu;refine(RJ w k a c O E d Ia I).mono ?_;rintro e w'⟨x,rfl,z,hc,-⟩;rw[Y.bD (λp W=>(X p W).2.1) d]at z;exact⟨x,rfl,z,hc⟩
def KO.ct(h:KO t H xb sb ab b aA A6 puts Ac ro P w):
 Ag 38 #[A5 sb] w (Al (.agg #[.bool ro,A0 A6]) λw'=>A3 Ab w w'):=by
 obtain⟨lv,L,d,-⟩:=h.b2;exact QO w d
def PV(f:Nat):Prop:=f=31\/f=24\/f=25
def Ja(n:DN)(c:Int):DN:={n with Cb:=if c>0 then wrap64 (n.AZ+c) else 0}
def EH.aV{w0:World}{FT:Nat->Prop}(h:EH t H xb b sv A6 puts Ac aB P w0 FT)(aD:A3 (λ_=>False) w0 w)(ht:t<=330000)(d:Int)(O:Value)(E:List Int)(aE:AN d)(k1:Jq w O E)(k2:∀x∈E,AN x)(k3:∀L n c x,n≠0->O=.slice L n c->L=some x->x.block<H\/w0.heap.size<=x.block):
 Calls Tryz.prog 32 #[.pointer (some ⟨b,0,none⟩),.int .i64 d,O] w λe w'=>e=.returned (.tuple #[])/\A3 FT w w'/\∃P2 z,EH t H xb b sv A6 puts Ac true P2 w' z/\(∀k,z k->FT k\/w.heap.size<=k)/\Still P2/\P2.D.n.AX=false:=by
 obtain⟨h0,h2,h3,h4⟩:=h;have Y:=h0.aw aD;obtain⟨hp,W,hq,hl,aF⟩:=h2.cE;have I:=hp.CV.B5
 refine(A1u Y.EN d O E k1 (λL m c x e0 e1 e2 hx=>by
  rcases k3 L m c x e0 e1 e2 with h5|h5
  ·have:=Y.GH _ hx;omega
  ·have:=h0.lt _ hx;omega) (WW hp ht) aE k2 (λf hf=>⟨(W.eB f hf).1,(W.eB f hf).2,by have:=I f hf;omega⟩)).mono ?_
 rintro e w'⟨rfl,hc,X,q3,q4,q5⟩;obtain⟨c1,c2⟩:=GW.aV hp W hq hl aF ht d E;obtain⟨-,x1,z,x2,x3⟩:=Y.cN (R':=KD b (P.aV d E)) (KD.G2 _ _) ⟨hc,X,q3,q4,q5⟩;exact⟨rfl,x1,P.aV d E,z,⟨x2,c1,(h3.aV d E).1,h4⟩,x3,(h3.aV d E).2,c2⟩
end
end
end Go.Proofs.YtodcnkbblippnaaGreatDoor
