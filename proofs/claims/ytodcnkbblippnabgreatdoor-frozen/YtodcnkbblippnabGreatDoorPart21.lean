/- Part 21 of a proof: walks of the program. -/
import Derived.Test.YtodcnkbblippnabGreatDoorPart20
namespace Go.Proofs.YtodcnkbblippnabGreatDoor
set_option maxRecDepth 100000
set_option maxHeartbeats 32000000
set_option linter.defProp false
open Go.Proofs.Tryz
section
open Go.MuLone Go.RowKit
attribute [local go_sem ↓] Go.wp_at_zero Go.wp_at_succ CE
def Yr(w:World):E5 w (λ_=>.slice none 0 0) (λ_=>[]):=
 ⟨λ_ _=>CL _ _ _ _,λ_ _=>List.Pairwise.nil,λ_ _=>by simp,λ_ _ _ _ _ g h=>by simp[Value.ownBlock]at h⟩
def G5(o:Int)(d:List Pu):Nat->List Pt:=d.foldl (λL p=>Fc L o p.1.toNat p.2.1 p.2.2) (λ_=>[])
def Oc(o:Int)(d:List Pu)(p:Pu):G5 o (d++[p])=Fc (G5 o d) o p.1.toNat p.2.1 p.2.2:=by simp[G5]
def Od(o:Int)(k:Nat):∀n (d:List Pu),d.length=n->(G5 o d k).length<=n
 | 0,d,h=>by obtain rfl:=GK.1 h;simp[G5]
 | n+1,d,h=>by
  have z:d≠[]:=λe=>by subst e;simp at h
  have E:=(ML z).symm;rw[E,Oc];have h1:=Od o k n d.dropLast (by rw[UU];omega);have h2:=Ob (G5 o d.dropLast) o (d.getLast z).1.toNat (d.getLast z).2.1 (d.getLast z).2.2 k;omega
def Yn{P:PD}{n:Int}(h:Ar.aU P=.error n):n≠0:=by
 unfold Ar.aU at h;split at h
 ·cases h;decide
 ·split at h
  ·cases h;decide
  ·split at h
   ·cases h;decide
   ·split at h
    ·rename_i d;cases h;exact d
    ·cases h
section
variable {w w' w2:World} {sb ab b B:Nat} {mu aA aB A9:Int} {ro:Bool} {lv:Nat->Value} {L L':Nat->List Pt} {A A':Ar} {P P':PD} {F0 Ft FT:Nat->Prop} {a c m N:Nat}
def Yh(w:World)(aA aB A9:Int)(hl:1<=aA/\aA<=4611686018427387904)(hw:1<=aB/\aB<=4611686018427387904)(hc:AW A9)(aM:∀k,Ft k->k<w.heap.size)(aY:∀A d,Ar.aU P=.ok (A,d)->d.length<1099511627000/\∀p∈d,0<=p.1/\p.1<8)(a7:∀E,A3 Aa w E->Ah 29 #[A5 b] E λe w'=>
  (∃n,Ar.aU P=.error n/\e=.returned (.tuple #[.pointer none,.slice none 0 0,A0 n])/\A3 Aa E w')\/
  (∃A d ab v FT,Ar.aU P=.ok (A,d)/\e=.returned (.tuple #[A5 ab,v,A0 0])/\AY w' v d/\AD w' ab b A P FT/\(∀k,FT k->Ft k\/E.heap.size<=k)/\(∀k,FT k->k<w'.heap.size)/\(∀g,v.ownBlock=some g->¬FT g/\E.heap.size<=g)/\A3 Aa E w')):
 Ah 10 #[A5 b,.agg #[A0 aA,A0 aB],A0 A9] w λe w'=>
  (∃n,Ar.aU P=.error n/\e=.returned (.tuple #[.pointer none,A0 n])/\A3 Aa w w')\/
  (∃A d ab sb,Ar.aU P=.ok (A,d)/\e=.returned (.tuple #[A5 sb,A0 0])/\w.heap.size<=sb/\Ap w Ft w' (λw' H=>SF w' sb ab b 0 aA aB A9 false (G5 (Bv A9 aA) d) A P H)):=by
 have aU:Hid (∀w',Ah 28 #[A0 aA] w' λe aH=>e=.returned (.bool true)/\w'=aH):=λw'=>by
  have:=T1 w' aA
  rwa [Cv hl]at this
 have a2:Hid (∀w',Ah 28 #[A0 aB] w' λe aH=>e=.returned (.bool true)/\w'=aH):=λw'=>by
  have:=T1 w' aB
  rwa [Cv hw]at this
 have hA:=(A3.I Aa w).aj (.cells #[A0 aA,A0 aB] 38);have aG:=BK w (.cells #[A0 aA,A0 aB] 38);generalize hw0:(w.alloc (.cells #[A0 aA,A0 aB] 38))=w0 at hA aG;have q0:A6 w0 w.heap.size 0 (A0 aA):=FN aG;have q1:A6 w0 w.heap.size 1 (A0 aB):=FN aG;have a6:=A1 (a7 w0 hA);have aR:=A1 hA;have HLT:=A1 aM;have aZ:=A1 aY;have bB:=A1 hl;have bC:=A1 hc
 go_enter func10,ntmps10
 go_wp2_with (fail);refine(aU.o _).mono ?_;rintro e w'⟨rfl,rfl⟩;go_wp2_with (fail);refine(a2.o _).mono ?_;rintro e w'⟨rfl,rfl⟩;go_wp2_with (fail);refine a6.m ?_;rintro e E (⟨n,hO,rfl,O⟩|⟨A,d,ab,v,FT,hO,rfl,hp,ha,hf1,hf2,hf3,O⟩)
 ·have hn:=Yn hO;have hnb:(n !=0)=true:=by simpa using hn
  have aW:=A1 hO;have aN:=A1 (aR.o.tr O);go_wp2;go_ret2;exact .inl ⟨n,aW.o,rfl,aN.o⟩
 ·obtain⟨va,z,rfl,v1,v2,v3,-⟩:=B9 hp;unfold maxLen at v2;have r0:=O.ao q0;have r1:=O.ao q1;obtain⟨aP,aF⟩:=aZ.o A d hO;have aN:Hid (A3 Aa w E):=aR.o.tr O;have a5:=A1 hp;have a3:=A1 ha;have aT:Hid (∀k,FT k->Ft k\/w.heap.size<=k):=λk h=>(hf1 k h).imp id (AQ aR.o.Ak)
  have aJ:=A1 hf2;have a4:=A1 hf3;have aW:=A1 hO;have aX:=A1 aP;have aS:=A1 aF;have aV:Fq 0 (A5 ab) aA aB A9 false (λ_=>.slice none 0 0) = #[.int .i32 0,.int .u32 0,A5 ab,A0 aA,A0 aB,A0 A9,.bool false,.slice none 0 0,.slice none 0 0,.slice none 0 0,.slice none 0 0,.slice none 0 0,.slice none 0 0,.slice none 0 0,.slice none 0 0]:=rfl
  have ST:Hid (∀w2,w2=E.alloc (.cells (Fq 0 (A5 ab) aA aB A9 false (λ_=>.slice none 0 0)) 86)->
   Ap w Ft w2 (λw' H=>SF w' E.heap.size ab b 0 aA aB A9 false (G5 (Bv A9 aA) (d.take 0)) A P H/\∀g,(Value.slice va d.length z).oB g->¬H g)/\AY w2 (.slice va d.length z) d):=λw2 e=>by
   subst e;have kA:A3 Aa E (E.alloc (.cells (Fq 0 (A5 ab) aA aB A9 false (λ_=>.slice none 0 0)) 86)):=(A3.I _ E).aj _;have hb:BB (E.alloc (.cells (Fq 0 (A5 ab) aA aB A9 false (λ_=>.slice none 0 0)) 86)) E.heap.size 0 (A5 ab) aA aB A9 false (λ_=>.slice none 0 0):=BK E _;have nS:¬FT E.heap.size:=λh=>FQ _ (aJ.o _ h);refine⟨⟨(aN.o.tr kA).ad λ_ _ h=>h.elim,λk=>FT k\/Own E.heap.size (λ_=>.slice none 0 0) k,⟨⟨_,FT,⟨hb,Yr _,a3.o.aJ kA,λk O=>Bm (aJ.o k O) kA.Ak,nS,λk O=>?_⟩,λ_ h=>h⟩,λg hg hx=>?_⟩,λk O=>?_,λk O=>?_⟩,Ay a5.o λg hg=>kA.Al g (Az a5.o hg) (λh=>h)⟩
   ·obtain⟨i,_,hi⟩:=O;simp[Value.ownBlock]at hi
   ·rcases hx with hx|rfl|⟨i,_,hi⟩
    ·exact(a4.o g hg).1 hx
    ·have:=Az a5.o hg;omega
    ·simp[Value.ownBlock]at hi
   ·rcases O with O|rfl|⟨i,_,hi⟩
    ·exact Bm (aJ.o k O) kA.Ak
    ·simp
    ·simp[Value.ownBlock]at hi
   ·rcases O with O|rfl|⟨i,_,hi⟩
    ·exact aT.o k O
    ·exact .inr aN.o.Ak
    ·simp[Value.ownBlock]at hi
  have a0:Hid (w.heap.size<=E.heap.size):=aN.o.Ak;rw[aV]at ST;have a1:=A1 (ST.o _ rfl);go_wp2;go_loopw [43] (λiv wr=>∃k:Nat,k<=d.length/\iv=A0 k/\Hid (Ap w Ft wr (λw' H=>SF w' E.heap.size ab b 0 aA aB A9 false (G5 (Bv A9 aA) (d.take k)) A P H/\∀g,(Value.slice va d.length z).oB g->¬H g)/\AY wr (.slice va d.length z) d)) (λiv _=>d.length-(intOf iv).toNat)
  case atStart=>exact⟨0,by omega,by go_num,a1.o⟩
  case round=>
   obtain⟨k,O,rfl,hI⟩:=hrel;obtain⟨aD,aL⟩:∃aD,aD=wr:=⟨_,rfl⟩;subst aL;have k0:=Ce k;by_cases aE:k<d.length
   ·(have kI:(k:Int)<(d.length:Int):=by omega);obtain⟨g,o,rfl,hgl,c1,c2,c3⟩:=Hh.at hI.o.2.rd k aE;have aQ:d.take (k+1)=d.take k++[d[k]'aE]:=Dl aE;have aF:=aS.o _ (BV aE);have aP:=aX.o;generalize hp:(d[k]'aE)=p at c1 c2 c3 aQ aF;have aI:Hid (∀w3,A3 Aa aD w3->Ah 30 #[A5 E.heap.size,Dr p] w3 (Am (.tuple #[]) λw'=>(Ap w Ft w' (λw' H=>SF w' E.heap.size ab b 0 aA aB A9 false (G5 (Bv A9 aA) (d.take (k+1))) A P H/\∀W,(Value.slice (some (Ab g o)) d.length z).oB W->¬H W)/\AY w' (.slice (some (Ab g o)) d.length z) d))):=λw3 k3=>by
     obtain⟨⟨i1,F1,⟨i2,i3⟩,i4,i5⟩,i6⟩:=hI.o;have aK:∀j,j<8->(G5 (Bv A9 aA) (d.take k) j).length<1099511627000:=λj _=>by
      have:=Od (Bv A9 aA) j _ (d.take k) rfl;rw[BU]at this;omega
     refine(T0 w3 p (i2.aJ k3) aF aK bB.o bC.o).mono ?_;rintro e w'⟨rfl,q1,bA,q2,q3,q4⟩;have aO:A3 Ft w w3:=i1.Av k3 λ_ h _=>h.elim;have Y:∀W,(Value.slice (some (Ab g o)) d.length z).oB W->W<aD.heap.size:=λW I=>Az i6 I;refine⟨rfl,⟨aO.Av q1 λx hx aM=>(i5 x hx).resolve_right (by omega),bA,⟨by rw[aQ,Oc];exact q2,λW I hx=>?_⟩,q3,λx hx=>?_⟩,?_⟩
     ·rcases q4 W hx with hy|hy
      ·exact i3 W I hy
      ·have:=Y W I;have:=k3.Ak;omega
     ·rcases q4 x hx with hy|hy
      ·exact i5 x hy
      ·exact .inr (AQ aO.Ak hy)
     ·exact Ay (Ay i6 λW I=>k3.Al W (Y W I) λh=>h) λW I=>q1.Al W (Bm (Y W I) k3.Ak) (i3 W I)
    obtain⟨p1,p2,p3⟩:=p;unfold Dr at aI;dsimp only at c1 c2 c3 aI;go_wp2_with (go_at_call 30;refine(aI.o _ ((A3.I _ aD).aj _)).mono ?_;rintro e w3⟨rfl,hS⟩;have a8:=A1 hS);go_roundw
    case rel=>exact⟨k+1,by omega,by go_num,a8.o⟩
    case measure=>simp[intOf];omega
   ·(obtain rfl:k=d.length:=by omega);have a9:=A1 hI.o.1;go_wp2;go_ret2;refine .inr ⟨A,d,ab,E.heap.size,aW.o,rfl,a0.o,?_⟩;have h:=a9.o;rw[C9]at h;exact h.fi λ_ _ h=>h.1
end
end
section
open Go.RowKit
attribute [local go_sem ↓] Go.wp_at_zero Go.wp_at_succ


end
section
open Go.RowKit
abbrev Kind:=World->(Nat->Prop)->Prop
def KY(R:Kind):Prop:=∀(w w':World) (S FT:Nat->Prop),R w FT->(∀k,FT k->k<w.heap.size)->A3 S w w'->(∀k,FT k->¬S k)->R w' FT
def KD(b:Nat)(P:PD):Kind:=λw FT=>Bh w b P FT
def KS(E ab b:Nat)(d h A9:Int)(z:Bool)(L:Nat->List Pt)(A:Ar)(P:PD):Kind:=λw FT=>SF w E ab b 0 d h A9 z L A P FT
def KD.FW(b:Nat)(P:PD):KY (KD b P):=λ_ _ _ _ h z H E=>Bh.aP h λk d=>H.Al k (z k d) (E k d)
def KS.FW(Y ab b:Nat)(d z A9:Int)(H:Bool)(L:Nat->List Pt)(A:Ar)(P:PD):KY (KS Y ab b d z A9 H L A P):=λw w' S FT h hl hc W=>by
 obtain⟨lv,F0,O,E⟩:=h;exact⟨lv,F0,O.An hc λk I=>W k (E k I),E⟩
def SF.dk{w:World}{sb ab b:Nat}{mu d z A9:Int}{I:Bool}{L:Nat->List Pt}{A:Ar}{P:PD}{FT:Nat->Prop}(h:SF w sb ab b mu d z A9 I L A P FT):∃Ft,Bh w b P Ft/\(∀k,Ft k->k<w.heap.size)/\∀k,Ft k->FT k:=by
 obtain⟨lv,F0,Y,H⟩:=h;obtain⟨xb,jb,sv,ov,l,jo,Ft,E,W⟩:=Y.ar;exact⟨Ft,E.dk,E.lt,λk O=>H k (.inl (W k (.inl O)))⟩
end
section
open Go.RowKit
attribute [local go_sem ↓] Go.wp_at_zero Go.wp_at_succ
def A3.bn{S:Nat->Prop}{a b c:World}(h:A3 Aa a b)(k:A3 S b c)(d:∀x,S x->a.heap.size<=x):A3 Aa a c:=h.Av k λx z hlt=>by have:=d x z;omega
end
section
open Go.RowKit
def Env(B:Nat)(w:World):Prop:=Lets B w/\HF w/\1<B/\2<B
def Env.ak{B:Nat}{w w':World}{S:Nat->Prop}(h:Env B w)(H:A3 S w w')(z:∀k,S k->B<=k):Env B w':=by
 obtain⟨E,⟨⟨Y,a1,W⟩,e2,a2,b2⟩,O,I⟩:=h;refine⟨E.ak H z,⟨⟨Y,?_,W⟩,e2,?_,b2⟩,O,I⟩
 ·rw[<-a1];have:=H.Al 1 (Bm O E.1) λd=>by have:=z _ d;omega
  simp only[World.cell?,this]
 ·rw[<-a2];have:=H.Al 2 (Bm I E.1) λd=>by have:=z _ d;omega
  simp only[World.cell?,this]
def Env.aS{B:Nat}{w w':World}(h:Env B w)(d:A3 Aa w w'):Env B w':=h.ak d λ_ h=>h.elim
def Ky{n:Int}(h:isNum n=true):CD n:=by
 unfold isNum at h;simp at h;exact Hs (by omega) h.2
def Yt{I:Int×Int}{nm:Bs}(h:EV I nm):nm.length<=281474976710656:=by
 have H:∀(c:UInt8) (n:Int),1<=n->n<=4611686018427387904->(c::(Lib.repeatL [48] (19-(Lib.itoa n).length)++Lib.itoa n)).length<=281474976710656:=λc n d E=>by
  rw[Kl d E,CG,LH];omega
 by_cases E:(Be nm).1=1
 ·obtain⟨⟨a,b⟩,e⟩:=O4 E;rw[<-e,IF];exact H _ _ a b
 ·by_cases z:(Be nm).1=2
  ·obtain⟨⟨a,b⟩,e⟩:=O2 z;rw[<-e,HW];exact H _ _ a b
  ·have d:=h.1;unfold Be at d E z;cases hx:E0 [108] nm with
   | some v=>rw[hx]at E;exact absurd rfl E
   | none=>
    rw[hx]at d z;dsimp only at d z;unfold GS at d z;cases hy:E0 [115] nm with
    | some v=>rw[hy]at z;exact absurd rfl z
    | none=>
     rw[hy]at d;dsimp only at d;unfold GR HY at d;split at d
     ·rename_i e;subst e;decide
     ·split at d
      ·rename_i e;subst e;decide
      ·exact absurd rfl d
def Rf:∀(k s:Nat) (l:List UInt8),(Dx k s l).1.length*21<=l.length
 | 0,_,_=>by simp[Dx]
 | k+1,s,l=>by
  unfold Dx;split
  ·simp
  ·rename_i hl;split
   ·have:=Rf k (AU s (l.take 17)) (l.drop 21);rw[CP]at this;simp only[CG];omega
   ·simp
def YT{P:PD}{a c m:Nat}(z:Fit P a c m)(n d:Int):(P.aX n d).1.length*21<=m:=by
 have key:∀l:List UInt8,l.length<=m->∀s,(FZ s d l).1.length*21<=m:=λl hl s=>by
  unfold FZ;split
  ·simp
  ·split
   ·split
    ·have:=Rf l.length (AU s (l.take 8)) (l.drop 12);rw[CP]at this;dsimp only;omega
    ·simp
   ·simp
 unfold PD.aX Gm;split
 ·simp
 ·refine key _ ?_ _;unfold DJ;split
  ·rename_i f h;exact z.B8 f (FJ h)
  ·exact Cz _
def XG{P:PD}{a c m:Nat}(z:Fit P a c m)(l:List Int):(P.puts l).1.length*21<=l.length*m:=by
 have key:∀(l:List Int) (d:List Pu),(P.bl l d).1.length*21<=d.length*21+l.length*m:=by
  intro l
  induction l with
  | nil=>intro d;simp[PD.bl]
  | cons n r ih=>
   intro d;unfold PD.bl;split
   ·simp
   ·have h:=ih (d++(P.aX n d.length).1);have h2:=YT z n d.length;rw[AZ]at h;rw[CG,Hy];omega
 have:=key l [];simpa[PD.puts] using this
section
variable {w:World} {B sb ab b:Nat} {aA aB A9:Int} {L:Nat->List Pt} {A:Ar} {P:PD} {FT:Nat->Prop} {puts:List Pu} {Ad t N:Nat} {o:Int}
def Rn(w:World)(p:Pu)(h:SF w sb ab b 0 aA aB A9 false L A P FT)(E:∀k,FT k->k<w.heap.size)(d:St t A P puts Ad o false)(ht:t+1<=200000)(hp:Bg p)(hL:Lets B w)(I:∀k,FT k->B<=k)(O:∀k,k<8->(L k).length<=t)(hl:1<=aA/\aA<=4611686018427387904)(hc:AW A9):
 Ah 12 #[A5 sb,A0 p.1,A0 p.2.1,A0 p.2.2] w (Am (A0 (A.aa P p).2.1) λw'=>
  Ap w FT w' (λw' z=>SF w' sb ab b 0 aA aB A9 (decide ((A.aa P p).2.1≠0)) (if (A.aa P p).1=true then Fc L (Bv A9 aA) p.1.toNat p.2.1 p.2.2 else L) (A.aa P p).2.2.1 (A.aa P p).2.2.2 z)):=by
 obtain⟨sg,cl,ol,H,_⟩:=d.si rfl;have W:=H.bE d.pb d.B8 (by omega);have hj:=W.j;exact XI w p h E hp (λ_=>⟨Hs (by omega) (by omega),by constructor<;>omega,H.AX.dn H.CQ⟩) (by have:=W.Aj;omega) hL I d.pb.CT ⟨by omega,by omega,by omega⟩ (λk Y=>by have:=O k Y;omega) hl hc
def VI(w:World)(h:SF w sb ab b 0 aA aB A9 false L A P FT)(_hFT:∀k,FT k->k<w.heap.size)(O:Lets B w)(d:∀k,FT k->B<=k):
 Ah 18 #[A5 sb] w (Am (A0 (A.ae P).1) λw'=>Ap w FT w' (λw' z=>SF w' sb ab b 0 aA aB A9 (decide ((A.ae P).1≠0)) L (A.ae P).2.1 (A.ae P).2.2 z)):=
 VJ w (A.ae P).1 h O d (A':=(A.ae P).2.1) (P':=(A.ae P).2.2) λE _ I H _ _=>A2b E I H
def Wn{L:Nat->List Pt}(h:∀k,DM (L k))(o:Int)(k:Nat)(t v:Int):∀i,DM (Fc L o k t v i):=λi=>by
 unfold Fc;split
 ·unfold HN;split
  ·exact KB (h k) _ _
  ·exact h i
 ·exact h i
def Xn(aA A9:Int)(h:List Pu)(hp:∀p∈h,Bg p):Rel (G5 (Bv A9 aA) h) h aA A9:=by
 have key:∀n (l:List Pu),l.length=n->(∀p∈l,Bg p)->Rel (G5 (Bv A9 aA) l) l aA A9/\∀k,DM (G5 (Bv A9 aA) l k):=by
  intro n
  induction n with
  | zero=>
   intro l d _;obtain rfl:=GK.1 d;exact⟨Rel.b9 aA A9,λ_=>List.Pairwise.nil⟩
  | succ n ih=>
   intro l d z;rcases Lg l with rfl|⟨r,p,rfl⟩
   ·cases d
   ·rw[V4]at d z ⊢;obtain⟨i1,H⟩:=ih r (by simpa using d) λx hx=>z x (Fx _ hx);have E:=z p (by simp);rw[Oc];obtain⟨k,t,v⟩:=p;obtain⟨⟨Y,W⟩,I,_⟩:=E;dsimp only at Y W I ⊢;obtain⟨O,rfl⟩:∃O:Nat,k=O:=⟨k.toNat,by omega⟩;exact⟨i1.aw (λj _=>H j) (by omega) I,Wn H _ _ _ _⟩
 exact(key _ h rfl hp).1
def SM{I H:List (Int×List Pu)}{E:Option (List Pu)}(h:Lay P A I H E):∀n∈A.j.Aj,CD n:=λn z=>by
 rw[h.bU]at z;obtain⟨x,d,rfl⟩:=CA.1 z;cases E with
 | none=>exact Ky (h.CO x d).1.1
 | some l=>
  rcases AV.1 d with d|d
  ·exact Ky (h.CO x d).1.1
  ·simp at d;subst d;exact Ky h.AF.2.2.2.2
def Jr{x y a b:Nat}(h:x<=a)(d:y<=b){c:Nat}(z:a*b<=c):x*y<=c:=AQ (Mv h d) z
def Tr(W:Fj N)(hN:N<=200000)(w:World)(h:SF w sb ab b 0 aA aB A9 false L A P FT)(Y:∀k,FT k->k<w.heap.size)(E:St t A P puts Ad o false)(ht:t+1<=200000)(hpN:puts.length<=N)(hw:1<=aB/\aB<=4611686018427387904)(hL:Lets B w)(aD:∀k,FT k->B<=k):
 Ah 19 #[A5 sb] w (Am (A0 (A.aT P aB).1) λw'=>Ap w FT w' (λw' I=>SF w' sb ab b 0 aA aB A9 (decide ((A.aT P aB).1≠0)) L (A.aT P aB).2.1 (A.aT P aB).2.2 I)):=by
 obtain⟨sg,cl,ol,z,_⟩:=E.si rfl;have d:=z.bE E.pb E.B8 (by omega);have hj:=d.j;have hs:=d.s;have hsg:=d.segs;have hlg:=d.Aj;have hall:=z.Cl.2.2;have hl0:(B6 sg cl ol).length=(Aw sg).length+(Aw cl++ol.getD []).length:=by unfold B6;rw[AZ]
 have hp:=z.AX.puts z.CQ;refine A0y w (A.aT P aB).1 h Y hL aD (A':=(A.aT P aB).2.1) (P':=(A.aT P aB).2.2) λw1 F0 hA h0 O H=>?_;exact A2d W (by omega) w1 hA h0 aB hw (by rw[hp];dsimp only;omega) (by rw[hp];exact z.AX.b0) ⟨hs.1,by omega⟩ (by constructor<;>omega) (λx hx=>Oh (z.AX.Dz.segs x hx)) E.pb.CT ⟨by omega,by omega,by omega⟩
  (Jr (a:=200000) (b:=8001000) (by omega) (by omega) (by decide)) (by omega) (λn hn=>Ky (z.AX.Dz.segs n hn)) (SM z.AX) (by omega) O H
def A1q(aD:Fj N)(hN:N<=200000)(w:World)(h:SF w sb ab b 0 aA aB A9 false L A P FT)(aE:∀k,FT k->k<w.heap.size)(I:St t A P puts Ad (Bv A9 aA) false)(ht:t+1<=200000)(hpN:puts.length<=N)(hw:1<=aB/\aB<=4611686018427387904)(hL:Lets B w)(aF:∀k,FT k->B<=k)(hl:1<=aA/\aA<=4611686018427387904)(hc:AW A9):
 Ah 14 #[A5 sb] w (Am (A0 (A.aQ P aB (Bv A9 aA)).1) λw'=>
  Ap w FT w' (λw' W=>SF w' sb ab b 0 aA aB A9 (decide ((A.aQ P aB (Bv A9 aA)).1≠0)) L (A.aQ P aB (Bv A9 aA)).2.1 (A.aQ P aB (Bv A9 aA)).2.2 W)):=by
 obtain⟨sg,cl,ol,d,_⟩:=I.si rfl;have z:=d.bE I.pb I.B8 (by omega);have hj:=z.j;have hs:=z.s;have hsg:=z.segs;have hlg:=z.Aj;have hall:=d.Cl.2.2;have H:=d.AX.puts d.CQ;refine A1r w (A.aQ P aB (Bv A9 aA)).1 h aE hL aF hl hc (A':=(A.aQ P aB (Bv A9 aA)).2.1) (P':=(A.aQ P aB (Bv A9 aA)).2.2) λw1 F0 hA h0 Y O=>?_;refine A2e aD (by omega) w1 hA h0 aB (Bv A9 aA) hw (λsegs E=>?_) ⟨by omega,Jr (a:=200000) (b:=8001000) (by omega) (by omega) (by decide)⟩ ⟨hs.1,by omega⟩ (by constructor<;>omega) (λx hx=>Oh (d.AX.Dz.segs x hx)) I.pb.CT ⟨by omega,by omega,by omega⟩
  (Jr (a:=200000) (b:=8001000) (by omega) (by omega) (by decide)) (λn hn=>Ky (d.AX.Dz.segs n hn)) (SM d.AX) (by omega) Y O
 rw[d.AX.b7]at E;cases E;have e:sg.flatMap (·.2)++(P.puts A.j.Aj).1=B6 sg cl ol:=by rw[H];rfl
 rw[e];refine⟨by omega,λp H=>?_⟩;rcases AV.1 H with H|H
 ·exact d.AX.cP p H
 ·exact d.AX.b0 p H
def RX(w:World)(Ft:Nat->Prop)(hd:Bh w b P Ft)(z:∀k,Ft k->k<w.heap.size)(H:PB P t)(aD:DI (Cp t) P puts Ad (Bv A9 aA))(hr:Reads (Cp t) P puts (Bv A9 aA))(hq:∀p∈puts,Bg p)(Y:puts.length<=t)(aH:Ad<=puts.length)(E:P.D.n.AS=false)(ht:t<=200000)(hE:Env B w)(hl:1<=aA/\aA<=4611686018427387904)(hw:1<=aB/\aB<=4611686018427387904)(hc:AW A9):
 Calls Tryz.prog 10 #[.pointer (some ⟨b,0,none⟩),.agg #[.int .i64 aA,.int .i64 aB],.int .i64 A9] w λe w'=>
  ∃A ab sb L,e=.returned (.tuple #[.pointer (some ⟨sb,0,none⟩),.int .i64 0])/\w.heap.size<=sb/\(∃ps,Ar.aU P=.ok (A,ps))/\St t A P puts Ad (Bv A9 aA) false/\Rel L puts aA A9/\(∀k,k<8->(L k).length<=t)/\Ap w Ft w' (λw' aF=>SF w' sb ab b 0 aA aB A9 false L A P aF):=by
 obtain⟨A,ps,h1,h2,h3,h4⟩:=St.aU H aD hr hq Y aH E ht;obtain⟨sg,cl,ol,hI,_⟩:=h2.si rfl;have I:=hI.bE H Y (by omega);have hpl:=h3.2.2;have O:=hI.AX.ba;refine(Yh w aA aB A9 hl hw hc z (P:=P) (Ft:=Ft) (b:=b) (λA' aG h=>by rw[h1]at h;cases h;exact⟨by omega,λp H=>(h4 p H).1⟩) λw1 hk=>?_).mono ?_
 ·have W:=hE.aS hk;refine A2c w1 (B3.aI hd z hk) (λk aE=>Bm (z k aE) hk.Ak) H.CT ⟨by omega,by omega,by omega⟩ (Jr (a:=600020) (b:=8001000) (by omega) (by omega) (by decide)) W.1 W.2.1 (λnm hm=>Yt (aD.Ax nm λe=>GQ.1 hm (Ia.2 e))) (λix hx=>?_) (λd=>?_)
  ·rw[O]at hx;cases hx;have:=I.segs;exact⟨by omega,Jr (a:=200000) (b:=8001000) (by omega) (by omega) (by decide)⟩
  ·have h5:=XG H.CT (BM d P.Ax);have h6:=LM d P.Ax;have h7:=I.Ax;have h8:(BM d P.Ax).length*(40*t+1000)<=4800760020000:=Jr (a:=600020) (b:=8001000) (by omega) (by omega) (by decide);omega
 ·rintro e w' (⟨n,q1,-⟩|⟨A',aG,ab,sb,q1,rfl,q2,q3⟩)
  ·rw[h1]at q1;cases q1
  ·rw[h1]at q1;cases q1;refine⟨A,ab,sb,_,rfl,q2,⟨_,h1⟩,h2,?_,λk hk=>AQ (Od _ k _ ps rfl) (by omega),q3⟩;exact Xm (Xn aA A9 ps h4) hq h3
end
end
section
open Go.MuLone Go.RowKit
attribute [local go_sem ↓] Go.wp_at_zero Go.wp_at_succ CE
section
variable {w w' w2:World} {sb ab b:Nat} {mu aA aB A9:Int} {ro:Bool} {lv:Nat->Value} {L:Nat->List Pt} {A:Ar} {P:PD} {F0 FT:Nat->Prop}
def Ro(w:World)(k t v:Int)(h:SF w sb ab b 0 aA aB A9 true L A P FT)(aD:∀k,FT k->k<w.heap.size)(hk:0<=k/\k<8):
 Ah 12 #[A5 sb,A0 k,A0 t,A0 v] w (Am (A0 4) λw'=>Ap w FT w' (λw' z=>SF w' sb ab b 0 aA aB A9 true L A P z)):=by
 have aG:Hid (∀w',Ah 33 #[A0 k] w' λe E=>e=.returned (.bool true)/\w'=E):=λw'=>by
  have:=Of w' k
  rwa [Cv hk]at this
 have Y:=U7 w sb k t v;have O:=U8 w sb k t v;generalize aF:boxed w sb k t v=w0 at Y O;unfold boxed at aF;have hV:=h.aJ Y;have H:=hV.bP;have I:IY (w0.sC sb 0 (.int .i32 1)) w.heap.size sb k t v:=O.An H.1 λi _ hx=>by have:=aD _ hx;omega
 have d:Hid (Ap w FT (w0.sC sb 0 (.int .i32 1)) (λw' z=>SF w' sb ab b 1 aA aB A9 true L A P z)):=H.a7 Y;have aI:Hid (∀W,Ah 34 #[A5 sb,W] (w0.sC sb 0 (.int .i32 1)) (Am (A0 4) λw'=>(w0.sC sb 0 (.int .i32 1))=w')):=λW=>by
  obtain⟨k1,F1,s1,s2,s3⟩:=d.o;obtain⟨lv,F0,q,-⟩:=s1;exact U0 _ W q.Ag
 have c0:A6 w0 sb 0 (.int .i32 0):=by obtain⟨lv,F0,q,-⟩:=hV;exact q.Ag.c0
 have f0:w0.frozen? (Ab sb 0)=false:=by obtain⟨lv,F0,q,-⟩:=hV;exact q.Ag.fz 0
 obtain⟨x0,x1,x2,x3⟩:=O;obtain⟨y0,y1,y2,y3⟩:=I
 go_enter_defers func12,ntmps12
 go_wp2_with (fail);refine(Kv Tryz.bD (Ab sb 0) _ c0 f0).mono ?_;rintro e w'⟨rfl,rfl⟩;go_wp2_with (go_at_call 33;refine(aG.o _).mono ?_;rintro e w'⟨rfl,rfl⟩);refine(aI.o _).mono ?_;rintro e w2⟨rfl,rfl⟩;go_wp2;refine Kw (f:=32) (args:=#[A5 sb]) (by simp) (by simp[go_sem]) ?_;refine(Ka Tryz.bD (Ab sb 0) .returning _ ?_ ?_).mono ?_
 ·obtain⟨-,aH,⟨aE,aJ,a1,-⟩,-,-⟩:=d.o;exact a1.Ag.c0
 ·obtain⟨-,aH,⟨aE,aJ,a1,-⟩,-,-⟩:=d.o;exact a1.Ag.fz 0
 rintro e u' E⟨rfl,rfl,rfl⟩;exact⟨_,Nv rfl _ _ _,rfl,SFto.DW d.o 0 _ λlv h=>h.s0 0⟩
def SF.dt{n:Int}{w2:World}(h:Ap w FT w2 (λw' d=>SF w' sb ab b 1 aA aB A9 ro L A P d)):Ap w FT (w2.setCell (Ab sb 0) (.int .i32 n)) (λw' d=>SF w' sb ab b n aA aB A9 ro L A P d):=SFto.DW h 0 _ λ_ h=>h.s0 n
def Nt(z:World)(h:SF z sb ab b 0 aA aB A9 true L A P FT)(E:Value):
 Calls Tryz.prog 34 #[.pointer (some ⟨sb,0,none⟩),E] (z.setCell ⟨sb,0,none⟩ (.int .i32 1)) λe w'=>e=.returned (.int .i64 4)/\w'.cell? ⟨sb,0,none⟩=some (.int .i32 1)/\w'.frozen? ⟨sb,0,none⟩=false/\Ap z FT w' (λw' d=>SF w' sb ab b 1 aA aB A9 true L A P d):=by
 have I:=h.bP;obtain⟨H,W,s1,s2,s3⟩:=I;obtain⟨lv,F0,q,O⟩:=s1;refine(U0 _ E q.Ag).mono ?_;rintro e w'⟨rfl,rfl⟩;exact⟨rfl,q.Ag.c0,q.Ag.fz 0,H,W,⟨lv,F0,q,O⟩,s2,s3⟩
def Ts(w:World)(h:SF w sb ab b 0 aA aB A9 true L A P FT)(_hFT:∀k,FT k->k<w.heap.size):
 Ah 19 #[A5 sb] w (Am (A0 4) λw'=>Ap w FT w' (λw' d=>SF w' sb ab b 0 aA aB A9 true L A P d)):=by
 obtain⟨c0,f0,W,-⟩:=h.c0;refine(Qn w 4 (λw'=>Ap w FT w' (λw' d=>SF w' sb ab b 1 aA aB A9 true L A P d)) c0 f0 W λw1 E=>?_).mono ?_
 ·subst E;have H:=(A3.I Aa w).aj (.cells #[A5 sb] 33);refine(Nt _ (h.aJ H) _).mono ?_;rintro e w'⟨rfl,I,z,O⟩;exact⟨rfl,I,z,O.a7 H⟩
 ·rintro e w'⟨rfl,w2,z,rfl⟩;exact⟨rfl,SF.dt z⟩
def A1s(w:World)(h:SF w sb ab b 0 aA aB A9 true L A P FT)(_hFT:∀k,FT k->k<w.heap.size):
 Ah 14 #[A5 sb] w (Am (A0 4) λw'=>Ap w FT w' (λw' d=>SF w' sb ab b 0 aA aB A9 true L A P d)):=by
 obtain⟨c0,f0,W,-⟩:=h.c0;refine(Qp w 4 (λw'=>Ap w FT w' (λw' d=>SF w' sb ab b 1 aA aB A9 true L A P d)) c0 f0 W λw1 E=>?_).mono ?_
 ·subst E;have H:=(A3.I Aa w).aj (.cells #[A5 sb] 33);refine(Nt _ (h.aJ H) _).mono ?_;rintro e w'⟨rfl,I,z,O⟩;exact⟨rfl,I,z,O.a7 H⟩
 ·rintro e w'⟨rfl,w2,z,rfl⟩;exact⟨rfl,SF.dt z⟩
def VK(w:World)(h:SF w sb ab b 0 aA aB A9 true L A P FT):
 Ah 18 #[A5 sb] w (Am (A0 4) λw'=>Ap w FT w' (λw' d=>SF w' sb ab b 0 aA aB A9 true L A P d)):=by
 obtain⟨c0,f0,hz,-⟩:=h.c0;have z:=h.bP;have c2:A6 (w.sC sb 0 (.int .i32 1)) sb 2 (A5 ab):=by
  obtain⟨k1,F1,s1,s2,s3⟩:=z;exact s1.c0.2.2.2
 refine(Qm w 4 (λw'=>Ap w FT w' (λw' d=>SF w' sb ab b 1 aA aB A9 true L A P d)) c0 f0 c2 (Nt _ h _)).mono ?_;rintro e w'⟨rfl,w2,E,rfl⟩;exact⟨rfl,SF.dt E⟩
end
end
section
open Go.RowKit
attribute [local go_sem ↓] Go.wp_at_zero Go.wp_at_succ
def A1m(w:World)(b:Nat)(D:DS)(F:Nat->FC)(Ft:Nat->Prop)(h:D6 w b D F Ft)(hs:D.A4.length<549755813888/\D.AM.length<549755813888/\∀l∈D.As,l.length<1099511627776)(b0:∀l:List Nat,l.Nodup->(∀f∈l,D.Aq f)->l.length<1099511627776)(hs2:D.As.length<1099511627776)(hF:∀f,D.Aq f->(F f).1.length<=1099511627776):
 Ah 15 #[A5 b] w λe w'=>∃b2 r bK aL,e=.returned (A5 b2)/\D6 w' b2 (D.ren r) bK aL/\(∀k,aL k->w.heap.size<=k/\k<w'.heap.size)/\A3 Aa w w'/\
  (∀f,D.Aq f->bK (r f)=F f)/\∀f f',D.Aq f->D.Aq f'->r f=r f'->f=f':=by
 obtain⟨vd,vs,vc,vals,bN,Y,hft⟩:=h;obtain⟨hsA,hsB,b1⟩:=hs;have b8:=A1 b1;have b4:=A1 b0;have aA:=A1 Y;have bQ:=A1 hF;have c0:=Y.Ag.c0;have c1:=Y.Ag.c1;have c2:=Y.Ag.c2;have c3:=Y.Ag.c3;have c4:=Y.Ag.c4;have c5:=Y.Ag.c5;have c6:=Y.Ag.c6;have c7:=Y.Ag.c7;have c8:=Y.Ag.c8;have c9:=Y.Ag.c9;have c10:=Y.Ag.bZ;obtain⟨ac,pc,rfl,hc1,bV,aJ,hcnone,hcform⟩:=B9 Y.An;unfold maxLen at bV;have aX:=A1 aJ
 have cB:Hid (∀(vl:Value) (es:List AL) (W:World) (L M:List Nat) (vo vm:Value) (aS:Nat->Value),CY w vl es->(∀f,Dc f es->D.Aq f)->es.length<1099511627776->A3 Aa w W->CS w.heap.size W (w.heap.size+1) (w.heap.size+2) F L M vo vm aS->L.length<1099511627776->
  Ah 40 #[vl,A5 (w.heap.size+1),A5 (w.heap.size+2)] W λe w'=>∃v cF cC a8 bA a9 bS,e=.returned v/\El w.heap.size W (w.heap.size+1) (w.heap.size+2) F L M vo vm aS es es.length es.length v w' cF cC a8 bA a9 bS):=
  λvl es W L M vo vm aS h1 h2 h3 h4 h5 h6=>Y5 aA.o h4 h5 h1 h2 bQ.o ⟨h3,h6⟩
 have b7:Hid (∀W,A3 Aa w W->W.cell? (Ab b 0)=some vd/\W.cell? (Ab b 1)=some vs):=λW hc=>
  ⟨(DL (hc.Al b aA.o.Ag.lt (λh=>h))).trans aA.o.Ag.c0,(DL (hc.Al b aA.o.Ag.lt (λh=>h))).trans aA.o.Ag.c1⟩
 have bC:w.heap.size≠b:=by have:=aA.o.Ag.lt;omega
 go_enter func15,ntmps15
 go_wp2;refine K1 33 (by kernel_rfl) (by kernel_rfl) ?_;simp only[KV,EX,EL,DE,Dq]
 repeat still_step
 refine K2 ?_;go_wp2;generalize bX:(((w.alloc (.cells #[.slice none 0 0,.slice none 0 0,.slice none 0 0,A0 D.n.AB,A0 D.n.AP,A0 D.n.BT,A0 D.n.BJ,A0 D.n.Bq,A0 D.n.B5,A0 D.n.fulls,.bool D.n.AS] 60)).alloc (.cells #[.slice none 0 0] 95)).alloc (.cells #[.slice none 0 0] 95)).drew=W1;obtain⟨bW,cA,a7⟩:=A1l w D.n F bN W1 bX.symm;have b3:=A1 cA;have aD:=A1 bW;have I:=A1 a7;refine FA (λw'=>w'.cell? (Ab b 0)=some vd/\w'.cell? (Ab b 1)=some vs) 17
  (Bz [0,1,2,3,4,5,6,8,9,10,11,12,7,13,14,15,16] [7,13,16]) (by kernel_rfl) (by kernel_rfl) (λ_ _ _ _ _ h=>h) (b7.o _ I.o.af) ?_
 iterate 12 (refine E8 (v:=?_) rfl (by rfl) ?_ ?_;rotate_left;(· (intro w' O;(try dsimp only at O);go_simp;try with_reducible rfl));(try simp only[Ao]))
 refine DY rfl (by rfl) (λK hK=>?_);go_simp;refine(cB.o vd D.A4 _ _ _ _ _ _ aA.o.A4 (λf hf=>.inl hf) (by omega) I.o.af (aD.o.An (A3.I Aa W1).af (λ_ _ h=>h) (λ_ _ h=>h)) (by simp)).mono ?_;rintro e w2⟨v1,L,M,vo,vm,a9,e1,rfl,aN⟩;obtain⟨a1,k1,rfl,-⟩:=CY.Cf aN.EG;have aQ:=A1 aN;have aR:=A1 <| aN.cA I.o.af (aD.o.An (A3.I Aa W1).af (λ_ _ h=>h) (λ_ _ h=>h));have hL:L.length<=D.A4.length:=by
  obtain⟨o,q1,q2,_⟩:=aN.Gp;rw[q1];simpa using q2
 refine hK _ _ (b7.o _ aR.o) (λO=>?_)
 (try simp only[Ao])
 refine DY rfl (by rfl) (λK hK=>?_);go_simp;refine(cB.o vs D.AM _ _ _ _ _ _ aA.o.AM (λf hf=>.inr (.inl hf)) (by omega) aR.o aQ.o.cs (by omega)).mono ?_;rintro e w3⟨v2,cF,cC,a8,bA,VB3,e2,rfl,aT⟩;obtain⟨a2,k2,rfl,-⟩:=CY.Cf aT.EG;have a4:Hid (A3 Aa w w3):=aT.cA aR.o aQ.o.cs;have aK:=A1k (aD.o.An (A3.I Aa W1).af (λ_ _ h=>h) (λ_ _ h=>h)) ((b3.o:AK W1.drew _ _ _ _ _)) I.o.af aQ.o aT;have z0:=aK.1.c0;have z1:=aK.1.c1;have zf:=aK.1.fz;have bJ:=A1 aK.2;refine hK _ _ (b7.o _ a4.o) (λO=>?_);obtain⟨s0,s1⟩:=O
 (try simp only[Ao])
 iterate 2 (refine E8 (v:=?_) rfl (by rfl) ?_ ?_;rotate_left;(· (intro w' O;(try dsimp only at O);go_simp;try with_reducible rfl));(try simp only[Ao]))
 refine DY rfl (by rfl) (λK hK=>?_);go_simp;refine hK _ _ ?_ (λO=>?_)
 ·simp[World.cell?_setCell_far,bC,s0,s1]
 (try simp only[Ao])
 have c2b:w3.cell? (Ab b 2)=some (.slice ac D.As.length pc):=(DL (a4.o.Al b aA.o.Ag.lt (λh=>h))).trans c2;refine Bo ?_;simp only[DE,Dq];go_wp2;generalize hW4:(w3.setCell (Ab w.heap.size 0) (.slice a1 e1.length k1)).setCell (Ab w.heap.size 1) (.slice a2 e2.length k2)=W4 at bJ ⊢;go_loopw [67] (λiv wr=>∃i:Nat,i<=D.As.length/\iv=A0 i/\Hid (∃L M vo vm z bN d cs,CR w.heap.size w wr w.heap.size (w.heap.size+1) (w.heap.size+2) D F i L M vo vm (.slice a1 e1.length k1) (.slice a2 e2.length k2) z bN d e1 e2 cs)) (λiv _=>D.As.length-(intOf iv).toNat)
 case atStart=>exact⟨0,Cz _,rfl,_,_,_,_,_,_,_,_,bJ.o⟩
 case round=>
  obtain⟨i,hi,rfl,bI⟩:=hrel;by_cases aG:i<D.As.length
  ·obtain⟨bL,cD,a3,bE,z,bF,d,cs,k0⟩:=bI.o;have aI:=A1 k0;obtain⟨gc,rfl⟩:=aX.o (by omega);obtain⟨vk,bY,bB⟩:=aA.o.D5 i aG;have bR:=Az aA.o.An (g:=gc) rfl;have m1:wr.cell? (Ab gc i)=some vk:=(DL (k0.An.Al gc bR (λh=>h))).trans (BF aA.o.An (g:=gc) rfl bY);obtain⟨E,H,rfl,hk1,hk2,-⟩:=CY.Cf bB;have bD:=A1 bB;obtain⟨es,aF⟩:∃es,D.As[i]'aG=es:=⟨_,rfl⟩;(have bG:es.length<1099511627776:=by rw[<-aF];exact b8.o _ (BV aG));have bO:bL.length<1099511627776:=b4.o _ k0.Gu.HU k0.SJ;rw[aF]at bD;have b6:=A1 aF;have aY:Hid (∀f,Dc f es->D.Aq f):=λf hf=>.inr (.inr ⟨_,BV aG,aF ▸ hf⟩);have hi0:=Ce i;(have hi1:(i:Int)<(D.As.length:Int):=by omega);rw[aF]at m1;obtain⟨p0,hp,b9,b5,bZ⟩:=E4 Tryz.dU;have hsz:w.heap.size<wr.heap.size:=aI.o.Ag.lt;have aM:Hid (CS w.heap.size ((wr.alloc (.cells #[.slice E es.length H] 98)).drew) (w.heap.size+1) (w.heap.size+2) F bL cD a3 bE bF):=aI.o.Gu.An ((A3.I Aa wr).aj (.cells #[.slice E es.length H] 98)).af (λ_ _ h=>h) (λ_ _ h=>h);have bM:Hid (A3 Aa w ((wr.alloc (.cells #[.slice E es.length H] 98)).drew)):=(aI.o.An.aj (.cells #[.slice E es.length H] 98)).af;have aZ:=BK wr (.cells #[.slice E es.length H] 98);(have n0:(wr.alloc (.cells #[.slice E es.length H] 98)).cell? (Ab wr.heap.size 0)=some (.slice E es.length H):=by unfold World.cell?;rw[aZ];rfl);have n1:(wr.alloc (.cells #[.slice E es.length H] 98)).cell? (Ab w.heap.size 2)=some z:=(aI.o.Ag.aj (.cells #[.slice E es.length H] 98)).c2;have cE:=A1 aZ;go_wp2;refine FA (λw'=>w'.cell? (Ab w.heap.size 2)=some z/\w'.cell? (Ab wr.heap.size 0)=some (.slice E es.length H)) 12
    (Bz [0,1,2,3,4,5,6,7,8,9,10,11] [8,10,11]) (by kernel_rfl) (by kernel_rfl) (λ_ _ _ _ _ h=>h) ⟨n1,n0⟩ ?_
   iterate 8 (refine E8 (v:=?_) rfl (by rfl) ?_ ?_;rotate_left;(· (intro w' O;(try dsimp only at O);go_simp;try with_reducible rfl));(try simp only[Ao]))
   refine DY rfl (by rfl) (λK hK=>?_);go_simp;refine(cB.o _ es _ _ _ _ _ _ bD.o aY.o bG bM.o aM.o bO).mono ?_;rintro e w5⟨v5,L5,M5,vo5,vm5,VB5,aE,rfl,aB⟩;obtain⟨a5,k5,rfl,-⟩:=CY.Cf aB.EG;have bT:=A1 aB;have bH:AK w5 w.heap.size (.slice a1 e1.length k1) (.slice a2 e2.length k2) z D.n:=
    (aB.An.Al _ (by simp;omega) (aM.o.b6 (aI.o.Ag.aj (.cells #[.slice E es.length H] 98)) (.inr (.inr rfl)))).trans (aI.o.Ag.aj (.cells #[.slice E es.length H] 98))
   have a0:w5.heap[wr.heap.size]?=some (.cells #[.slice E es.length H] 98 (0,0)):=(aB.An.Al _ (by simp) (aM.o.b6 cE.o (.inr (.inl rfl)))).trans cE.o;have aO:w5.ownsRow 0 98 1 z i d:=Ay aI.o.ch λg hg=>by
    obtain⟨c,hh⟩:=Bd aI.o.ch hg;have h1:((wr.alloc (.cells #[.slice E es.length H] 98)).drew).heap[g]?=some (Obj.cells c 98 (0,0)):=(D8 _ _ _ (Bw hh)).trans hh;exact((aB.An.Al _ (Bw h1) (aM.o.b6 h1 (.inr (.inl rfl)))).trans h1).trans hh.symm
   have p1:=bH.c2;(have p2:w5.cell? (Ab wr.heap.size 0)=some (.slice E es.length H):=by simp[World.cell?,a0]);have aH:=A1 bH;have aV:=A1 a0;have aP:Hid ((w5.alloc (.cells #[.slice a5 aE.length k5] 98)).ownsRow 0 98 1 z i d):=Ay aO λg hg=>D8 _ _ _ (Az aO hg);have aU:Hid (∀w6 v6 n xs,App (w5.alloc (.cells #[.slice a5 aE.length k5] 98)) w6 98 1 z v6 n xs->(w6.cell? (Ab w.heap.size 2)=some z/\w6.cell? (Ab wr.heap.size 0)=some (.slice E es.length H))/\w6.frozen? (Ab w.heap.size 2)=false):=by
    intro w6 v6 n xs hA
    have x1:w6.heap[w.heap.size]?=w5.heap[w.heap.size]?:=(hA.Ct.block _ (by have:=aH.o.lt;simp;omega) (λe=>by
     obtain⟨c,hh⟩:=Bd aP.o e.symm
     exact BR hh (aH.o.aj _) (by decide) rfl)).trans (D8 _ _ _ aH.o.lt)
    have x2:w6.heap[wr.heap.size]?=w5.heap[wr.heap.size]?:=(hA.Ct.block _ (by have:=Bw aV.o;simp;omega) (λe=>by
     have:=Az aI.o.ch e.symm;omega)).trans (D8 _ _ _ (Bw aV.o))
    exact⟨⟨(DL x1).trans aH.o.c2,by simp[World.cell?,x2,aV.o]⟩,(aH.o.aI x1).fz 2⟩
   have bU:Hid (Src Tryz.prog 1 58 (AJ w5.heap.size 1 1) 1 [.slice a5 aE.length k5] (w5.alloc (.cells #[.slice a5 aE.length k5] 98))):=
    Src.bc underlying58 w5 #[.slice a5 aE.length k5] 98 w5.heap.size rfl 1 1 rfl (by simp[Value.oneCell'])
   (have bP:(i+1)*24<=140737488355328:=by omega);refine hK _ _ ⟨p1,p2⟩ (λO=>?_)
   (try simp only[Ao])
   (refine E8 (v:=?_) rfl (by rfl) ?_ ?_;rotate_left;(· (intro w' O;(try dsimp only at O);go_simp;try with_reducible rfl));(try simp only[Ao]))
   refine DY rfl (by rfl) (λK hK=>?_);go_simp;refine hK _ _ ?_ (λO=>?_)
   ·simp[World.cell?_alloc_some,p1,p2]
   (try simp only[Ao])
   refine DY rfl (by rfl) (λK hK=>?_);refine HI (.tmp 75) (.tmp 81) 58 58 (by rfl) 98 p0 _ 1 24 underlying58 hp b9 b5 bZ rfl (by decide) z i d (by rfl) aP.o _ 1 _ (by rfl) bU.o bP ?_;intro a6 k6 w6 hA;obtain⟨r1,r2⟩:=aU.o _ _ _ _ hA;have aW:=A1 (aI.o.a8 (nq:=0) aG b6.o (((A3.I Aa wr).aj (.cells #[.slice E es.length H] 98)).af) bT.o hA);refine hK _ _ r1 (λO=>?_);obtain⟨r1,-⟩:=r1
   (try simp only[Ao])
   refine Bo ?_;simp only[DE,Dq];go_wp2;go_roundw
   case rel=>exact⟨i+1,by omega,by go_num,_,_,_,_,_,_,_,_,aW.o⟩
   case measure=>simp[intOf];omega
  ·(obtain rfl:i=D.As.length:=by omega);obtain⟨bL,cD,a3,bE,z,bF,d,cs,k0⟩:=bI.o;obtain⟨r,bK,aL,q1,q2,q3,q4,q5⟩:=k0.eY;have cJ:=A1 q1;have cL:=A1 q2;have cH:=A1 q4;have cI:=A1 q5;have cG:=A1 q3;go_wp2;go_ret;exact⟨_,r,bK,aL,rfl,cJ.o,cL.o,cG.o,cH.o,cI.o⟩
def S2:∀ {l m:List Nat},l.Nodup->(∀x∈l,x∈m)->l.length<=m.length
 | [],_,_,_=>Cz _
 | x::r,m,h,hs=>by
  have E:=hs x (BD ..);have z:=JS.1 h;have:=S2 (m:=m.erase x) z.2 λy d=>(A22 λe=>z.1 (by rw[<-e];exact d)).2 (hs y (Br _ d))
  rw[A25 E]at this;have:=A24 E;simp only[CG];omega
def Vd(D:DS)(F:Nat->FC):Prop:=∃K,K<1099511627776/\(∀f,D.Aq f->f<K)/\D.A4.length<549755813888/\D.AM.length<549755813888/\(∀l∈D.As,l.length<1099511627776)/\D.As.length<1099511627776/\∀f,D.Aq f->(F f).1.length<=1099511627776
def TL{w:World}{b:Nat}{D:DS}{F:Nat->FC}{Ft:Nat->Prop}(h:B3 w b D F Ft)(hC:Vd D F):
 Ah 15 #[A5 b] w λe w'=>∃W z,e=.returned (A5 W)/\B3 w' W D F z/\(∀k,z k->w.heap.size<=k/\k<w'.heap.size)/\A3 Aa w w':=by
 obtain⟨r,G,h1,h2,h3⟩:=h;obtain⟨K,c1,c2,c3,c4,c5,c6,c7⟩:=hC;obtain⟨l1,l2,l3,l4⟩:=JE D r
 refine(A1m w b _ G Ft h1 ⟨by rw[l1];exact c3,by rw[l2];exact c4,λl Y=>?_⟩ (λl hn Y=>?_) (by rw[l3];exact c6) (λf' d=>by
  obtain⟨f,E,rfl⟩:=DS.cM d
  rw[h2 f E];exact c7 f E)).mono ?_
 ·obtain⟨l0,E,rfl⟩:=CA.1 Y;rw[Iy];exact c5 l0 E
 ·have:=S2 (m:=(List.range K).map r) hn λx H=>by
   obtain⟨f,E,rfl⟩:=DS.cM (Y x H);exact DP (MB.2 (c2 f E))
  rw[FR,List.length_range]at this;omega
 rintro e w'⟨W,O,aA,z,E,q2,q3,q4,q5,q6⟩;have I:(D.ren r).ren O=D.ren (λf=>O (r f)):=by
  have e:∀es:List AL,Go.Proofs.YtodcnkbblippnabGreatDoor.ren O (Go.Proofs.YtodcnkbblippnabGreatDoor.ren r es)=Go.Proofs.YtodcnkbblippnabGreatDoor.ren (λf=>O (r f)) es:=λes=>by simp[Go.Proofs.YtodcnkbblippnabGreatDoor.ren]
  simp only[DS.ren,e,US]
  congr 1
  exact MD λc _=>e c
 have hid:∀f,D.Aq f->(D.ren r).Aq (r f):=by
  rintro f (⟨x,H,rfl⟩|⟨x,H,rfl⟩|⟨c,hc,x,H,rfl⟩)
  ·exact .inl ⟨_,DP H,rfl⟩
  ·exact .inr (.inl ⟨_,DP H,rfl⟩)
  ·exact .inr (.inr ⟨_,DP hc,_,DP H,rfl⟩)
 refine⟨W,z,E,⟨λf=>O (r f),aA,I ▸ q2,λf L=>?_,λf f' L d e=>?_⟩,q3,q4⟩
 ·rw[q5 (r f) (hid f L),h2 f L]
 ·exact h3 f f' L d (q6 _ _ (hid f L) (hid f' d) e)
def PB.dP{P:PD}{t:Nat}(h:PB P t)(ht:t<=200000):Vd P.D P.F:=
 ⟨400000*(t+1),by omega,h.Aq,by have:=h.CT.A4;omega,by have:=h.CT.AM;omega,λl z=>by have:=h.CT.Fi l z;omega,by have:=h.CT.An;omega,λf d=>by have:=h.CT.B8 f d;omega⟩
def U3{S:Nat->Prop}{w w':World}(E:A3 S w w'){x o:Nat}{u:Value}(h:A6 w x o u)(d:¬S x):A6 w' x o u:=by
 have z:=Hd w _ h;exact(DL (E.Al x z d)).trans h
def Ap.b1{w w':World}{Ft:Nat->Prop}{R z:World->(Nat->Prop)->Prop}(h:Ap w Ft w' R)(I:∀d,R w' d->z w' d):Ap w Ft w' z:=by
 obtain⟨H,F,E,L⟩:=h;exact⟨H,F,I F E,L⟩
def Live(t M sb ab b:Nat)(aA aB A9:Int):Kind:=λw FT=>∃d L A P q Ad,SF w sb ab b 0 aA aB A9 d L A P FT/\(d=false->St t A P q Ad (Bv A9 aA) false/\(∀k,k<8->(L k).length<=t)/\q.length<=M)
section
variable {w:World} {t M N B sb ab b:Nat} {aA aB A9:Int} {FT:Nat->Prop}
def YW(w:World)(p:Pu)(h:Live t M sb ab b aA aB A9 w FT)(d:∀k,FT k->k<w.heap.size)(Y:t+1<=200000)(I:Bg p)(hL:Lets B w)(O:∀k,FT k->B<=k)(hl:1<=aA/\aA<=4611686018427387904)(hc:AW A9):
 Ah 12 #[A5 sb,A0 p.1,A0 p.2.1,A0 p.2.2] w λe w'=>(∃c,e=.returned (A0 c))/\Ap w FT w' (Live (t+1) (M+1) sb ab b aA aB A9):=by
 obtain⟨ro,L,A,P,q,Ad,h1,h2⟩:=h;cases ro with
 | true=>
  refine(Ro w p.1 p.2.1 p.2.2 h1 d I.1).mono ?_;rintro e w'⟨rfl,W⟩;exact⟨⟨_,rfl⟩,W.b1 λF E=>⟨true,L,A,P,q,Ad,E,λe=>by cases e⟩⟩
 | false=>
  obtain⟨hS,hk,hq⟩:=h2 rfl;obtain⟨-,-,-,-,-,a6,-⟩:=hS.aa Y p I;refine(Rn w p h1 d hS Y I hL O hk hl hc).mono ?_;rintro e w'⟨rfl,W⟩;refine⟨⟨_,rfl⟩,W.b1 λF E=>⟨_,_,_,_,q++[p],Ad,E,λe=>?_⟩⟩;have z:(A.aa P p).2.1=0:=by
   by_cases z:(A.aa P p).2.1=0
   ·exact z
   ·rw[Cv z]at e;cases e
  obtain⟨b1,b2⟩:=a6 z;refine⟨b2,λk H=>?_,by simp;omega⟩;rw[Af b1];have:=Ob L (Bv A9 aA) p.1.toNat p.2.1 p.2.2 k;have:=hk k H;omega
def YX(I:Fj N)(hN:N<=200000)(w:World)(h:Live t M sb ab b aA aB A9 w FT)(d:∀k,FT k->k<w.heap.size)(Y:t+1<=200000)(hM:M<=N)(hw:1<=aB/\aB<=4611686018427387904)(hL:Lets B w)(O:∀k,FT k->B<=k):
 Ah 19 #[A5 sb] w λe w'=>(∃c,e=.returned (A0 c))/\Ap w FT w' (Live (t+1) M sb ab b aA aB A9):=by
 obtain⟨ro,L,A,P,q,Ad,h1,h2⟩:=h;cases ro with
 | true=>
  refine(Ts w h1 d).mono ?_;rintro e w'⟨rfl,W⟩;exact⟨⟨_,rfl⟩,W.b1 λF E=>⟨true,L,A,P,q,Ad,E,λe=>by cases e⟩⟩
 | false=>
  obtain⟨hS,hk,hq⟩:=h2 rfl;obtain⟨-,-,-,-,a5⟩:=hS.aT (Fb aB) Y;refine(Tr I hN w h1 d hS Y (by omega) hw hL O).mono ?_;rintro e w'⟨rfl,W⟩;refine⟨⟨_,rfl⟩,W.b1 λF E=>⟨_,_,_,_,q,q.length,E,λe=>?_⟩⟩;have z:(A.aT P aB).1=0:=by
   by_cases z:(A.aT P aB).1=0
   ·exact z
   ·rw[Cv z]at e;cases e
  exact⟨a5 z,λk H=>by have:=hk k H;omega,hq⟩
end
def PD.b3(P:PD):PD:=⟨{P.D with n:=Dj {P.D.n with BT:=if (0:Int)>0 then wrap64 (P.D.n.AP+0) else 0} 0 0},P.F⟩




end
section
open Go.RowKit

def E3(P:PD)(t:Nat):Prop:=P.D.n.AB=1152921504606846976/\0<=P.D.n.AP/\P.D.n.AP<=10000000*((t:Int)+1)
def He(P:PD)(e:Int)(P':PD):Prop:=P'.D.n.BT=P.D.n.BT/\P'.D.n.BJ=P.D.n.BJ/\P.D.n.AP<=P'.D.n.AP/\
 ((e=0/\P'.D.n.AS=false/\¬(P.D.n.AP<P.D.n.BJ/\P.D.n.BJ<=P'.D.n.AP)/\P'.D.n.B5=P.D.n.B5)\/
  (e=5/\P'.D.n.B5=P.D.n.B5+1/\((P'.D.n.AS=true/\P.D.n.AP<P.D.n.BT)\/(P'.D.n.AS=false/\P.D.n.AP<P.D.n.BJ))))
def E3.ad{P:PD}{t d:Nat}(h:E3 P t)(ht:t<=d):E3 P d:=⟨h.1,h.2.1,by have:=h.2.2;omega⟩
def N7{P P':PD}{e:Int}{k t:Nat}(h:C7 k P.D.n e P'.D.n)(hs:Hf P e P')(h6:e≠6)(H:P.D.n.AS=false)(hc:E3 P t)(hk:k<=10000000)(ht:t<=200000)(Y:P'.D.n.AB=P.D.n.AB):He P e P'/\E3 P' (t+1):=by
 obtain⟨c1,c2,c3⟩:=hc;obtain⟨a1,a2,W⟩:=h;obtain⟨I,b2,O,b4⟩:=W c2 (by omega);refine⟨⟨a1,a2,I,?_⟩,Y.trans c1,by omega,by omega⟩;rcases hs with⟨rfl,d,-,-⟩|⟨rfl,d,-⟩|⟨rfl,-⟩
 ·obtain⟨d1,d2⟩:=b4 (by decide);exact .inl ⟨rfl,d1.trans H,d2,d⟩
 ·refine .inr ⟨rfl,d,?_⟩;rcases O rfl with q|⟨z,E,-⟩|⟨z,E,-⟩
  ·rw[H]at q;cases q
  ·exact .inl ⟨z,E⟩
  ·exact .inr ⟨z,E⟩
 ·exact absurd rfl h6
def Still(P:PD):Prop:=P.D.n.BT=0/\P.D.n.BJ=0
def He.fO{P P':PD}{e:Int}{t:Nat}(h:He P e P')(d:Still P)(W:E3 P t):e=0/\Still P'/\P'.D.n.AS=false:=by
 obtain⟨H,I,a3,z⟩:=h;have h0:=W.2.1;rcases z with⟨E,O,-⟩|⟨-,-,⟨-,b⟩|⟨-,b⟩⟩
 ·exact⟨E,⟨H.trans d.1,I.trans d.2⟩,O⟩
 ·rw[d.1]at b;omega
 ·rw[d.2]at b;omega
def Rest(t:Nat)(P:PD)(puts:List Pu)(Ad:Nat)(o:Int):Prop:=PB P t/\DI (Cp t) P puts Ad o/\(∀p∈puts,Bg p)/\puts.length<=t/\Ad<=puts.length
def Gj(t:Nat)(A:Ar)(P:PD)(puts:List Pu)(Ad:Nat)(o:Int)(ro:Bool):Prop:=Rest t P puts Ad o/\(P.D.n.AS=false->St t A P puts Ad o ro)
section
variable {t N:Nat} {A:Ar} {P:PD} {puts:List Pu} {Ad:Nat} {o:Int} {ro:Bool}
def St.cx(h:St t A P puts Ad o ro):Rest t P puts Ad o:=⟨h.pb,h.di,h.pu,h.B8,h.le⟩
def St.dR(h:St t A P puts Ad o ro):Gj t A P puts Ad o ro:=⟨h.cx,λ_=>h⟩
def Rest.ad{z:Nat}(h:Rest t P puts Ad o)(d:t<=z):Rest z P puts Ad o:=⟨h.1.ad d,h.2.1.a6 (Ib d),h.2.2.1,AQ h.2.2.2.1 d,h.2.2.2.2⟩
def Gj.ad{d:Nat}(h:Gj t A P puts Ad o ro)(z:t<=d):Gj d A P puts Ad o ro:=⟨h.1.ad z,λE=>(h.2 E).ad z⟩
def Gj.cX(h:Gj t A P puts Ad o ro)(d:Bool):GM t P puts Ad o d:=by
 cases hd:P.D.n.AS with
 | false=>exact(h.2 hd).cX d
 | true=>exact⟨h.1.1,h.1.2.1,h.1.2.2.1,h.1.2.2.2.1,h.1.2.2.2.2,.inl hd⟩
def GM.cx{d:Bool}(h:GM t P puts Ad o d):Rest t P puts Ad o:=⟨h.1,h.2.1,h.2.2.1,h.2.2.2.1,h.2.2.2.2.1⟩
def E3.aW(h:E3 P t)(z:Int)(d:List Int):E3 (P.aW z d) t/\Still (P.aW z d):=⟨h,rfl,rfl⟩
def Gj.bt(h:Gj t A P puts Ad o ro)(n:DN)(E:n.AB=P.D.n.AB)(d:0<=n.Bq/\n.Bq<=9223372036854775807)(I:n.B5=P.D.n.B5)(z:n.fulls=P.D.n.fulls)(H:n.AS=P.D.n.AS):Gj t A ⟨{P.D with n:=n},P.F⟩ puts Ad o ro:=
 ⟨⟨h.1.1.bt n E d I z,⟨h.1.2.1.Ds,h.1.2.1.Aq,h.1.2.1.Cb,h.1.2.1.Co⟩,h.1.2.2⟩,λO=>(h.2 (H.symm.trans O)).bt n E d I z H⟩
def PB.fQ(h:PB P t)(ht:t<=200000):B4 P.F P.D.A4<=4800760020000:=AQ h.CT.dB (AQ (Mv (show 3*t+20<=600020 by omega) (show 40*t+1000<=8001000 by omega)) (by decide))
def St.fe(h:St t A P puts Ad o false)(z:E3 P t)(I:t+1<=200000)(p:Pu)(O:Bg p):
 He P (A.aa P p).2.1 (A.aa P p).2.2.2/\E3 (A.aa P p).2.2.2 (t+1)/\((A.aa P p).2.1=0->P.D.n.AP+1<=(A.aa P p).2.2.2.D.n.AP):=by
 obtain⟨-,Y,-,-,-,-,H⟩:=h.aa I p O;obtain⟨sg,cl,ol,-,hll⟩:=h.si rfl;have hu:=h.pb.fQ (by omega);have d:=z;obtain⟨c1,c2,c3⟩:=d;obtain⟨E,W⟩:=N7 (A1C A P p) Y (λe=>by have:=H e;omega) h.AS z (by omega) (by omega) (X2 A P p);exact⟨E,W,λe=>A2l e c2 (by omega)⟩
def St.fw(h:St t A P puts Ad o false)(E:E3 P t)(z:t+1<=200000):He P (A.ae P).1 (A.ae P).2.2/\E3 (A.ae P).2.2 (t+1):=by
 obtain⟨-,d,-,-,-,H⟩:=h.ae z;obtain⟨sg,cl,ol,-,hll⟩:=h.si rfl;exact N7 (A1B A P) d H h.AS E (by omega) (by omega) (X1 A P)
def QS{O cl:List (Int×List Pu)}{ol:Option (List Pu)}(h:PB P t)(hn:FP P)(E:Pc A P O cl ol t)(H:E3 P t)(ht:t+1<=200000)(hll:A.AN.length<=3*t+20)(I:P.D.n.AS=false)(kept:List Int)(fresh:List (List Pu))(hk:kept.length<=t)(hf:fresh.length<=t)(W:∀l∈fresh,l.length<=t)(Y:Hf P (A.ay P kept fresh).1 (A.ay P kept fresh).2.2):He P (A.ay P kept fresh).1 (A.ay P kept fresh).2.2/\E3 (A.ay P kept fresh).2.2 (t+1):=by
 have hcn:=E.Ma;have z:=E.Ax;rw[Ha]at z;refine N7 (A1u A P kept fresh) Y ?_ I H (by omega) (by omega) (WV A P kept fresh);refine X8 (a:=3*(t+1)+20) (m:=40*(t+1)+1000) (h.CT.ad (a':=3*(t+1)+20) (m':=40*(t+1)+1000) (by omega) (Au _) (by omega)).wd h.Aq hn kept fresh (by omega) (λl hm=>by have:=W l hm;omega) (by omega) ?_;rw[H.1];have d:(3*(t+1)+20)*(40*(t+1)+1000)+(40*(t+1)+1000)<=4800768021000:=AQ (Nat.add_le_add (Mv (show 3*(t+1)+20<=600020 by omega) (show 40*(t+1)+1000<=8001000 by omega)) (show 40*(t+1)+1000<=8001000 by omega)) (by decide);exact JY (MR.2 d) (by decide)
def St.fr{Ai:Int}(h:St t A P puts Ad o false)(Y:BS (AA Ai))(hc:E3 P t)(W:t+1<=200000):He P (A.aT P Ai).1 (A.aT P Ai).2.2/\E3 (A.aT P Ai).2.2 (t+1):=by
 obtain⟨-,a2,-,-,-⟩:=h.aT Y W;obtain⟨sg,H,O,I,z⟩:=h.si rfl;have E:=I.bE h.pb h.B8 (by omega);obtain⟨n1,n2⟩:=E.Cl;obtain⟨n3,n4⟩:=E.segs;have hp:=I.AX.puts I.CQ;have d:=H9 Y (Aw H++O.getD []);have hfl:=GV d.ne;have hfl2:=d.B8;have e:A.aT P Ai=A.ay P A.ix.segs (Bx Ai (Aw H++O.getD [])):=by
  unfold Ar.aT;rw[hp,Ac (by simp)]
 rw[e]at a2 ⊢
 exact QS h.pb h.di.bh E hc W z h.AS A.ix.segs (Bx Ai (Aw H++O.getD [])) n3 (by omega) (λl hl=>by
  have:=(Mz hl).length_le
  omega) a2
def St.eU{Ai:Int}(h:St t A P puts Ad o false)(hw:BS (AA Ai))(hc:E3 P t)(ht:t+1<=200000):He P (A.aQ P Ai o).1 (A.aQ P Ai o).2.2/\E3 (A.aQ P Ai o).2.2 (t+1):=by
 obtain⟨-,a2,-,-,-⟩:=h.aQ hw ht;obtain⟨d,E,z,O,W⟩:=h.si rfl;have hN:=O.bE h.pb h.B8 (by omega);obtain⟨n1,n2⟩:=hN.Cl;obtain⟨n3,n4⟩:=hN.segs;have hp:=O.AX.puts O.CQ;have I:=H9 hw (B6 d E z);have hfl:=GV I.ne;have hfl2:=I.B8;have H:=Js d o (Bx Ai (B6 d E z));have Y:=H.length_eq;have hal:(DK o (Bx Ai (B6 d E z))).length<=(Bx Ai (B6 d E z)).length:=J1 _ _;rw[AZ,FR]at Y;have hks:(BG d o (Bx Ai (B6 d E z))).1.length=(G4 d o (Bx Ai (B6 d E z))).length:=by rw[Jt,FR]
 have e:A.aQ P Ai o=A.ay P ((BG d o (Bx Ai (B6 d E z))).1.mergeSort λx y=>decide (x<=y)) (BG d o (Bx Ai (B6 d E z))).2:=by
  unfold Ar.aQ;rw[O.AX.b7];dsimp only
  have e2:d.flatMap (·.2)++(P.puts A.j.Aj).1=B6 d E z:=by rw[hp];rfl
  rw[e2,hp,Ac (by simp)]
 rw[e]at a2 ⊢
 exact QS h.pb h.di.bh hN hc ht W h.AS ((BG d o (Bx Ai (B6 d E z))).1.mergeSort λx y=>decide (x<=y)) (BG d o (Bx Ai (B6 d E z))).2 (by rw[ME];omega) (by omega) (λl hl=>by
  have:=(Mz (IM hl)).length_le
  omega) a2
def No{A2:Ar}{P2:PD}{cd:Int}(h:St t A P puts Ad o false)(E:PB P2 (t+1))(z:DI (Cp (t+1)) P2 puts Ad o)(H:Reads (Cp (t+1)) P2 puts o)(d:cd=0->St (t+1) A2 P2 puts puts.length o false):
 Gj (t+1) A2 P2 puts (if cd=0 then puts.length else Ad) o (decide (cd≠0)):=by
 have hl:=h.B8;by_cases e:cd=0
 ·rw[Af e,D4 (nn e)];exact(d e).dR
 ·rw[Ac e,Cv e];exact⟨⟨E,z,h.pu,by omega,h.le⟩,λI=>St.dm E z H h.pu (by omega) h.le I⟩
end
section
variable {t:Nat} {aA A9:Int} {L:Nat->List Pt} {A:Ar} {P:PD} {puts:List Pu} {Ad:Nat}
def XK(z:St t A P puts Ad (Bv A9 aA) false)(ht:t+1<=200000)(p:Pu)(hp:Bg p)(hR:Rel L puts aA A9)(hs:∀k,k<8->DM (L k)){bo:Bool}{cd:Int}{A2:Ar}{P2:PD}{W:Nat->List Pt}(I:A.aa P p=(bo,cd,A2,P2))(d:W=if bo=true then Fc L (Bv A9 aA) p.1.toNat p.2.1 p.2.2 else L):
 ∃q,(q=puts++[p]\/(q=puts/\cd≠0))/\Gj (t+1) A2 P2 q Ad (Bv A9 aA) (decide (cd≠0))/\Rel W q aA A9/\(∀k,k<8->(L k).length<=t->(W k).length<=t+1):=by
 obtain⟨Y,a2,a3,a4,a5,a6,a7⟩:=z.aa ht p hp;rw[I]at Y a2 a3 a4 a5 a6 a7;have hq:∀x∈puts++[p],Bg x:=λx h=>by
  rcases AV.1 h with h|h
  ·exact z.pu x h
  ·simp at h;subst h;exact hp
 have E:(puts++[p]).length<=t+1:=by have:=z.B8;simp;omega
 have aB:Ad<=(puts++[p]).length:=by have:=z.le;simp;omega
 have H:∀k,k<8->(L k).length<=t->(W k).length<=t+1:=λk _ hk=>by
  rw[d];have:=Ob L (Bv A9 aA) p.1.toNat p.2.1 p.2.2 k;split<;>omega
 cases bo with
 | true=>
  rw[Af rfl]at d;have aD:Rel W (puts++[p]) aA A9:=by
   rw[d];obtain⟨k,tt,v⟩:=p;obtain⟨⟨k0,k8⟩,O,_⟩:=hp;dsimp only at k0 k8 O ⊢;obtain⟨k',rfl⟩:∃k':Nat,k=k':=⟨k.toNat,by omega⟩;exact hR.aw hs (by omega) O
  refine⟨puts++[p],.inl rfl,⟨⟨Y,a3,hq,E,aB⟩,λh=>?_⟩,aD,H⟩;by_cases e:cd=0
  ·rw[D4 (nn e)];exact(a6 e).2
  ·rw[Cv e];exact St.dm Y a3 (a4 rfl) hq E aB h
 | false=>
  rw[Ac (by simp)]at d;subst d;obtain⟨b1,b2⟩:=a5 rfl;have e:cd≠0:=λe=>absurd (a6 e).1 (by simp);have hl:=z.B8;refine⟨puts,.inr ⟨rfl,e⟩,⟨⟨Y,b1,z.pu,by omega,z.le⟩,λh=>?_⟩,hR,H⟩;rw[Cv e];exact St.dm Y b1 b2 z.pu (by omega) z.le h
end
end
section
open Go.RowKit
attribute [local go_sem ↓] Go.wp_at_zero Go.wp_at_succ





section
variable {w w':World} {sb ab b t:Nat} {mu aA aB A9 o:Int} {ro:Bool} {L:Nat->List Pt} {A:Ar} {P:PD} {FT:Nat->Prop} {puts:List Pu} {Ad:Nat}
def DI.ep{O:Int×Int}(h:DI O P puts Ad o)(f:Nat)(W:P.D.Aq f):0<=(P.F f).2/\(P.F f).2<=(P.F f).1.length:=by
 have key:∀s∈Bp P,∀e∈s,0<=(P.F e.2).2/\(P.F e.2).2<=(P.F e.2).1.length:=λs E e d=>by
  obtain⟨ix,sg,cl,lo,nb,I,_⟩:=h.Ds s E;have hv:vw P.F s e.1.data.toList=some (P.F e.2):=by
   unfold vw;rw[G3];cases hk:lookup s e.1 with
   | none=>exact absurd rfl (IG.1 hk e d)
   | some g=>
    obtain⟨i,hi,H⟩:=DQ (E1 hk);obtain⟨j,hj,z⟩:=DQ d;have:i=j:=Jp (h.Cb s E) (by simpa using hi) (by simpa using hj) (by simp[H,z]);subst this;rw[H]at z;rw[<-z];rfl
  exact I.DT _ _ hv
 rcases W with⟨e,d,rfl⟩|⟨e,d,rfl⟩|⟨l,Y,e,d,rfl⟩
 ·exact key _ h.Co e d
 ·exact key _ (BD ..) e d
 ·exact key _ (Br _ Y) e d
def SF.bW(h:SF w sb ab b mu aA aB A9 ro L A P FT):∃Ft,Bh w b P Ft/\(∀k,Ft k->k<w.heap.size)/\(∀k,Ft k->FT k)/\∀(S z:Nat->Prop) (w':World) (P':PD),A3 S w w'->(∀k,FT k->S k->Ft k)->Bh w' b P' z->(∀k,z k->k<w'.heap.size)->(∀k,z k->Ft k\/w.heap.size<=k)->
 ∃W,SF w' sb ab b mu aA aB A9 ro L A P' W/\(∀k,W k->k<w'.heap.size)/\∀k,W k->FT k\/w.heap.size<=k:=by
 obtain⟨lv,F0,I,O⟩:=h;obtain⟨xb,jb,sv,ov,l,jo,Ft,E,Y⟩:=I.ar;refine⟨Ft,E.dk,E.lt,λk d=>O k (.inl (Y k (.inl d))),λS z w' P' hc hS d1 d2 d3=>?_⟩;have hs:FO (F7 ab xb jb sv ov l jo) w w':=hc.aI (λ_ d=>E.bH d) λk d H=>E.Db k d (hS k (O k (.inl (Y k (.inr d)))) H)
 have hA:Cj w' ab b xb jb sv ov l jo A P' z:=⟨(hs ab (.inl rfl)).trans E.Ag,(hs xb (.inr (.inl rfl))).trans E.ix,E.segs.aP λg hg=>hs g (.inr (.inr (.inl hg))),E.AN.aP λg hg=>hs g (.inr (.inr (.inr (.inl hg)))),
  E.jn.aP λk d=>hs k (.inr (.inr (.inr (.inr d)))),d1,d2,λk d H=>(d3 k H).elim (E.Db k d) λh'=>by have:=E.bH d;omega,E.F9,E.FY,E.Fs⟩
 have nF:∀k,(k=sb\/Et lv k)->¬F0 k:=λk d=>by
  rcases d with rfl|d
  ·exact I.ns
  ·exact I.nr k d
 have oF:∀k,(k=sb\/Et lv k)->FT k/\k<w.heap.size:=λk d=>by
  rcases d with rfl|d
  ·exact⟨O _ (.inr (.inl rfl)),I.Ag.lt⟩
  ·exact⟨O _ (.inr (.inr d)),I.Fu.lt d⟩
 have nS:∀k,(k=sb\/Et lv k)->¬S k:=λk d H=>nF k d (Y k (.inl (hS k (oF k d).1 H)));have nN:∀k,(k=sb\/Et lv k)->¬(z k\/F7 ab xb jb sv ov l jo k):=λk d H=>by
  rcases H with H|H
  ·rcases d3 k H with h' | h'
   ·exact nF k d (Y k (.inl h'))
   ·have:=(oF k d).2;omega
  ·exact nF k d (Y k (.inr H))
 refine⟨λk=>(z k\/F7 ab xb jb sv ov l jo k)\/Own sb lv k,⟨lv,λk=>z k\/F7 ab xb jb sv ov l jo k,⟨I.Ag.An hc (nS sb (.inl rfl)),I.Fu.An hc λg hg=>nS g (.inr hg),⟨xb,jb,sv,ov,l,jo,z,hA,λk d=>d⟩,λk d=>hA.bX d,nN sb (.inl rfl),λk d=>nN k (.inr d)⟩,λk d=>d⟩,λk d=>?_,λk d=>?_⟩
 ·rcases d with d|rfl|d
  ·exact hA.bX d
  ·exact Bm I.Ag.lt hc.Ak
  ·exact Bm (I.Fu.lt d) hc.Ak
 ·rcases d with (d|d)|rfl|d
  ·exact(d3 k d).imp (λh'=>O k (.inl (Y k (.inl h')))) id
  ·exact .inl (O k (.inl (Y k (.inr d))))
  ·exact .inl (O _ (.inr (.inl rfl)))
  ·exact .inl (O _ (.inr (.inr d)))
end
end
section
open Go.RowKit
section
variable {w w':World} {H wb b t:Nat} {aA o:Int} {R R':Kind} {P:PD} {FT aB:Nat->Prop} {puts:List Pu} {ls:List (Value×Int)} {Ad:Nat}
def Ws(d:PB P t)(ht:t<=200000):P.D.A4.length<1099511627776/\P.D.AM.length<1099511627776/\P.D.As.length<1099511627776/\∀c∈P.D.As,c.length<1099511627776:=by
 have h1:=d.CT.A4;have h2:=d.CT.AM;have h3:=d.CT.An;exact⟨by omega,by omega,by omega,λc h=>by have:=d.CT.Fi c h;omega⟩
end
section
variable {w w':World} {H wb t:Nat} {aA:Int} {puts:List Pu} {ls:List (Value×Int)}
def RE{p:Int}{d:DN}{k:Int}(h:AW p):0<=(Dj d k p).Bq/\(Dj d k p).Bq<=9223372036854775807:=by
 obtain⟨p1,p2⟩:=h;unfold Dj wrap64;dsimp only
 split<;>omega
end
end
section
open Go.RowKit
attribute [local go_sem ↓] Go.wp_at_zero Go.wp_at_succ
def DB(c n:Int):Int:=(if c<0 then -(c+1) else c) % n
def LO(c n:Int)(d:0<n):0<=DB c n/\DB c n<n:=by
 unfold DB;exact⟨Ll _ (by omega),Px _ d⟩
def SU(w:World)(c n:Int)(I:AW c)(L:0<n/\n<=9223372036854775807):
 Ah 11 #[A0 c,A0 n] w (Am (A0 (DB c n)) λw'=>w=w'):=by
 obtain⟨c1,c2⟩:=I;obtain⟨H,n2⟩:=L;have z:=LO c n H;have n0:¬n=0:=by omega
 have nm:¬n = -1:=by omega
 by_cases h:c<0
 ·have e1:IntKind.i64.wrap (c+1)=c+1:=by simp[IntKind.wrap,IntKind.bits,IntKind.signed];omega
  have e2:IntKind.i64.wrap (-(c+1)) = -(c+1):=by simp[IntKind.wrap,IntKind.bits,IntKind.signed];omega
  have d:DB c n = -((c+1).tmod n):=by unfold DB;rw[Af h,<-Pw,A3i (by omega)]
  rw[d]at z ⊢;have E:IntKind.i64.wrap (-((c+1).tmod n)) = -((c+1).tmod n):=by simp[IntKind.wrap,IntKind.bits,IntKind.signed];omega
  go_enter func11,ntmps11
  go_wp2;go_ret;exact⟨rfl,rfl⟩
 ·have d:DB c n=c % n:=by unfold DB;rw[Ac h]
  rw[d]at z ⊢;have E:IntKind.i64.wrap (c % n)=c % n:=by simp[IntKind.wrap,IntKind.bits,IntKind.signed];omega
  go_enter func11,ntmps11
  go_wp2;go_ret;exact⟨rfl,rfl⟩
def A18(w:World)(sv:Value)(k t v:Int)(L:List Pt)(h:Ah 16 #[sv,A0 k,A0 t,A0 t] w λe w'=>∃x,e=.returned (.tuple #[x,A0 0])/\CX w' x L/\A3 Aa w w'):
 Ah 13 #[sv,A0 k,A0 t,A0 v] w (Am (.bool (decide (L=[(t,v)]))) λw'=>A3 Aa w w'):=by
 have H:=A1 h;obtain⟨R,hR⟩:∃R,decide (L=[(t,v)])=R:=⟨_,rfl⟩;rw[hR];have aA:=A1 hR;clear h hR
 go_enter func13,ntmps13
 go_wp2_with (fail);refine H.m ?_;rintro e w1⟨x,rfl,O,hc⟩;have Y:=A1 hc;have HX:=A1 O;obtain⟨a,cap,rfl,E,I,hs,-⟩:=B9 O;unfold maxLen at I;clear hc H;by_cases h1:L.length=1
 ·obtain⟨g,rfl⟩:=hs (by omega);obtain⟨⟨t',v'⟩,rfl⟩:=UT.1 h1;obtain⟨q0,q1⟩:=O.bw 0 (by simp);simp only[Nat.zero_mul,Gx,JU]at q0 q1;have z:R=(decide (t'=t)&&decide (v'=v)):=by
   rw[<-aA.o];simp
  clear O hs;simp only[Pl]at E ⊢;by_cases W:t'=t
  ·by_cases h3:v'=v
   ·subst W h3;(have d:R=true:=by rw[z];simp);subst d;clear z;go_wp2;go_ret;exact⟨rfl,Y.o⟩
   ·(have d:R=false:=by rw[z];simp[h3]);subst d;clear z;(have hb:(v'==v)=false:=by simpa using h3);subst W;go_wp2;go_ret;exact⟨rfl,Y.o⟩
  ·(have d:R=false:=by rw[z];simp[W]);subst d;clear z;(have hb:(t'==t)=false:=by simpa using W);go_wp2;go_ret;exact⟨rfl,Y.o⟩
 ·have d:R=false:=by
   rw[<-aA.o,A0U];intro e;subst e;exact h1 rfl
  subst d;have hb:((L.length:Int)==1)=false:=Hc.2 (by omega);clear O hs;go_wp2;go_ret;exact⟨rfl,Y.o⟩
end
end Go.Proofs.YtodcnkbblippnabGreatDoor
