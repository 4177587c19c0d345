/- Part 21 of a proof: walks of the program. -/
import Derived.Test.YtodcnkbblippnaaGreatDoorPk20
namespace Go.Proofs.YtodcnkbblippnaaGreatDoor
set_option maxRecDepth 100000
set_option maxHeartbeats 32000000
set_option linter.defProp false
open Go.Proofs.Tryz
section
open Go.MuLone Go.RowKit
attribute [local go_sem ↓] Go.wp_at_zero Go.wp_at_succ CJ
def Zw(w:World):Eb w (λ_=>.slice none 0 0) (λ_=>[]):=
 ⟨λ_ _=>CL _ _ _ _,λ_ _=>List.Pairwise.nil,λ_ _=>by simp,λ_ _ _ _ _ g h=>by simp[Value.ownBlock]at h⟩
def Gg(o:Int)(d:List Pu):Nat->List Pt:=d.foldl (λL p=>Fm L o p.1.toNat p.2.1 p.2.2) (λ_=>[])
def OQ(o:Int)(d:List Pu)(p:Pu):Gg o (d++[p])=Fm (Gg o d) o p.1.toNat p.2.1 p.2.2:=by simp[Gg]
def OS(o:Int)(k:Nat):∀n (d:List Pu),d.length=n->(Gg o d k).length<=n
 | 0,d,h=>by obtain rfl:=GY.1 h;simp[Gg]
 | n+1,d,h=>by
  have z:d≠[]:=λe=>by subst e;simp at h
  have E:=(Nl z).symm;rw[E,OQ];have h1:=OS o k n d.dropLast (by rw[Vx];omega);have h2:=OP (Gg o d.dropLast) o (d.getLast z).1.toNat (d.getLast z).2.1 (d.getLast z).2.2 k;omega
def Zr{P:PD}{n:Int}(h:Ar.aU P=.error n):n≠0:=by
 unfold Ar.aU at h;split at h
 ·cases h;decide
 ·split at h
  ·cases h;decide
  ·split at h
   ·cases h;decide
   ·split at h
    ·rename_i d;cases h;exact d
    ·cases h
section
variable {w w' w2:World} {sb ab b B:Nat} {mu Ad aA A6:Int} {ro:Bool} {lv:Nat->Value} {L L':Nat->List Pt} {A A':Ar} {P P':PD} {F0 Ft FT:Nat->Prop} {a c m N:Nat}
def Zl(w:World)(Ad aA A6:Int)(hl:1<=Ad/\Ad<=4611686018427387904)(hw:1<=aA/\aA<=4611686018427387904)(hc:AE A6)(aL:∀k,Ft k->k<w.heap.size)(aX:∀A d,Ar.aU P=.ok (A,d)->d.length<1099511627000/\∀p∈d,0<=p.1/\p.1<8)(a6:∀E,A3 Ab w E->Af 59 #[A5 b] E λe w'=>
  (∃n,Ar.aU P=.error n/\e=.returned (.tuple #[.pointer none,.slice none 0 0,A0 n])/\A3 Ab E w')\/
  (∃A d ab v FT,Ar.aU P=.ok (A,d)/\e=.returned (.tuple #[A5 ab,v,A0 0])/\AZ w' v d/\AD w' ab b A P FT/\(∀k,FT k->Ft k\/E.heap.size<=k)/\(∀k,FT k->k<w'.heap.size)/\(∀g,v.ownBlock=some g->¬FT g/\E.heap.size<=g)/\A3 Ab E w')):
 Af 22 #[A5 b,.agg #[A0 Ad,A0 aA],A0 A6] w λe w'=>
  (∃n,Ar.aU P=.error n/\e=.returned (.tuple #[.pointer none,A0 n])/\A3 Ab w w')\/
  (∃A d ab sb,Ar.aU P=.ok (A,d)/\e=.returned (.tuple #[A5 sb,A0 0])/\w.heap.size<=sb/\Aq w Ft w' (λw' H=>SF w' sb ab b 0 Ad aA A6 false (Gg (Bc A6 Ad) d) A P H)):=by
 have aT:Hid (∀w',Af 58 #[A0 Ad] w' λe aG=>e=.returned (.bool true)/\w'=aG):=λw'=>by
  have:=TE w' Ad
  rwa [CE hl]at this
 have a1:Hid (∀w',Af 58 #[A0 aA] w' λe aG=>e=.returned (.bool true)/\w'=aG):=λw'=>by
  have:=TE w' aA
  rwa [CE hw]at this
 have hA:=(A3.I Ab w).ai (.cells #[A0 Ad,A0 aA] 48);have aF:=BO w (.cells #[A0 Ad,A0 aA] 48);generalize hw0:(w.alloc (.cells #[A0 Ad,A0 aA] 48))=w0 at hA aF;have q0:A7 w0 w.heap.size 0 (A0 Ad):=Gn aF;have q1:A7 w0 w.heap.size 1 (A0 aA):=Gn aF;have a5:=A1 (a6 w0 hA);have aQ:=A1 hA;have HLT:=A1 aL;have aY:=A1 aX;have bA:=A1 hl;have bB:=A1 hc
 go_enter func22,ntmps22
 go_wp2_with (fail);refine(aT.o _).mono ?_;rintro e w'⟨rfl,rfl⟩;go_wp2_with (fail);refine(a1.o _).mono ?_;rintro e w'⟨rfl,rfl⟩;go_wp2_with (fail);refine a5.m ?_;rintro e E (⟨n,hO,rfl,O⟩|⟨A,d,ab,v,FT,hO,rfl,hp,ha,hf1,hf2,hf3,O⟩)
 ·have hn:=Zr hO;have hnb:(n !=0)=true:=by simpa using hn
  have aV:=A1 hO;have aM:=A1 (aQ.o.tr O);go_wp2;go_ret2;exact .inl ⟨n,aV.o,rfl,aM.o⟩
 ·obtain⟨va,z,rfl,v1,v2,v3,-⟩:=B9 hp;unfold maxLen at v2;have r0:=O.ao q0;have r1:=O.ao q1;obtain⟨aO,aE⟩:=aY.o A d hO;have aM:Hid (A3 Ab w E):=aQ.o.tr O;have a4:=A1 hp;have a2:=A1 ha;have aS:Hid (∀k,FT k->Ft k\/w.heap.size<=k):=λk h=>(hf1 k h).imp id (AR aQ.o.Ao)
  have aI:=A1 hf2;have a3:=A1 hf3;have aV:=A1 hO;have aW:=A1 aO;have aR:=A1 aE;have aU:FH 0 (A5 ab) Ad aA A6 false (λ_=>.slice none 0 0) = #[.int .i32 0,.int .u32 0,A5 ab,A0 Ad,A0 aA,A0 A6,.bool false,.slice none 0 0,.slice none 0 0,.slice none 0 0,.slice none 0 0,.slice none 0 0,.slice none 0 0,.slice none 0 0,.slice none 0 0]:=rfl
  have ST:Hid (∀w2,w2=E.alloc (.cells (FH 0 (A5 ab) Ad aA A6 false (λ_=>.slice none 0 0)) 111)->
   Aq w Ft w2 (λw' H=>SF w' E.heap.size ab b 0 Ad aA A6 false (Gg (Bc A6 Ad) (d.take 0)) A P H/\∀g,(Value.slice va d.length z).oB g->¬H g)/\AZ w2 (.slice va d.length z) d):=λw2 e=>by
   subst e;have kA:A3 Ab E (E.alloc (.cells (FH 0 (A5 ab) Ad aA A6 false (λ_=>.slice none 0 0)) 111)):=(A3.I _ E).ai _;have hb:Bt (E.alloc (.cells (FH 0 (A5 ab) Ad aA A6 false (λ_=>.slice none 0 0)) 111)) E.heap.size 0 (A5 ab) Ad aA A6 false (λ_=>.slice none 0 0):=BO E _;have nS:¬FT E.heap.size:=λh=>G6 _ (aI.o _ h);refine⟨⟨(aM.o.tr kA).aa λ_ _ h=>h.elim,λk=>FT k\/Own E.heap.size (λ_=>.slice none 0 0) k,⟨⟨_,FT,⟨hb,Zw _,a2.o.au kA,λk O=>Bq (aI.o k O) kA.Ao,nS,λk O=>?_⟩,λ_ h=>h⟩,λg hg hx=>?_⟩,λk O=>?_,λk O=>?_⟩,Az a4.o λg hg=>kA.Ap g (AI a4.o hg) (λh=>h)⟩
   ·obtain⟨i,_,hi⟩:=O;simp[Value.ownBlock]at hi
   ·rcases hx with hx|rfl|⟨i,_,hi⟩
    ·exact(a3.o g hg).1 hx
    ·have:=AI a4.o hg;omega
    ·simp[Value.ownBlock]at hi
   ·rcases O with O|rfl|⟨i,_,hi⟩
    ·exact Bq (aI.o k O) kA.Ao
    ·simp
    ·simp[Value.ownBlock]at hi
   ·rcases O with O|rfl|⟨i,_,hi⟩
    ·exact aS.o k O
    ·exact .inr aM.o.Ao
    ·simp[Value.ownBlock]at hi
  have aZ:Hid (w.heap.size<=E.heap.size):=aM.o.Ao;rw[aU]at ST;have a0:=A1 (ST.o _ rfl);go_wp2;go_loopw [43] (λiv wr=>∃k:Nat,k<=d.length/\iv=A0 k/\Hid (Aq w Ft wr (λw' H=>SF w' E.heap.size ab b 0 Ad aA A6 false (Gg (Bc A6 Ad) (d.take k)) A P H/\∀g,(Value.slice va d.length z).oB g->¬H g)/\AZ wr (.slice va d.length z) d)) (λiv _=>d.length-(intOf iv).toNat)
  case atStart=>exact⟨0,by omega,by go_num,a0.o⟩
  case round=>
   obtain⟨k,O,rfl,hI⟩:=hrel;obtain⟨aB,aK⟩:∃aB,aB=wr:=⟨_,rfl⟩;subst aK;have k0:=C2 k;by_cases aD:k<d.length
   ·(have kI:(k:Int)<(d.length:Int):=by omega);obtain⟨g,o,rfl,hgl,c1,c2,c3⟩:=Hu.at hI.o.2.rd k aD;have aP:d.take (k+1)=d.take k++[d[k]'aD]:=DB aD;have aE:=aR.o _ (BY aD);have aO:=aW.o;generalize hp:(d[k]'aD)=p at c1 c2 c3 aP aE;have aH:Hid (∀w3,A3 Ab aB w3->Af 60 #[A5 E.heap.size,Dv p] w3 (Aj (.tuple #[]) λw'=>(Aq w Ft w' (λw' H=>SF w' E.heap.size ab b 0 Ad aA A6 false (Gg (Bc A6 Ad) (d.take (k+1))) A P H/\∀W,(Value.slice (some (Ac g o)) d.length z).oB W->¬H W)/\AZ w' (.slice (some (Ac g o)) d.length z) d))):=λw3 k3=>by
     obtain⟨⟨i1,F1,⟨i2,i3⟩,i4,i5⟩,i6⟩:=hI.o;have aJ:∀j,j<8->(Gg (Bc A6 Ad) (d.take k) j).length<1099511627000:=λj _=>by
      have:=OS (Bc A6 Ad) j _ (d.take k) rfl;rw[BW]at this;omega
     refine(TD w3 p (i2.au k3) aE aJ bA.o bB.o).mono ?_;rintro e w'⟨rfl,q1,a9,q2,q3,q4⟩;have aN:A3 Ft w w3:=i1.Aw k3 λ_ h _=>h.elim;have Y:∀W,(Value.slice (some (Ac g o)) d.length z).oB W->W<aB.heap.size:=λW I=>AI i6 I;refine⟨rfl,⟨aN.Aw q1 λx hx aL=>(i5 x hx).resolve_right (by omega),a9,⟨by rw[aP,OQ];exact q2,λW I hx=>?_⟩,q3,λx hx=>?_⟩,?_⟩
     ·rcases q4 W hx with hy|hy
      ·exact i3 W I hy
      ·have:=Y W I;have:=k3.Ao;omega
     ·rcases q4 x hx with hy|hy
      ·exact i5 x hy
      ·exact .inr (AR aN.Ao hy)
     ·exact Az (Az i6 λW I=>k3.Ap W (Y W I) λh=>h) λW I=>q1.Ap W (Bq (Y W I) k3.Ao) (i3 W I)
    obtain⟨p1,p2,p3⟩:=p;unfold Dv at aH;dsimp only at c1 c2 c3 aH;go_wp2_with (go_at_call 60;refine(aH.o _ ((A3.I _ aB).ai _)).mono ?_;rintro e w3⟨rfl,hS⟩;have a7:=A1 hS);go_roundw
    case rel=>exact⟨k+1,by omega,by go_num,a7.o⟩
    case measure=>simp[intOf];omega
   ·(obtain rfl:k=d.length:=by omega);have a8:=A1 hI.o.1;go_wp2;go_ret2;refine .inr ⟨A,d,ab,E.heap.size,aV.o,rfl,aZ.o,?_⟩;have h:=a8.o;rw[Cl]at h;exact h.fA λ_ _ h=>h.1
end
end
section
open Go.RowKit
attribute [local go_sem ↓] Go.wp_at_zero Go.wp_at_succ


end
section
open Go.RowKit
abbrev Kind:=World->(Nat->Prop)->Prop
def Lp(R:Kind):Prop:=∀(w w':World) (S FT:Nat->Prop),R w FT->(∀k,FT k->k<w.heap.size)->A3 S w w'->(∀k,FT k->¬S k)->R w' FT
def KD(b:Nat)(P:PD):Kind:=λw FT=>Bk w b P FT
def KS(z ab b:Nat)(Ad d A6:Int)(h:Bool)(L:Nat->List Pt)(A:Ar)(P:PD):Kind:=λw FT=>SF w z ab b 0 Ad d A6 h L A P FT
def KD.Fh(b:Nat)(P:PD):Lp (KD b P):=λ_ _ _ _ h z H E=>Bk.aP h λk d=>H.Ap k (z k d) (E k d)
def KS.Fh(W ab b:Nat)(Ad d A6:Int)(E:Bool)(L:Nat->List Pt)(A:Ar)(P:PD):Lp (KS W ab b Ad d A6 E L A P):=λw w' S FT h hl Y O=>by
 obtain⟨lv,F0,I,z⟩:=h;exact⟨lv,F0,I.Ak Y λk H=>O k (z k H),z⟩
def SF.dk{w:World}{sb ab b:Nat}{Y Ad d A6:Int}{H:Bool}{L:Nat->List Pt}{A:Ar}{P:PD}{FT:Nat->Prop}(h:SF w sb ab b Y Ad d A6 H L A P FT):∃Ft,Bk w b P Ft/\(∀k,Ft k->k<w.heap.size)/\∀k,Ft k->FT k:=by
 obtain⟨lv,F0,W,E⟩:=h;obtain⟨xb,jb,sv,ov,l,jo,Ft,z,O⟩:=W.ar;exact⟨Ft,z.dk,z.lt,λk I=>E k (.inl (O k (.inl I)))⟩
end
section
open Go.RowKit
attribute [local go_sem ↓] Go.wp_at_zero Go.wp_at_succ
def A3.bj{S:Nat->Prop}{a b c:World}(h:A3 Ab a b)(k:A3 S b c)(d:∀x,S x->a.heap.size<=x):A3 Ab a c:=h.Aw k λx z hlt=>by have:=d x z;omega
end
section
open Go.RowKit
def Env(B:Nat)(w:World):Prop:=Lets B w/\HU w/\1<B/\2<B
def Env.aj{B:Nat}{w w':World}{S:Nat->Prop}(h:Env B w)(H:A3 S w w')(z:∀k,S k->B<=k):Env B w':=by
 obtain⟨E,⟨⟨Y,a1,W⟩,e2,a2,b2⟩,O,I⟩:=h;refine⟨E.aj H z,⟨⟨Y,?_,W⟩,e2,?_,b2⟩,O,I⟩
 ·rw[<-a1];have:=H.Ap 1 (Bq O E.1) λd=>by have:=z _ d;omega
  simp only[World.cell?,this]
 ·rw[<-a2];have:=H.Ap 2 (Bq I E.1) λd=>by have:=z _ d;omega
  simp only[World.cell?,this]
def Env.aM{B:Nat}{w w':World}(h:Env B w)(d:A3 Ab w w'):Env B w':=h.aj d λ_ h=>h.elim
def L4{n:Int}(h:isNum n=true):CM n:=by
 unfold isNum at h;simp at h;exact HH (by omega) h.2
def Zy{I:Int×Int}{nm:Bs}(h:F8 I nm):nm.length<=281474976710656:=by
 have H:∀(c:UInt8) (n:Int),1<=n->n<=4611686018427387904->(c::(Lib.repeatL [48] (19-(Lib.itoa n).length)++Lib.itoa n)).length<=281474976710656:=λc n d E=>by
  rw[KQ d E,Cx,Mh];omega
 by_cases E:(Bg nm).1=1
 ·obtain⟨⟨a,b⟩,e⟩:=OI E;rw[<-e,IU];exact H _ _ a b
 ·by_cases z:(Bg nm).1=2
  ·obtain⟨⟨a,b⟩,e⟩:=OG z;rw[<-e,Ib];exact H _ _ a b
  ·have d:=h.1;unfold Bg at d E z;cases hx:E7 [108] nm with
   | some v=>rw[hx]at E;exact absurd rfl E
   | none=>
    rw[hx]at d z;dsimp only at d z;unfold H7 at d z;cases hy:E7 [115] nm with
    | some v=>rw[hy]at z;exact absurd rfl z
    | none=>
     rw[hy]at d;dsimp only at d;unfold H6 Ic at d;split at d
     ·rename_i e;subst e;decide
     ·split at d
      ·rename_i e;subst e;decide
      ·exact absurd rfl d
def RV:∀(k s:Nat) (l:List UInt8),(DE k s l).1.length*21<=l.length
 | 0,_,_=>by simp[DE]
 | k+1,s,l=>by
  unfold DE;split
  ·simp
  ·rename_i hl;split
   ·have:=RV k (AW s (l.take 17)) (l.drop 21);rw[Cw]at this;simp only[Cx];omega
   ·simp
def ZY{P:PD}{a c m:Nat}(z:Fit P a c m)(n d:Int):(P.aX n d).1.length*21<=m:=by
 have key:∀l:List UInt8,l.length<=m->∀s,(Ga s d l).1.length*21<=m:=λl hl s=>by
  unfold Ga;split
  ·simp
  ·split
   ·split
    ·have:=RV l.length (AW s (l.take 8)) (l.drop 12);rw[Cw]at this;dsimp only;omega
    ·simp
   ·simp
 unfold PD.aX Gz;split
 ·simp
 ·refine key _ ?_ _;unfold DQ;split
  ·rename_i f h;exact z.B5 f (G0 h)
  ·exact Cq _
def YK{P:PD}{a c m:Nat}(z:Fit P a c m)(l:List Int):(P.puts l).1.length*21<=l.length*m:=by
 have key:∀(l:List Int) (d:List Pu),(P.bp l d).1.length*21<=d.length*21+l.length*m:=by
  intro l
  induction l with
  | nil=>intro d;simp[PD.bp]
  | cons n r ih=>
   intro d;unfold PD.bp;split
   ·simp
   ·have h:=ih (d++(P.aX n d.length).1);have h2:=ZY z n d.length;rw[B1]at h;rw[Cx,HN];omega
 have:=key l [];simpa[PD.puts] using this
section
variable {w:World} {B sb ab b:Nat} {Ad aA A6:Int} {L:Nat->List Pt} {A:Ar} {P:PD} {FT:Nat->Prop} {puts:List Pu} {A8 t N:Nat} {o:Int}
def S1(w:World)(p:Pu)(h:SF w sb ab b 0 Ad aA A6 false L A P FT)(E:∀k,FT k->k<w.heap.size)(d:St t A P puts A8 o false)(ht:t+1<=200000)(hp:Bh p)(hL:Lets B w)(I:∀k,FT k->B<=k)(O:∀k,k<8->(L k).length<=t)(hl:1<=Ad/\Ad<=4611686018427387904)(hc:AE A6):
 Af 23 #[A5 sb,A0 p.1,A0 p.2.1,A0 p.2.2] w (Aj (A0 (A.ad P p).2.1) λw'=>
  Aq w FT w' (λw' z=>SF w' sb ab b 0 Ad aA A6 (decide ((A.ad P p).2.1≠0)) (if (A.ad P p).1=true then Fm L (Bc A6 Ad) p.1.toNat p.2.1 p.2.2 else L) (A.ad P p).2.2.1 (A.ad P p).2.2.2 z)):=by
 obtain⟨sg,cl,ol,H,_⟩:=d.si rfl;have W:=H.bF d.pb d.B5 (by omega);have hj:=W.j;exact YM w p h E hp (λ_=>⟨HH (by omega) (by omega),by constructor<;>omega,H.AX.dw H.CO⟩) (by have:=W.Am;omega) hL I d.pb.CQ ⟨by omega,by omega,by omega⟩ (λk Y=>by have:=O k Y;omega) hl hc
def WM(w:World)(h:SF w sb ab b 0 Ad aA A6 false L A P FT)(_hFT:∀k,FT k->k<w.heap.size)(O:Lets B w)(d:∀k,FT k->B<=k):
 Af 31 #[A5 sb] w (Aj (A0 (A.ae P).1) λw'=>Aq w FT w' (λw' z=>SF w' sb ab b 0 Ad aA A6 (decide ((A.ae P).1≠0)) L (A.ae P).2.1 (A.ae P).2.2 z)):=
 WO w (A.ae P).1 h O d (A':=(A.ae P).2.1) (P':=(A.ae P).2.2) λE _ I H _ _=>A3p E I H
def Xo{L:Nat->List Pt}(h:∀k,Dz (L k))(o:Int)(k:Nat)(t v:Int):∀i,Dz (Fm L o k t v i):=λi=>by
 unfold Fm;split
 ·unfold H3;split
  ·exact L8 (h k) _ _
  ·exact h i
 ·exact h i
def Yq(Ad A6:Int)(h:List Pu)(hp:∀p∈h,Bh p):Rel (Gg (Bc A6 Ad) h) h Ad A6:=by
 have key:∀n (l:List Pu),l.length=n->(∀p∈l,Bh p)->Rel (Gg (Bc A6 Ad) l) l Ad A6/\∀k,Dz (Gg (Bc A6 Ad) l k):=by
  intro n
  induction n with
  | zero=>
   intro l d _;obtain rfl:=GY.1 d;exact⟨Rel.bT Ad A6,λ_=>List.Pairwise.nil⟩
  | succ n ih=>
   intro l d z;rcases LI l with rfl|⟨r,p,rfl⟩
   ·cases d
   ·rw[VI]at d z ⊢;obtain⟨i1,H⟩:=ih r (by simpa using d) λx hx=>z x (FN _ hx);have E:=z p (by simp);rw[OQ];obtain⟨k,t,v⟩:=p;obtain⟨⟨Y,W⟩,I,_⟩:=E;dsimp only at Y W I ⊢;obtain⟨O,rfl⟩:∃O:Nat,k=O:=⟨k.toNat,by omega⟩;exact⟨i1.aw (λj _=>H j) (by omega) I,Xo H _ _ _ _⟩
 exact(key _ h rfl hp).1
def Ts{I H:List (Int×List Pu)}{E:Option (List Pu)}(h:Lay P A I H E):∀n∈A.j.Am,CM n:=λn z=>by
 rw[h.bS]at z;obtain⟨x,d,rfl⟩:=Cr.1 z;cases E with
 | none=>exact L4 (h.CW x d).1.1
 | some l=>
  rcases AV.1 d with d|d
  ·exact L4 (h.CW x d).1.1
  ·simp at d;subst d;exact L4 h.AB.2.2.2.2
def JK{x y a b:Nat}(h:x<=a)(d:y<=b){c:Nat}(z:a*b<=c):x*y<=c:=AR (N9 h d) z
def U6(W:DU N)(hN:N<=200000)(w:World)(h:SF w sb ab b 0 Ad aA A6 false L A P FT)(Y:∀k,FT k->k<w.heap.size)(E:St t A P puts A8 o false)(ht:t+1<=200000)(hpN:puts.length<=N)(hw:1<=aA/\aA<=4611686018427387904)(hL:Lets B w)(aB:∀k,FT k->B<=k):
 Af 24 #[A5 sb] w (Aj (A0 (A.aS P aA).1) λw'=>Aq w FT w' (λw' I=>SF w' sb ab b 0 Ad aA A6 (decide ((A.aS P aA).1≠0)) L (A.aS P aA).2.1 (A.aS P aA).2.2 I)):=by
 obtain⟨sg,cl,ol,z,_⟩:=E.si rfl;have d:=z.bF E.pb E.B5 (by omega);have hj:=d.j;have hs:=d.s;have hsg:=d.segs;have hlg:=d.Am;have hall:=z.Cp.2.2;have hl0:(B7 sg cl ol).length=(Ax sg).length+(Ax cl++ol.getD []).length:=by unfold B7;rw[B1]
 have hp:=z.AX.puts z.CO;refine A1L w (A.aS P aA).1 h Y hL aB (A':=(A.aS P aA).2.1) (P':=(A.aS P aA).2.2) λw1 F0 hA h0 O H=>?_;exact A3r W (by omega) w1 hA h0 aA hw (by rw[hp];dsimp only;omega) (by rw[hp];exact z.AX.bZ) ⟨hs.1,by omega⟩ (by constructor<;>omega) (λx hx=>OW (z.AX.DG.segs x hx)) E.pb.CQ ⟨by omega,by omega,by omega⟩
  (JK (a:=200000) (b:=8001000) (by omega) (by omega) (by decide)) (by omega) (λn hn=>L4 (z.AX.DG.segs n hn)) (Ts z.AX) (by omega) O H
def A2C(aB:DU N)(hN:N<=200000)(w:World)(h:SF w sb ab b 0 Ad aA A6 false L A P FT)(aD:∀k,FT k->k<w.heap.size)(I:St t A P puts A8 (Bc A6 Ad) false)(ht:t+1<=200000)(hpN:puts.length<=N)(hw:1<=aA/\aA<=4611686018427387904)(hL:Lets B w)(aE:∀k,FT k->B<=k)(hl:1<=Ad/\Ad<=4611686018427387904)(hc:AE A6):
 Af 25 #[A5 sb] w (Aj (A0 (A.aQ P aA (Bc A6 Ad)).1) λw'=>
  Aq w FT w' (λw' W=>SF w' sb ab b 0 Ad aA A6 (decide ((A.aQ P aA (Bc A6 Ad)).1≠0)) L (A.aQ P aA (Bc A6 Ad)).2.1 (A.aQ P aA (Bc A6 Ad)).2.2 W)):=by
 obtain⟨sg,cl,ol,d,_⟩:=I.si rfl;have z:=d.bF I.pb I.B5 (by omega);have hj:=z.j;have hs:=z.s;have hsg:=z.segs;have hlg:=z.Am;have hall:=d.Cp.2.2;have H:=d.AX.puts d.CO;refine A2D w (A.aQ P aA (Bc A6 Ad)).1 h aD hL aE hl hc (A':=(A.aQ P aA (Bc A6 Ad)).2.1) (P':=(A.aQ P aA (Bc A6 Ad)).2.2) λw1 F0 hA h0 Y O=>?_;refine A3s aB (by omega) w1 hA h0 aA (Bc A6 Ad) hw (λsegs E=>?_) ⟨by omega,JK (a:=200000) (b:=8001000) (by omega) (by omega) (by decide)⟩ ⟨hs.1,by omega⟩ (by constructor<;>omega) (λx hx=>OW (d.AX.DG.segs x hx)) I.pb.CQ ⟨by omega,by omega,by omega⟩
  (JK (a:=200000) (b:=8001000) (by omega) (by omega) (by decide)) (λn hn=>L4 (d.AX.DG.segs n hn)) (Ts d.AX) (by omega) Y O
 rw[d.AX.b8]at E;cases E;have e:sg.flatMap (·.2)++(P.puts A.j.Am).1=B7 sg cl ol:=by rw[H];rfl
 rw[e];refine⟨by omega,λp H=>?_⟩;rcases AV.1 H with H|H
 ·exact d.AX.cT p H
 ·exact d.AX.bZ p H
def SE(w:World)(Ft:Nat->Prop)(hd:Bk w b P Ft)(z:∀k,Ft k->k<w.heap.size)(H:PB P t)(aB:DI (Cv t) P puts A8 (Bc A6 Ad))(hr:Reads (Cv t) P puts (Bc A6 Ad))(hq:∀p∈puts,Bh p)(Y:puts.length<=t)(aG:A8<=puts.length)(E:P.D.n.AF=false)(ht:t<=200000)(hE:Env B w)(hl:1<=Ad/\Ad<=4611686018427387904)(hw:1<=aA/\aA<=4611686018427387904)(hc:AE A6):
 Calls Tryz.prog 22 #[.pointer (some ⟨b,0,none⟩),.agg #[.int .i64 Ad,.int .i64 aA],.int .i64 A6] w λe w'=>
  ∃A ab sb L,e=.returned (.tuple #[.pointer (some ⟨sb,0,none⟩),.int .i64 0])/\w.heap.size<=sb/\(∃ps,Ar.aU P=.ok (A,ps))/\St t A P puts A8 (Bc A6 Ad) false/\Rel L puts Ad A6/\(∀k,k<8->(L k).length<=t)/\Aq w Ft w' (λw' aE=>SF w' sb ab b 0 Ad aA A6 false L A P aE):=by
 obtain⟨A,ps,h1,h2,h3,h4⟩:=St.aU H aB hr hq Y aG E ht;obtain⟨sg,cl,ol,hI,_⟩:=h2.si rfl;have I:=hI.bF H Y (by omega);have hpl:=h3.2.2;have O:=hI.AX.a8;refine(Zl w Ad aA A6 hl hw hc z (P:=P) (Ft:=Ft) (b:=b) (λA' aF h=>by rw[h1]at h;cases h;exact⟨by omega,λp H=>(h4 p H).1⟩) λw1 hk=>?_).mono ?_
 ·have W:=hE.aM hk;refine A3q w1 (B3.ay hd z hk) (λk aD=>Bq (z k aD) hk.Ao) H.CQ ⟨by omega,by omega,by omega⟩ (JK (a:=600020) (b:=8001000) (by omega) (by omega) (by decide)) W.1 W.2.1 (λnm hm=>Zy (aB.Ay nm λe=>H5.1 hm (Iq.2 e))) (λix hx=>?_) (λd=>?_)
  ·rw[O]at hx;cases hx;have:=I.segs;exact⟨by omega,JK (a:=200000) (b:=8001000) (by omega) (by omega) (by decide)⟩
  ·have h5:=YK H.CQ (BS d P.Ay);have h6:=Mn d P.Ay;have h7:=I.Ay;have h8:(BS d P.Ay).length*(40*t+1000)<=4800760020000:=JK (a:=600020) (b:=8001000) (by omega) (by omega) (by decide);omega
 ·rintro e w' (⟨n,q1,-⟩|⟨A',aF,ab,sb,q1,rfl,q2,q3⟩)
  ·rw[h1]at q1;cases q1
  ·rw[h1]at q1;cases q1;refine⟨A,ab,sb,_,rfl,q2,⟨_,h1⟩,h2,?_,λk hk=>AR (OS _ k _ ps rfl) (by omega),q3⟩;exact Yp (Yq Ad A6 ps h4) hq h3
end
end
section
open Go.MuLone Go.RowKit
attribute [local go_sem ↓] Go.wp_at_zero Go.wp_at_succ CJ
section
variable {w w' w2:World} {sb ab b:Nat} {mu Ad aA A6:Int} {ro:Bool} {lv:Nat->Value} {L:Nat->List Pt} {A:Ar} {P:PD} {F0 FT:Nat->Prop}
def S2(w:World)(k t v:Int)(h:SF w sb ab b 0 Ad aA A6 true L A P FT)(aB:∀k,FT k->k<w.heap.size)(hk:0<=k/\k<8):
 Af 23 #[A5 sb,A0 k,A0 t,A0 v] w (Aj (A0 4) λw'=>Aq w FT w' (λw' z=>SF w' sb ab b 0 Ad aA A6 true L A P z)):=by
 have aF:Hid (∀w',Af 63 #[A0 k] w' λe E=>e=.returned (.bool true)/\w'=E):=λw'=>by
  have:=Ms w' k
  rwa [CE hk]at this
 have Y:=UK w sb k t v;have O:=UL w sb k t v;generalize aE:boxed w sb k t v=w0 at Y O;unfold boxed at aE;have hV:=h.au Y;have H:=hV.bM;have I:Jd (w0.sC sb 0 (.int .i32 1)) w.heap.size sb k t v:=O.Ak H.1 λi _ hx=>by have:=aB _ hx;omega
 have d:Hid (Aq w FT (w0.sC sb 0 (.int .i32 1)) (λw' z=>SF w' sb ab b 1 Ad aA A6 true L A P z)):=H.a6 Y;have aH:Hid (∀W,Af 64 #[A5 sb,W] (w0.sC sb 0 (.int .i32 1)) (Aj (A0 4) λw'=>(w0.sC sb 0 (.int .i32 1))=w')):=λW=>by
  obtain⟨k1,F1,s1,s2,s3⟩:=d.o;obtain⟨lv,F0,q,-⟩:=s1;exact UG _ W q.Ag
 have c0:A7 w0 sb 0 (.int .i32 0):=by obtain⟨lv,F0,q,-⟩:=hV;exact q.Ag.c0
 have f0:w0.frozen? (Ac sb 0)=false:=by obtain⟨lv,F0,q,-⟩:=hV;exact q.Ag.fz 0
 obtain⟨x0,x1,x2,x3⟩:=O;obtain⟨y0,y1,y2,y3⟩:=I
 go_enter_defers func23,ntmps23
 go_wp2_with (fail);refine(J0 Tryz.bu (Ac sb 0) _ c0 f0).mono ?_;rintro e w'⟨rfl,rfl⟩;go_wp2_with (go_at_call 63;refine(aF.o _).mono ?_;rintro e w'⟨rfl,rfl⟩);refine(aH.o _).mono ?_;rintro e w2⟨rfl,rfl⟩;go_wp2;refine J2 (f:=62) (args:=#[A5 sb]) (by simp) (by simp[go_sem]) ?_;refine(IC Tryz.bu (Ac sb 0) .returning _ ?_ ?_).mono ?_
 ·obtain⟨-,aG,⟨aD,aI,a1,-⟩,-,-⟩:=d.o;exact a1.Ag.c0
 ·obtain⟨-,aG,⟨aD,aI,a1,-⟩,-,-⟩:=d.o;exact a1.Ag.fz 0
 rintro e u' E⟨rfl,rfl,rfl⟩;exact⟨_,M8 rfl _ _ _,rfl,SFto.Di d.o 0 _ λlv h=>h.s0 0⟩
def SF.dB{n:Int}{w2:World}(h:Aq w FT w2 (λw' d=>SF w' sb ab b 1 Ad aA A6 ro L A P d)):Aq w FT (w2.setCell (Ac sb 0) (.int .i32 n)) (λw' d=>SF w' sb ab b n Ad aA A6 ro L A P d):=SFto.Di h 0 _ λ_ h=>h.s0 n
def O7(z:World)(h:SF z sb ab b 0 Ad aA A6 true L A P FT)(E:Value):
 Calls Tryz.prog 64 #[.pointer (some ⟨sb,0,none⟩),E] (z.setCell ⟨sb,0,none⟩ (.int .i32 1)) λe w'=>e=.returned (.int .i64 4)/\w'.cell? ⟨sb,0,none⟩=some (.int .i32 1)/\w'.frozen? ⟨sb,0,none⟩=false/\Aq z FT w' (λw' d=>SF w' sb ab b 1 Ad aA A6 true L A P d):=by
 have I:=h.bM;obtain⟨H,W,s1,s2,s3⟩:=I;obtain⟨lv,F0,q,O⟩:=s1;refine(UG _ E q.Ag).mono ?_;rintro e w'⟨rfl,rfl⟩;exact⟨rfl,q.Ag.c0,q.Ag.fz 0,H,W,⟨lv,F0,q,O⟩,s2,s3⟩
def U7(w:World)(h:SF w sb ab b 0 Ad aA A6 true L A P FT)(_hFT:∀k,FT k->k<w.heap.size):
 Af 24 #[A5 sb] w (Aj (A0 4) λw'=>Aq w FT w' (λw' d=>SF w' sb ab b 0 Ad aA A6 true L A P d)):=by
 obtain⟨c0,f0,W,-⟩:=h.c0;refine(QZ w 4 (λw'=>Aq w FT w' (λw' d=>SF w' sb ab b 1 Ad aA A6 true L A P d)) c0 f0 W λw1 E=>?_).mono ?_
 ·subst E;have H:=(A3.I Ab w).ai (.cells #[A5 sb] 36);refine(O7 _ (h.au H) _).mono ?_;rintro e w'⟨rfl,I,z,O⟩;exact⟨rfl,I,z,O.a6 H⟩
 ·rintro e w'⟨rfl,w2,z,rfl⟩;exact⟨rfl,SF.dB z⟩
def A2E(w:World)(h:SF w sb ab b 0 Ad aA A6 true L A P FT)(_hFT:∀k,FT k->k<w.heap.size):
 Af 25 #[A5 sb] w (Aj (A0 4) λw'=>Aq w FT w' (λw' d=>SF w' sb ab b 0 Ad aA A6 true L A P d)):=by
 obtain⟨c0,f0,W,-⟩:=h.c0;refine(R5 w 4 (λw'=>Aq w FT w' (λw' d=>SF w' sb ab b 1 Ad aA A6 true L A P d)) c0 f0 W λw1 E=>?_).mono ?_
 ·subst E;have H:=(A3.I Ab w).ai (.cells #[A5 sb] 36);refine(O7 _ (h.au H) _).mono ?_;rintro e w'⟨rfl,I,z,O⟩;exact⟨rfl,I,z,O.a6 H⟩
 ·rintro e w'⟨rfl,w2,z,rfl⟩;exact⟨rfl,SF.dB z⟩
def WQ(w:World)(h:SF w sb ab b 0 Ad aA A6 true L A P FT):
 Af 31 #[A5 sb] w (Aj (A0 4) λw'=>Aq w FT w' (λw' d=>SF w' sb ab b 0 Ad aA A6 true L A P d)):=by
 obtain⟨c0,f0,hz,-⟩:=h.c0;have z:=h.bM;have c2:A7 (w.sC sb 0 (.int .i32 1)) sb 2 (A5 ab):=by
  obtain⟨k1,F1,s1,s2,s3⟩:=z;exact s1.c0.2.2.2
 refine(QY w 4 (λw'=>Aq w FT w' (λw' d=>SF w' sb ab b 1 Ad aA A6 true L A P d)) c0 f0 c2 (O7 _ h _)).mono ?_;rintro e w'⟨rfl,w2,E,rfl⟩;exact⟨rfl,SF.dB E⟩
end
end
section
open Go.RowKit
attribute [local go_sem ↓] Go.wp_at_zero Go.wp_at_succ
def A2y(w:World)(b:Nat)(D:DS)(F:Nat->FC)(Ft:Nat->Prop)(h:Db w b D F Ft)(hs:D.A4.length<549755813888/\D.AP.length<549755813888/\∀l∈D.Av,l.length<1099511627776)(b0:∀l:List Nat,l.Nodup->(∀f∈l,D.Au f)->l.length<1099511627776)(hs2:D.Av.length<1099511627776)(hF:∀f,D.Au f->(F f).1.length<=1099511627776):
 Af 47 #[A5 b] w λe w'=>∃b2 r bK aL,e=.returned (A5 b2)/\Db w' b2 (D.ren r) bK aL/\(∀k,aL k->w.heap.size<=k/\k<w'.heap.size)/\A3 Ab w w'/\
  (∀f,D.Au f->bK (r f)=F f)/\∀f f',D.Au f->D.Au f'->r f=r f'->f=f':=by
 obtain⟨vd,vs,vc,vals,bN,Y,hft⟩:=h;obtain⟨hsA,hsB,b1⟩:=hs;have b8:=A1 b1;have b4:=A1 b0;have aA:=A1 Y;have bQ:=A1 hF;have c0:=Y.Ag.c0;have c1:=Y.Ag.c1;have c2:=Y.Ag.c2;have c3:=Y.Ag.c3;have c4:=Y.Ag.c4;have c5:=Y.Ag.c5;have c6:=Y.Ag.c6;have c7:=Y.Ag.c7;have c8:=Y.Ag.c8;have c9:=Y.Ag.c9;have c10:=Y.Ag.bY;obtain⟨ac,pc,rfl,hc1,bV,aJ,hcnone,hcform⟩:=B9 Y.Ak;unfold maxLen at bV;have aX:=A1 aJ
 have cB:Hid (∀(vl:Value) (es:List AO) (W:World) (L M:List Nat) (vo vm:Value) (aS:Nat->Value),D3 w vl es->(∀f,Dg f es->D.Au f)->es.length<1099511627776->A3 Ab w W->CS w.heap.size W (w.heap.size+1) (w.heap.size+2) F L M vo vm aS->L.length<1099511627776->
  Af 87 #[vl,A5 (w.heap.size+1),A5 (w.heap.size+2)] W λe w'=>∃v cF cC a8 bA a9 bS,e=.returned v/\Ey w.heap.size W (w.heap.size+1) (w.heap.size+2) F L M vo vm aS es es.length es.length v w' cF cC a8 bA a9 bS):=
  λvl es W L M vo vm aS h1 h2 h3 h4 h5 h6=>Z9 aA.o h4 h5 h1 h2 bQ.o ⟨h3,h6⟩
 have b7:Hid (∀W,A3 Ab w W->W.cell? (Ac b 0)=some vd/\W.cell? (Ac b 1)=some vs):=λW hc=>
  ⟨(DT (hc.Ap b aA.o.Ag.lt (λh=>h))).trans aA.o.Ag.c0,(DT (hc.Ap b aA.o.Ag.lt (λh=>h))).trans aA.o.Ag.c1⟩
 have bC:w.heap.size≠b:=by have:=aA.o.Ag.lt;omega
 go_enter func47,ntmps47
 go_wp2;refine Kr 33 (by kernel_rfl) (by kernel_rfl) ?_;simp only[Ln,Fa,EV,DJ,Dq]
 repeat still_step
 refine Ks ?_;go_wp2;generalize bX:(((w.alloc (.cells #[.slice none 0 0,.slice none 0 0,.slice none 0 0,A0 D.n.AG,A0 D.n.AY,A0 D.n.BX,A0 D.n.BV,A0 D.n.Bv,A0 D.n.Bm,A0 D.n.fulls,.bool D.n.AF] 95)).alloc (.cells #[.slice none 0 0] 138)).alloc (.cells #[.slice none 0 0] 138)).drew=W1;obtain⟨bW,cA,a7⟩:=A2x w D.n F bN W1 bX.symm;have b3:=A1 cA;have aD:=A1 bW;have I:=A1 a7;refine FQ (λw'=>w'.cell? (Ac b 0)=some vd/\w'.cell? (Ac b 1)=some vs) 17
  (Br [0,1,2,3,4,5,6,8,9,10,11,12,7,13,14,15,16] [7,13,16]) (by kernel_rfl) (by kernel_rfl) (λ_ _ _ _ _ h=>h) (b7.o _ I.o.af) ?_
 iterate 12 (refine Ec (v:=?_) rfl (by rfl) ?_ ?_;rotate_left;(· (intro w' O;(try dsimp only at O);go_simp;try with_reducible rfl));(try simp only[An]))
 refine DY rfl (by rfl) (λK hK=>?_);go_simp;refine(cB.o vd D.A4 _ _ _ _ _ _ aA.o.A4 (λf hf=>.inl hf) (by omega) I.o.af (aD.o.Ak (A3.I Ab W1).af (λ_ _ h=>h) (λ_ _ h=>h)) (by simp)).mono ?_;rintro e w2⟨v1,L,M,vo,vm,a9,e1,rfl,aN⟩;obtain⟨a1,k1,rfl,-⟩:=D3.Cg aN.EP;have aQ:=A1 aN;have aR:=A1 <| aN.cF I.o.af (aD.o.Ak (A3.I Ab W1).af (λ_ _ h=>h) (λ_ _ h=>h));have hL:L.length<=D.A4.length:=by
  obtain⟨o,q1,q2,_⟩:=aN.GA;rw[q1];simpa using q2
 refine hK _ _ (b7.o _ aR.o) (λO=>?_)
 (try simp only[An])
 refine DY rfl (by rfl) (λK hK=>?_);go_simp;refine(cB.o vs D.AP _ _ _ _ _ _ aA.o.AP (λf hf=>.inr (.inl hf)) (by omega) aR.o aQ.o.cs (by omega)).mono ?_;rintro e w3⟨v2,cF,cC,a8,bA,VB3,e2,rfl,aT⟩;obtain⟨a2,k2,rfl,-⟩:=D3.Cg aT.EP;have a4:Hid (A3 Ab w w3):=aT.cF aR.o aQ.o.cs;have aK:=A2w (aD.o.Ak (A3.I Ab W1).af (λ_ _ h=>h) (λ_ _ h=>h)) ((b3.o:AN W1.drew _ _ _ _ _)) I.o.af aQ.o aT;have z0:=aK.1.c0;have z1:=aK.1.c1;have zf:=aK.1.fz;have bJ:=A1 aK.2;refine hK _ _ (b7.o _ a4.o) (λO=>?_);obtain⟨s0,s1⟩:=O
 (try simp only[An])
 iterate 2 (refine Ec (v:=?_) rfl (by rfl) ?_ ?_;rotate_left;(· (intro w' O;(try dsimp only at O);go_simp;try with_reducible rfl));(try simp only[An]))
 refine DY rfl (by rfl) (λK hK=>?_);go_simp;refine hK _ _ ?_ (λO=>?_)
 ·simp[World.cell?_setCell_far,bC,s0,s1]
 (try simp only[An])
 have c2b:w3.cell? (Ac b 2)=some (.slice ac D.Av.length pc):=(DT (a4.o.Ap b aA.o.Ag.lt (λh=>h))).trans c2;refine Bl ?_;simp only[DJ,Dq];go_wp2;generalize hW4:(w3.setCell (Ac w.heap.size 0) (.slice a1 e1.length k1)).setCell (Ac w.heap.size 1) (.slice a2 e2.length k2)=W4 at bJ ⊢;go_loopw [67] (λiv wr=>∃i:Nat,i<=D.Av.length/\iv=A0 i/\Hid (∃L M vo vm z bN d cs,CR w.heap.size w wr w.heap.size (w.heap.size+1) (w.heap.size+2) D F i L M vo vm (.slice a1 e1.length k1) (.slice a2 e2.length k2) z bN d e1 e2 cs)) (λiv _=>D.Av.length-(intOf iv).toNat)
 case atStart=>exact⟨0,Cq _,rfl,_,_,_,_,_,_,_,_,bJ.o⟩
 case round=>
  obtain⟨i,hi,rfl,bI⟩:=hrel;by_cases aG:i<D.Av.length
  ·obtain⟨bL,cD,a3,bE,z,bF,d,cs,k0⟩:=bI.o;have aI:=A1 k0;obtain⟨gc,rfl⟩:=aX.o (by omega);obtain⟨vk,bY,bB⟩:=aA.o.Da i aG;have bR:=AI aA.o.Ak (g:=gc) rfl;have m1:wr.cell? (Ac gc i)=some vk:=(DT (k0.Ak.Ap gc bR (λh=>h))).trans (BF aA.o.Ak (g:=gc) rfl bY);obtain⟨E,H,rfl,hk1,hk2,-⟩:=D3.Cg bB;have bD:=A1 bB;obtain⟨es,aF⟩:∃es,D.Av[i]'aG=es:=⟨_,rfl⟩;(have bG:es.length<1099511627776:=by rw[<-aF];exact b8.o _ (BY aG));have bO:bL.length<1099511627776:=b4.o _ k0.GF.I9 k0.Tp;rw[aF]at bD;have b6:=A1 aF;have aY:Hid (∀f,Dg f es->D.Au f):=λf hf=>.inr (.inr ⟨_,BY aG,aF ▸ hf⟩);have hi0:=C2 i;(have hi1:(i:Int)<(D.Av.length:Int):=by omega);rw[aF]at m1;obtain⟨p0,hp,b9,b5,bZ⟩:=E9 Tryz.ef;have hsz:w.heap.size<wr.heap.size:=aI.o.Ag.lt;have aM:Hid (CS w.heap.size ((wr.alloc (.cells #[.slice E es.length H] 120)).drew) (w.heap.size+1) (w.heap.size+2) F bL cD a3 bE bF):=aI.o.GF.Ak ((A3.I Ab wr).ai (.cells #[.slice E es.length H] 120)).af (λ_ _ h=>h) (λ_ _ h=>h);have bM:Hid (A3 Ab w ((wr.alloc (.cells #[.slice E es.length H] 120)).drew)):=(aI.o.Ak.ai (.cells #[.slice E es.length H] 120)).af;have aZ:=BO wr (.cells #[.slice E es.length H] 120);(have n0:(wr.alloc (.cells #[.slice E es.length H] 120)).cell? (Ac wr.heap.size 0)=some (.slice E es.length H):=by unfold World.cell?;rw[aZ];rfl);have n1:(wr.alloc (.cells #[.slice E es.length H] 120)).cell? (Ac w.heap.size 2)=some z:=(aI.o.Ag.ai (.cells #[.slice E es.length H] 120)).c2;have cE:=A1 aZ;go_wp2;refine FQ (λw'=>w'.cell? (Ac w.heap.size 2)=some z/\w'.cell? (Ac wr.heap.size 0)=some (.slice E es.length H)) 12
    (Br [0,1,2,3,4,5,6,7,8,9,10,11] [8,10,11]) (by kernel_rfl) (by kernel_rfl) (λ_ _ _ _ _ h=>h) ⟨n1,n0⟩ ?_
   iterate 8 (refine Ec (v:=?_) rfl (by rfl) ?_ ?_;rotate_left;(· (intro w' O;(try dsimp only at O);go_simp;try with_reducible rfl));(try simp only[An]))
   refine DY rfl (by rfl) (λK hK=>?_);go_simp;refine(cB.o _ es _ _ _ _ _ _ bD.o aY.o bG bM.o aM.o bO).mono ?_;rintro e w5⟨v5,L5,M5,vo5,vm5,VB5,aE,rfl,aB⟩;obtain⟨a5,k5,rfl,-⟩:=D3.Cg aB.EP;have bT:=A1 aB;have bH:AN w5 w.heap.size (.slice a1 e1.length k1) (.slice a2 e2.length k2) z D.n:=
    (aB.Ak.Ap _ (by simp;omega) (aM.o.b7 (aI.o.Ag.ai (.cells #[.slice E es.length H] 120)) (.inr (.inr rfl)))).trans (aI.o.Ag.ai (.cells #[.slice E es.length H] 120))
   have a0:w5.heap[wr.heap.size]?=some (.cells #[.slice E es.length H] 120 (0,0)):=(aB.Ak.Ap _ (by simp) (aM.o.b7 cE.o (.inr (.inl rfl)))).trans cE.o;have aO:w5.ownsRow 0 120 1 z i d:=Az aI.o.ch λg hg=>by
    obtain⟨c,hh⟩:=Be aI.o.ch hg;have h1:((wr.alloc (.cells #[.slice E es.length H] 120)).drew).heap[g]?=some (Obj.cells c 120 (0,0)):=(Dd _ _ _ (Bz hh)).trans hh;exact((aB.Ak.Ap _ (Bz h1) (aM.o.b7 h1 (.inr (.inl rfl)))).trans h1).trans hh.symm
   have p1:=bH.c2;(have p2:w5.cell? (Ac wr.heap.size 0)=some (.slice E es.length H):=by simp[World.cell?,a0]);have aH:=A1 bH;have aV:=A1 a0;have aP:Hid ((w5.alloc (.cells #[.slice a5 aE.length k5] 120)).ownsRow 0 120 1 z i d):=Az aO λg hg=>Dd _ _ _ (AI aO hg);have aU:Hid (∀w6 v6 n xs,App (w5.alloc (.cells #[.slice a5 aE.length k5] 120)) w6 120 1 z v6 n xs->(w6.cell? (Ac w.heap.size 2)=some z/\w6.cell? (Ac wr.heap.size 0)=some (.slice E es.length H))/\w6.frozen? (Ac w.heap.size 2)=false):=by
    intro w6 v6 n xs hA
    have x1:w6.heap[w.heap.size]?=w5.heap[w.heap.size]?:=(hA.CC.block _ (by have:=aH.o.lt;simp;omega) (λe=>by
     obtain⟨c,hh⟩:=Be aP.o e.symm
     exact BT hh (aH.o.ai _) (by decide) rfl)).trans (Dd _ _ _ aH.o.lt)
    have x2:w6.heap[wr.heap.size]?=w5.heap[wr.heap.size]?:=(hA.CC.block _ (by have:=Bz aV.o;simp;omega) (λe=>by
     have:=AI aI.o.ch e.symm;omega)).trans (Dd _ _ _ (Bz aV.o))
    exact⟨⟨(DT x1).trans aH.o.c2,by simp[World.cell?,x2,aV.o]⟩,(aH.o.ay x1).fz 2⟩
   have bU:Hid (Src Tryz.prog 1 93 (AM w5.heap.size 1 1) 1 [.slice a5 aE.length k5] (w5.alloc (.cells #[.slice a5 aE.length k5] 120))):=
    Src.bb underlying93 w5 #[.slice a5 aE.length k5] 120 w5.heap.size rfl 1 1 rfl (by simp[Value.oneCell'])
   (have bP:(i+1)*24<=140737488355328:=by omega);refine hK _ _ ⟨p1,p2⟩ (λO=>?_)
   (try simp only[An])
   (refine Ec (v:=?_) rfl (by rfl) ?_ ?_;rotate_left;(· (intro w' O;(try dsimp only at O);go_simp;try with_reducible rfl));(try simp only[An]))
   refine DY rfl (by rfl) (λK hK=>?_);go_simp;refine hK _ _ ?_ (λO=>?_)
   ·simp[World.cell?_alloc_some,p1,p2]
   (try simp only[An])
   refine DY rfl (by rfl) (λK hK=>?_);refine HY (.tmp 75) (.tmp 81) 93 93 (by rfl) 120 p0 _ 1 24 underlying93 hp b9 b5 bZ rfl (by decide) z i d (by rfl) aP.o _ 1 _ (by rfl) bU.o bP ?_;intro a6 k6 w6 hA;obtain⟨r1,r2⟩:=aU.o _ _ _ _ hA;have aW:=A1 (aI.o.a7 (nq:=0) aG b6.o (((A3.I Ab wr).ai (.cells #[.slice E es.length H] 120)).af) bT.o hA);refine hK _ _ r1 (λO=>?_);obtain⟨r1,-⟩:=r1
   (try simp only[An])
   refine Bl ?_;simp only[DJ,Dq];go_wp2;go_roundw
   case rel=>exact⟨i+1,by omega,by go_num,_,_,_,_,_,_,_,_,aW.o⟩
   case measure=>simp[intOf];omega
  ·(obtain rfl:i=D.Av.length:=by omega);obtain⟨bL,cD,a3,bE,z,bF,d,cs,k0⟩:=bI.o;obtain⟨r,bK,aL,q1,q2,q3,q4,q5⟩:=k0.fc;have cJ:=A1 q1;have cL:=A1 q2;have cH:=A1 q4;have cI:=A1 q5;have cG:=A1 q3;go_wp2;go_ret;exact⟨_,r,bK,aL,rfl,cJ.o,cL.o,cG.o,cH.o,cI.o⟩
def SL:∀ {l m:List Nat},l.Nodup->(∀x∈l,x∈m)->l.length<=m.length
 | [],_,_,_=>Cq _
 | x::r,m,h,hs=>by
  have E:=hs x (BC ..);have z:=Kf.1 h;have:=SL (m:=m.erase x) z.2 λy d=>(A4k λe=>z.1 (by rw[<-e];exact d)).2 (hs y (Bw _ d))
  rw[A4o E]at this;have:=A4n E;simp only[Cx];omega
def VS(D:DS)(F:Nat->FC):Prop:=∃K,K<1099511627776/\(∀f,D.Au f->f<K)/\D.A4.length<549755813888/\D.AP.length<549755813888/\(∀l∈D.Av,l.length<1099511627776)/\D.Av.length<1099511627776/\∀f,D.Au f->(F f).1.length<=1099511627776
def Ur{w:World}{b:Nat}{D:DS}{F:Nat->FC}{Ft:Nat->Prop}(h:B3 w b D F Ft)(hC:VS D F):
 Af 47 #[A5 b] w λe w'=>∃W z,e=.returned (A5 W)/\B3 w' W D F z/\(∀k,z k->w.heap.size<=k/\k<w'.heap.size)/\A3 Ab w w':=by
 obtain⟨r,G,h1,h2,h3⟩:=h;obtain⟨K,c1,c2,c3,c4,c5,c6,c7⟩:=hC;obtain⟨l1,l2,l3,l4⟩:=JY D r
 refine(A2y w b _ G Ft h1 ⟨by rw[l1];exact c3,by rw[l2];exact c4,λl Y=>?_⟩ (λl hn Y=>?_) (by rw[l3];exact c6) (λf' d=>by
  obtain⟨f,E,rfl⟩:=DS.cQ d
  rw[h2 f E];exact c7 f E)).mono ?_
 ·obtain⟨l0,E,rfl⟩:=Cr.1 Y;rw[IK];exact c5 l0 E
 ·have:=SL (m:=(List.range K).map r) hn λx H=>by
   obtain⟨f,E,rfl⟩:=DS.cQ (Y x H);exact DV (Kg.2 (c2 f E))
  rw[Fx,A4m]at this;omega
 rintro e w'⟨W,O,aA,z,E,q2,q3,q4,q5,q6⟩;have I:(D.ren r).ren O=D.ren (λf=>O (r f)):=by
  have e:∀es:List AO,Go.Proofs.YtodcnkbblippnaaGreatDoor.ren O (Go.Proofs.YtodcnkbblippnaaGreatDoor.ren r es)=Go.Proofs.YtodcnkbblippnaaGreatDoor.ren (λf=>O (r f)) es:=λes=>by simp[Go.Proofs.YtodcnkbblippnaaGreatDoor.ren]
  simp only[DS.ren,e,Vv]
  congr 1
  exact Ng λc _=>e c
 have hid:∀f,D.Au f->(D.ren r).Au (r f):=by
  rintro f (⟨x,H,rfl⟩|⟨x,H,rfl⟩|⟨c,hc,x,H,rfl⟩)
  ·exact .inl ⟨_,DV H,rfl⟩
  ·exact .inr (.inl ⟨_,DV H,rfl⟩)
  ·exact .inr (.inr ⟨_,DV hc,_,DV H,rfl⟩)
 refine⟨W,z,E,⟨λf=>O (r f),aA,I ▸ q2,λf L=>?_,λf f' L d e=>?_⟩,q3,q4⟩
 ·rw[q5 (r f) (hid f L),h2 f L]
 ·exact h3 f f' L d (q6 _ _ (hid f L) (hid f' d) e)
def PB.dZ{P:PD}{t:Nat}(h:PB P t)(ht:t<=200000):VS P.D P.F:=
 ⟨400000*(t+1),by omega,h.Au,by have:=h.CQ.A4;omega,by have:=h.CQ.AP;omega,λl z=>by have:=h.CQ.Fs l z;omega,by have:=h.CQ.Ak;omega,λf d=>by have:=h.CQ.B5 f d;omega⟩
def K4{S:Nat->Prop}{w w':World}(E:A3 S w w'){x o:Nat}{u:Value}(h:A7 w x o u)(d:¬S x):A7 w' x o u:=by
 have z:=GV w _ h;exact(DT (E.Ap x z d)).trans h
def Aq.b0{w w':World}{Ft:Nat->Prop}{R z:World->(Nat->Prop)->Prop}(h:Aq w Ft w' R)(I:∀d,R w' d->z w' d):Aq w Ft w' z:=by
 obtain⟨H,F,E,L⟩:=h;exact⟨H,F,I F E,L⟩
def Live(t M sb ab b:Nat)(Ad aA A6:Int):Kind:=λw FT=>∃d L A P q A8,SF w sb ab b 0 Ad aA A6 d L A P FT/\(d=false->St t A P q A8 (Bc A6 Ad) false/\(∀k,k<8->(L k).length<=t)/\q.length<=M)
section
variable {w:World} {t M N B sb ab b:Nat} {Ad aA A6:Int} {FT:Nat->Prop}
def A0b(w:World)(p:Pu)(h:Live t M sb ab b Ad aA A6 w FT)(d:∀k,FT k->k<w.heap.size)(Y:t+1<=200000)(I:Bh p)(hL:Lets B w)(O:∀k,FT k->B<=k)(hl:1<=Ad/\Ad<=4611686018427387904)(hc:AE A6):
 Af 23 #[A5 sb,A0 p.1,A0 p.2.1,A0 p.2.2] w λe w'=>(∃c,e=.returned (A0 c))/\Aq w FT w' (Live (t+1) (M+1) sb ab b Ad aA A6):=by
 obtain⟨ro,L,A,P,q,A8,h1,h2⟩:=h;cases ro with
 | true=>
  refine(S2 w p.1 p.2.1 p.2.2 h1 d I.1).mono ?_;rintro e w'⟨rfl,W⟩;exact⟨⟨_,rfl⟩,W.b0 λF E=>⟨true,L,A,P,q,A8,E,λe=>by cases e⟩⟩
 | false=>
  obtain⟨hS,hk,hq⟩:=h2 rfl;obtain⟨-,-,-,-,-,a6,-⟩:=hS.ad Y p I;refine(S1 w p h1 d hS Y I hL O hk hl hc).mono ?_;rintro e w'⟨rfl,W⟩;refine⟨⟨_,rfl⟩,W.b0 λF E=>⟨_,_,_,_,q++[p],A8,E,λe=>?_⟩⟩;have z:(A.ad P p).2.1=0:=by
   by_cases z:(A.ad P p).2.1=0
   ·exact z
   ·rw[CE z]at e;cases e
  obtain⟨b1,b2⟩:=a6 z;refine⟨b2,λk H=>?_,by simp;omega⟩;rw[Ai b1];have:=OP L (Bc A6 Ad) p.1.toNat p.2.1 p.2.2 k;have:=hk k H;omega
def A0c(I:DU N)(hN:N<=200000)(w:World)(h:Live t M sb ab b Ad aA A6 w FT)(d:∀k,FT k->k<w.heap.size)(Y:t+1<=200000)(hM:M<=N)(hw:1<=aA/\aA<=4611686018427387904)(hL:Lets B w)(O:∀k,FT k->B<=k):
 Af 24 #[A5 sb] w λe w'=>(∃c,e=.returned (A0 c))/\Aq w FT w' (Live (t+1) M sb ab b Ad aA A6):=by
 obtain⟨ro,L,A,P,q,A8,h1,h2⟩:=h;cases ro with
 | true=>
  refine(U7 w h1 d).mono ?_;rintro e w'⟨rfl,W⟩;exact⟨⟨_,rfl⟩,W.b0 λF E=>⟨true,L,A,P,q,A8,E,λe=>by cases e⟩⟩
 | false=>
  obtain⟨hS,hk,hq⟩:=h2 rfl;obtain⟨-,-,-,-,a5⟩:=hS.aS (Fl aA) Y;refine(U6 I hN w h1 d hS Y (by omega) hw hL O).mono ?_;rintro e w'⟨rfl,W⟩;refine⟨⟨_,rfl⟩,W.b0 λF E=>⟨_,_,_,_,q,q.length,E,λe=>?_⟩⟩;have z:(A.aS P aA).1=0:=by
   by_cases z:(A.aS P aA).1=0
   ·exact z
   ·rw[CE z]at e;cases e
  exact⟨a5 z,λk H=>by have:=hk k H;omega,hq⟩
end
def PD.b3(P:PD):PD:=⟨{P.D with n:=Dy {P.D.n with BX:=if (0:Int)>0 then wrap64 (P.D.n.AY+0) else 0} 0 0},P.F⟩




end
section
open Go.RowKit
def F7(H:Nat)(w:World)(v:Value):Prop:=∃d,Km w v d/\(∀t∈d,AE t)/\∀h n c x,n≠0->v=.slice h n c->h=some x->x.block<H
def F7.bT(H:Nat)(w:World)(h:Km w (.slice none 0 0) []):F7 H w (.slice none 0 0):=⟨[],h,by simp,λad n c x _ e h=>by cases e;cases h⟩
def Eh(P:PD)(t:Nat):Prop:=P.D.n.AG=1152921504606846976/\0<=P.D.n.AY/\P.D.n.AY<=10000000*((t:Int)+1)
def Hr(P:PD)(e:Int)(P':PD):Prop:=P'.D.n.BX=P.D.n.BX/\P'.D.n.BV=P.D.n.BV/\P.D.n.AY<=P'.D.n.AY/\
 ((e=0/\P'.D.n.AF=false/\¬(P.D.n.AY<P.D.n.BV/\P.D.n.BV<=P'.D.n.AY)/\P'.D.n.Bm=P.D.n.Bm)\/
  (e=5/\P'.D.n.Bm=P.D.n.Bm+1/\((P'.D.n.AF=true/\P.D.n.AY<P.D.n.BX)\/(P'.D.n.AF=false/\P.D.n.AY<P.D.n.BV))))
def Eh.aa{P:PD}{t d:Nat}(h:Eh P t)(ht:t<=d):Eh P d:=⟨h.1,h.2.1,by have:=h.2.2;omega⟩
def NK{P P':PD}{e:Int}{k t:Nat}(h:Ca k P.D.n e P'.D.n)(hs:Hs P e P')(h6:e≠6)(H:P.D.n.AF=false)(hc:Eh P t)(hk:k<=10000000)(ht:t<=200000)(Y:P'.D.n.AG=P.D.n.AG):Hr P e P'/\Eh P' (t+1):=by
 obtain⟨c1,c2,c3⟩:=hc;obtain⟨a1,a2,W⟩:=h;obtain⟨I,b2,O,b4⟩:=W c2 (by omega);refine⟨⟨a1,a2,I,?_⟩,Y.trans c1,by omega,by omega⟩;rcases hs with⟨rfl,d,-,-⟩|⟨rfl,d,-⟩|⟨rfl,-⟩
 ·obtain⟨d1,d2⟩:=b4 (by decide);exact .inl ⟨rfl,d1.trans H,d2,d⟩
 ·refine .inr ⟨rfl,d,?_⟩;rcases O rfl with q|⟨z,E,-⟩|⟨z,E,-⟩
  ·rw[H]at q;cases q
  ·exact .inl ⟨z,E⟩
  ·exact .inr ⟨z,E⟩
 ·exact absurd rfl h6
def Still(P:PD):Prop:=P.D.n.BX=0/\P.D.n.BV=0
def Hr.eO{P P':PD}{e:Int}{t:Nat}(h:Hr P e P')(d:Still P)(W:Eh P t):e=0/\Still P'/\P'.D.n.AF=false:=by
 obtain⟨H,I,a3,z⟩:=h;have h0:=W.2.1;rcases z with⟨E,O,-⟩|⟨-,-,⟨-,b⟩|⟨-,b⟩⟩
 ·exact⟨E,⟨H.trans d.1,I.trans d.2⟩,O⟩
 ·rw[d.1]at b;omega
 ·rw[d.2]at b;omega
def Rest(t:Nat)(P:PD)(puts:List Pu)(A8:Nat)(o:Int):Prop:=PB P t/\DI (Cv t) P puts A8 o/\(∀p∈puts,Bh p)/\puts.length<=t/\A8<=puts.length
def GL(t:Nat)(A:Ar)(P:PD)(puts:List Pu)(A8:Nat)(o:Int)(ro:Bool):Prop:=Rest t P puts A8 o/\(P.D.n.AF=false->St t A P puts A8 o ro)
section
variable {t N:Nat} {A:Ar} {P:PD} {puts:List Pu} {A8:Nat} {o:Int} {ro:Bool}
def St.cC(h:St t A P puts A8 o ro):Rest t P puts A8 o:=⟨h.pb,h.di,h.pu,h.B5,h.le⟩
def St.ec(h:St t A P puts A8 o ro):GL t A P puts A8 o ro:=⟨h.cC,λ_=>h⟩
def Rest.aa{z:Nat}(h:Rest t P puts A8 o)(d:t<=z):Rest z P puts A8 o:=⟨h.1.aa d,h.2.1.aW (Ha d),h.2.2.1,AR h.2.2.2.1 d,h.2.2.2.2⟩
def GL.aa{d:Nat}(h:GL t A P puts A8 o ro)(z:t<=d):GL d A P puts A8 o ro:=⟨h.1.aa z,λE=>(h.2 E).aa z⟩
def GL.dK(h:GL t A P puts A8 o ro)(d:Bool):G8 t P puts A8 o d:=by
 cases hd:P.D.n.AF with
 | false=>exact(h.2 hd).dK d
 | true=>exact⟨h.1.1,h.1.2.1,h.1.2.2.1,h.1.2.2.2.1,h.1.2.2.2.2,.inl hd⟩
def G8.cC{d:Bool}(h:G8 t P puts A8 o d):Rest t P puts A8 o:=⟨h.1,h.2.1,h.2.2.1,h.2.2.2.1,h.2.2.2.2.1⟩
def Eh.aT(h:Eh P t)(z:Int)(d:List Int):Eh (P.aT z d) t/\Still (P.aT z d):=⟨h,rfl,rfl⟩
def GL.bl(h:GL t A P puts A8 o ro)(n:DN)(E:n.AG=P.D.n.AG)(d:0<=n.Bv/\n.Bv<=9223372036854775807)(I:n.Bm=P.D.n.Bm)(z:n.fulls=P.D.n.fulls)(H:n.AF=P.D.n.AF):GL t A ⟨{P.D with n:=n},P.F⟩ puts A8 o ro:=
 ⟨⟨h.1.1.bl n E d I z,⟨h.1.2.1.Dw,h.1.2.1.Au,h.1.2.1.Ce,h.1.2.1.Cu⟩,h.1.2.2⟩,λO=>(h.2 (H.symm.trans O)).bl n E d I z H⟩
def PB.gg(h:PB P t)(ht:t<=200000):B6 P.F P.D.A4<=4800760020000:=AR h.CQ.dM (AR (N9 (show 3*t+20<=600020 by omega) (show 40*t+1000<=8001000 by omega)) (by decide))
def St.fv(h:St t A P puts A8 o false)(z:Eh P t)(I:t+1<=200000)(p:Pu)(O:Bh p):
 Hr P (A.ad P p).2.1 (A.ad P p).2.2.2/\Eh (A.ad P p).2.2.2 (t+1)/\((A.ad P p).2.1=0->P.D.n.AY+1<=(A.ad P p).2.2.2.D.n.AY):=by
 obtain⟨-,Y,-,-,-,-,H⟩:=h.ad I p O;obtain⟨sg,cl,ol,-,hll⟩:=h.si rfl;have hu:=h.pb.gg (by omega);have d:=z;obtain⟨c1,c2,c3⟩:=d;obtain⟨E,W⟩:=NK (A2O A P p) Y (λe=>by have:=H e;omega) h.AF z (by omega) (by omega) (Y5 A P p);exact⟨E,W,λe=>A3z e c2 (by omega)⟩
def St.fN(h:St t A P puts A8 o false)(E:Eh P t)(z:t+1<=200000):Hr P (A.ae P).1 (A.ae P).2.2/\Eh (A.ae P).2.2 (t+1):=by
 obtain⟨-,d,-,-,-,H⟩:=h.ae z;obtain⟨sg,cl,ol,-,hll⟩:=h.si rfl;exact NK (A2N A P) d H h.AF E (by omega) (by omega) (Y4 A P)
def RA{O cl:List (Int×List Pu)}{ol:Option (List Pu)}(h:PB P t)(hn:G5 P)(E:PR A P O cl ol t)(H:Eh P t)(ht:t+1<=200000)(hll:A.AQ.length<=3*t+20)(I:P.D.n.AF=false)(kept:List Int)(fresh:List (List Pu))(hk:kept.length<=t)(hf:fresh.length<=t)(W:∀l∈fresh,l.length<=t)(Y:Hs P (A.aG P kept fresh).1 (A.aG P kept fresh).2.2):Hr P (A.aG P kept fresh).1 (A.aG P kept fresh).2.2/\Eh (A.aG P kept fresh).2.2 (t+1):=by
 have hcn:=E.MM;have z:=E.Ay;rw[Ho]at z;refine NK (A2G A P kept fresh) Y ?_ I H (by omega) (by omega) (XU A P kept fresh);refine Yb (a:=3*(t+1)+20) (m:=40*(t+1)+1000) (h.CQ.aa (a':=3*(t+1)+20) (m':=40*(t+1)+1000) (by omega) (As _) (by omega)).wd h.Au hn kept fresh (by omega) (λl hm=>by have:=W l hm;omega) (by omega) ?_;rw[H.1];have d:(3*(t+1)+20)*(40*(t+1)+1000)+(40*(t+1)+1000)<=4800768021000:=AR (Nat.add_le_add (N9 (show 3*(t+1)+20<=600020 by omega) (show 40*(t+1)+1000<=8001000 by omega)) (show 40*(t+1)+1000<=8001000 by omega)) (by decide);exact Kn (Nr.2 d) (by decide)
def St.fJ{Al:Int}(h:St t A P puts A8 o false)(Y:BU (AA Al))(hc:Eh P t)(W:t+1<=200000):Hr P (A.aS P Al).1 (A.aS P Al).2.2/\Eh (A.aS P Al).2.2 (t+1):=by
 obtain⟨-,a2,-,-,-⟩:=h.aS Y W;obtain⟨sg,H,O,I,z⟩:=h.si rfl;have E:=I.bF h.pb h.B5 (by omega);obtain⟨n1,n2⟩:=E.Cp;obtain⟨n3,n4⟩:=E.segs;have hp:=I.AX.puts I.CO;have d:=Hn Y (Ax H++O.getD []);have hfl:=H9 d.ne;have hfl2:=d.B5;have e:A.aS P Al=A.aG P A.ix.segs (BA Al (Ax H++O.getD [])):=by
  unfold Ar.aS;rw[hp,Ae (by simp)]
 rw[e]at a2 ⊢
 exact RA h.pb h.di.bh E hc W z h.AF A.ix.segs (BA Al (Ax H++O.getD [])) n3 (by omega) (λl hl=>by
  have:=(Nc hl).length_le
  omega) a2
def St.e7{Al:Int}(h:St t A P puts A8 o false)(hw:BU (AA Al))(hc:Eh P t)(ht:t+1<=200000):Hr P (A.aQ P Al o).1 (A.aQ P Al o).2.2/\Eh (A.aQ P Al o).2.2 (t+1):=by
 obtain⟨-,a2,-,-,-⟩:=h.aQ hw ht;obtain⟨d,E,z,O,W⟩:=h.si rfl;have hN:=O.bF h.pb h.B5 (by omega);obtain⟨n1,n2⟩:=hN.Cp;obtain⟨n3,n4⟩:=hN.segs;have hp:=O.AX.puts O.CO;have I:=Hn hw (B7 d E z);have hfl:=H9 I.ne;have hfl2:=I.B5;have H:=JM d o (BA Al (B7 d E z));have Y:=H.length_eq;have hal:(DR o (BA Al (B7 d E z))).length<=(BA Al (B7 d E z)).length:=Jg _ _;rw[B1,Fx]at Y;have hks:(BL d o (BA Al (B7 d E z))).1.length=(Gf d o (BA Al (B7 d E z))).length:=by rw[JN,Fx]
 have e:A.aQ P Al o=A.aG P ((BL d o (BA Al (B7 d E z))).1.mergeSort λx y=>decide (x<=y)) (BL d o (BA Al (B7 d E z))).2:=by
  unfold Ar.aQ;rw[O.AX.b8];dsimp only
  have e2:d.flatMap (·.2)++(P.puts A.j.Am).1=B7 d E z:=by rw[hp];rfl
  rw[e2,hp,Ae (by simp)]
 rw[e]at a2 ⊢
 exact RA h.pb h.di.bh hN hc ht W h.AF ((BL d o (BA Al (B7 d E z))).1.mergeSort λx y=>decide (x<=y)) (BL d o (BA Al (B7 d E z))).2 (by rw[Nh];omega) (by omega) (λl hl=>by
  have:=(Nc (J3 hl)).length_le
  omega) a2
def O1{A2:Ar}{P2:PD}{cd:Int}(h:St t A P puts A8 o false)(E:PB P2 (t+1))(z:DI (Cv (t+1)) P2 puts A8 o)(H:Reads (Cv (t+1)) P2 puts o)(d:cd=0->St (t+1) A2 P2 puts puts.length o false):
 GL (t+1) A2 P2 puts (if cd=0 then puts.length else A8) o (decide (cd≠0)):=by
 have hl:=h.B5;by_cases e:cd=0
 ·rw[Ai e,D2 (nn e)];exact(d e).ec
 ·rw[Ae e,CE e];exact⟨⟨E,z,h.pu,by omega,h.le⟩,λI=>St.du E z H h.pu (by omega) h.le I⟩
end
section
variable {t:Nat} {Ad A6:Int} {L:Nat->List Pt} {A:Ar} {P:PD} {puts:List Pu} {A8:Nat}
def YO(z:St t A P puts A8 (Bc A6 Ad) false)(ht:t+1<=200000)(p:Pu)(hp:Bh p)(hR:Rel L puts Ad A6)(hs:∀k,k<8->Dz (L k)){bo:Bool}{cd:Int}{A2:Ar}{P2:PD}{W:Nat->List Pt}(I:A.ad P p=(bo,cd,A2,P2))(d:W=if bo=true then Fm L (Bc A6 Ad) p.1.toNat p.2.1 p.2.2 else L):
 ∃q,(q=puts++[p]\/(q=puts/\cd≠0))/\GL (t+1) A2 P2 q A8 (Bc A6 Ad) (decide (cd≠0))/\Rel W q Ad A6/\(∀k,k<8->(L k).length<=t->(W k).length<=t+1):=by
 obtain⟨Y,a2,a3,a4,a5,a6,a7⟩:=z.ad ht p hp;rw[I]at Y a2 a3 a4 a5 a6 a7;have hq:∀x∈puts++[p],Bh x:=λx h=>by
  rcases AV.1 h with h|h
  ·exact z.pu x h
  ·simp at h;subst h;exact hp
 have E:(puts++[p]).length<=t+1:=by have:=z.B5;simp;omega
 have aA:A8<=(puts++[p]).length:=by have:=z.le;simp;omega
 have H:∀k,k<8->(L k).length<=t->(W k).length<=t+1:=λk _ hk=>by
  rw[d];have:=OP L (Bc A6 Ad) p.1.toNat p.2.1 p.2.2 k;split<;>omega
 cases bo with
 | true=>
  rw[Ai rfl]at d;have aB:Rel W (puts++[p]) Ad A6:=by
   rw[d];obtain⟨k,tt,v⟩:=p;obtain⟨⟨k0,k8⟩,O,_⟩:=hp;dsimp only at k0 k8 O ⊢;obtain⟨k',rfl⟩:∃k':Nat,k=k':=⟨k.toNat,by omega⟩;exact hR.aw hs (by omega) O
  refine⟨puts++[p],.inl rfl,⟨⟨Y,a3,hq,E,aA⟩,λh=>?_⟩,aB,H⟩;by_cases e:cd=0
  ·rw[D2 (nn e)];exact(a6 e).2
  ·rw[CE e];exact St.du Y a3 (a4 rfl) hq E aA h
 | false=>
  rw[Ae (by simp)]at d;subst d;obtain⟨b1,b2⟩:=a5 rfl;have e:cd≠0:=λe=>absurd (a6 e).1 (by simp);have hl:=z.B5;refine⟨puts,.inr ⟨rfl,e⟩,⟨⟨Y,b1,z.pu,by omega,z.le⟩,λh=>?_⟩,hR,H⟩;rw[CE e];exact St.du Y b1 b2 z.pu (by omega) z.le h
end
end
section
open Go.RowKit
attribute [local go_sem ↓] Go.wp_at_zero Go.wp_at_succ




def F7.aj{H:Nat}{w w':World}{v:Value}(h:F7 H w v)(W:A3 (Up H) w w'):F7 H w' v:=by
 obtain⟨ts,⟨I,cap,e,hl,hj⟩,Y,O⟩:=h;refine⟨ts,⟨I,cap,e,hl,λj d=>?_⟩,Y,O⟩;obtain⟨L,z,E,h4,h5⟩:=hj j d;have hb:=O I _ cap (Ac L z) (λh0=>absurd (h0 ▸ d) (Lt _)) e E;exact⟨L,z,E,Bq h4 W.Ao,K4 W h5 λhx=>by unfold Up at hx;dsimp only at hb;omega⟩
section
variable {w w':World} {sb ab b t:Nat} {mu Ad aA A6 o:Int} {ro:Bool} {L:Nat->List Pt} {A:Ar} {P:PD} {FT:Nat->Prop} {puts:List Pu} {A8:Nat}
def DI.eD{O:Int×Int}(h:DI O P puts A8 o)(f:Nat)(W:P.D.Au f):0<=(P.F f).2/\(P.F f).2<=(P.F f).1.length:=by
 have key:∀s∈Bx P,∀e∈s,0<=(P.F e.2).2/\(P.F e.2).2<=(P.F e.2).1.length:=λs E e d=>by
  obtain⟨ix,sg,cl,lo,nb,I,_⟩:=h.Dw s E;have hv:vw P.F s e.1.data.toList=some (P.F e.2):=by
   unfold vw;rw[Ge];cases hk:lookup s e.1 with
   | none=>exact absurd rfl (IV.1 hk e d)
   | some g=>
    obtain⟨i,hi,H⟩:=DW (E8 hk);obtain⟨j,hj,z⟩:=DW d;have:i=j:=JI (h.Ce s E) (by simpa using hi) (by simpa using hj) (by simp[H,z]);subst this;rw[H]at z;rw[<-z];rfl
  exact I.DZ _ _ hv
 rcases W with⟨e,d,rfl⟩|⟨e,d,rfl⟩|⟨l,Y,e,d,rfl⟩
 ·exact key _ h.Cu e d
 ·exact key _ (BC ..) e d
 ·exact key _ (Bw _ Y) e d
def SF.b2(h:SF w sb ab b mu Ad aA A6 ro L A P FT):∃Ft,Bk w b P Ft/\(∀k,Ft k->k<w.heap.size)/\(∀k,Ft k->FT k)/\∀(S z:Nat->Prop) (w':World) (P':PD),A3 S w w'->(∀k,FT k->S k->Ft k)->Bk w' b P' z->(∀k,z k->k<w'.heap.size)->(∀k,z k->Ft k\/w.heap.size<=k)->
 ∃W,SF w' sb ab b mu Ad aA A6 ro L A P' W/\(∀k,W k->k<w'.heap.size)/\∀k,W k->FT k\/w.heap.size<=k:=by
 obtain⟨lv,F0,I,O⟩:=h;obtain⟨xb,jb,sv,ov,l,jo,Ft,E,Y⟩:=I.ar;refine⟨Ft,E.dk,E.lt,λk d=>O k (.inl (Y k (.inl d))),λS z w' P' hc hS d1 d2 d3=>?_⟩;have hs:G4 (Ff ab xb jb sv ov l jo) w w':=hc.ay (λ_ d=>E.bI d) λk d H=>E.Df k d (hS k (O k (.inl (Y k (.inr d)))) H)
 have hA:Cn w' ab b xb jb sv ov l jo A P' z:=⟨(hs ab (.inl rfl)).trans E.Ag,(hs xb (.inr (.inl rfl))).trans E.ix,E.segs.aP λg hg=>hs g (.inr (.inr (.inl hg))),E.AQ.aP λg hg=>hs g (.inr (.inr (.inr (.inl hg)))),
  E.jn.aP λk d=>hs k (.inr (.inr (.inr (.inr d)))),d1,d2,λk d H=>(d3 k H).elim (E.Df k d) λh'=>by have:=E.bI d;omega,E.Fi,E.G9,E.FJ⟩
 have nF:∀k,(k=sb\/ED lv k)->¬F0 k:=λk d=>by
  rcases d with rfl|d
  ·exact I.ns
  ·exact I.nr k d
 have oF:∀k,(k=sb\/ED lv k)->FT k/\k<w.heap.size:=λk d=>by
  rcases d with rfl|d
  ·exact⟨O _ (.inr (.inl rfl)),I.Ag.lt⟩
  ·exact⟨O _ (.inr (.inr d)),I.Ej.lt d⟩
 have nS:∀k,(k=sb\/ED lv k)->¬S k:=λk d H=>nF k d (Y k (.inl (hS k (oF k d).1 H)));have nN:∀k,(k=sb\/ED lv k)->¬(z k\/Ff ab xb jb sv ov l jo k):=λk d H=>by
  rcases H with H|H
  ·rcases d3 k H with h' | h'
   ·exact nF k d (Y k (.inl h'))
   ·have:=(oF k d).2;omega
  ·exact nF k d (Y k (.inr H))
 refine⟨λk=>(z k\/Ff ab xb jb sv ov l jo k)\/Own sb lv k,⟨lv,λk=>z k\/Ff ab xb jb sv ov l jo k,⟨I.Ag.Ak hc (nS sb (.inl rfl)),I.Ej.Ak hc λg hg=>nS g (.inr hg),⟨xb,jb,sv,ov,l,jo,z,hA,λk d=>d⟩,λk d=>hA.bV d,nN sb (.inl rfl),λk d=>nN k (.inr d)⟩,λk d=>d⟩,λk d=>?_,λk d=>?_⟩
 ·rcases d with d|rfl|d
  ·exact hA.bV d
  ·exact Bq I.Ag.lt hc.Ao
  ·exact Bq (I.Ej.lt d) hc.Ao
 ·rcases d with (d|d)|rfl|d
  ·exact(d3 k d).imp (λh'=>O k (.inl (Y k (.inl h')))) id
  ·exact .inl (O k (.inl (Y k (.inr d))))
  ·exact .inl (O _ (.inr (.inl rfl)))
  ·exact .inl (O _ (.inr (.inr d)))
end
end
section
open Go.RowKit
section
variable {w w':World} {H wb b t:Nat} {Ad o:Int} {R R':Kind} {P:PD} {FT aA:Nat->Prop} {puts:List Pu} {ls:List (Value×Int)} {A8:Nat}
def Xs(d:PB P t)(ht:t<=200000):P.D.A4.length<1099511627776/\P.D.AP.length<1099511627776/\P.D.Av.length<1099511627776/\∀c∈P.D.Av,c.length<1099511627776:=by
 have h1:=d.CQ.A4;have h2:=d.CQ.AP;have h3:=d.CQ.Ak;exact⟨by omega,by omega,by omega,λc h=>by have:=d.CQ.Fs c h;omega⟩
end
section
variable {w w':World} {H wb t:Nat} {Ad:Int} {puts:List Pu} {ls:List (Value×Int)}
def Oo{p:Int}{d:DN}{k:Int}(h:AE p):0<=(Dy d k p).Bv/\(Dy d k p).Bv<=9223372036854775807:=by
 obtain⟨p1,p2⟩:=h;unfold Dy wrap64;dsimp only
 split<;>omega
end
end
section
open Go.RowKit
attribute [local go_sem ↓] Go.wp_at_zero Go.wp_at_succ
def D6(c n:Int):Int:=(if c<0 then -(c+1) else c) % n
def HI(c n:Int)(d:0<n):0<=D6 c n/\D6 c n<n:=by
 unfold D6;exact⟨LO _ (by omega),Qb _ d⟩
def JL(w:World)(c n:Int)(I:AE c)(L:0<n/\n<=9223372036854775807):
 Af 20 #[A0 c,A0 n] w (Aj (A0 (D6 c n)) λw'=>w=w'):=by
 obtain⟨c1,c2⟩:=I;obtain⟨H,n2⟩:=L;have z:=HI c n H;have n0:¬n=0:=by omega
 have nm:¬n = -1:=by omega
 by_cases h:c<0
 ·have e1:IntKind.i64.wrap (c+1)=c+1:=by simp[IntKind.wrap,IntKind.bits,IntKind.signed];omega
  have e2:IntKind.i64.wrap (-(c+1)) = -(c+1):=by simp[IntKind.wrap,IntKind.bits,IntKind.signed];omega
  have d:D6 c n = -((c+1).tmod n):=by unfold D6;rw[Ai h,<-Qa,A4z (by omega)]
  rw[d]at z ⊢;have E:IntKind.i64.wrap (-((c+1).tmod n)) = -((c+1).tmod n):=by simp[IntKind.wrap,IntKind.bits,IntKind.signed];omega
  go_enter func20,ntmps20
  go_wp2;go_ret;exact⟨rfl,rfl⟩
 ·have d:D6 c n=c % n:=by unfold D6;rw[Ae h]
  rw[d]at z ⊢;have E:IntKind.i64.wrap (c % n)=c % n:=by simp[IntKind.wrap,IntKind.bits,IntKind.signed];omega
  go_enter func20,ntmps20
  go_wp2;go_ret;exact⟨rfl,rfl⟩
def A3m(w:World)(sv:Value)(k t v:Int)(L:List Pt)(h:Af 37 #[sv,A0 k,A0 t,A0 t] w λe w'=>∃x,e=.returned (.tuple #[x,A0 0])/\Du w' x L/\A3 Ab w w'):
 Af 26 #[sv,A0 k,A0 t,A0 v] w (Aj (.bool (decide (L=[(t,v)]))) λw'=>A3 Ab w w'):=by
 have H:=A1 h;obtain⟨R,hR⟩:∃R,decide (L=[(t,v)])=R:=⟨_,rfl⟩;rw[hR];have aA:=A1 hR;clear h hR
 go_enter func26,ntmps26
 go_wp2_with (fail);refine H.m ?_;rintro e w1⟨x,rfl,O,hc⟩;have Y:=A1 hc;have HX:=A1 O;obtain⟨a,cap,rfl,E,I,hs,-⟩:=B9 O;unfold maxLen at I;clear hc H;by_cases h1:L.length=1
 ·obtain⟨g,rfl⟩:=hs (by omega);obtain⟨⟨t',v'⟩,rfl⟩:=Vw.1 h1;obtain⟨q0,q1⟩:=O.bz 0 (by simp);simp only[Nat.zero_mul,GH,Ki]at q0 q1;have z:R=(decide (t'=t)&&decide (v'=v)):=by
   rw[<-aA.o];simp
  clear O hs;simp only[Q1]at E ⊢;by_cases W:t'=t
  ·by_cases h3:v'=v
   ·subst W h3;(have d:R=true:=by rw[z];simp);subst d;clear z;go_wp2;go_ret;exact⟨rfl,Y.o⟩
   ·(have d:R=false:=by rw[z];simp[h3]);subst d;clear z;(have hb:(v'==v)=false:=by simpa using h3);subst W;go_wp2;go_ret;exact⟨rfl,Y.o⟩
  ·(have d:R=false:=by rw[z];simp[W]);subst d;clear z;(have hb:(t'==t)=false:=by simpa using W);go_wp2;go_ret;exact⟨rfl,Y.o⟩
 ·have d:R=false:=by
   rw[<-aA.o,Uf];intro e;subst e;exact h1 rfl
  subst d;have hb:((L.length:Int)==1)=false:=Ea.2 (by omega);clear O hs;go_wp2;go_ret;exact⟨rfl,Y.o⟩
def Zv(w:World)(sv:Value)(k t:Int)(L:List Pt)(h:Af 37 #[sv,A0 k,A0 t,A0 t] w λe w'=>∃x,e=.returned (.tuple #[x,A0 0])/\Du w' x L/\A3 Ab w w'):
 Af 28 #[sv,A0 k,A0 t] w (Aj (.bool (decide (L=[]))) λw'=>A3 Ab w w'):=by
 have H:=A1 h;obtain⟨R,I⟩:∃R,decide (L=[])=R:=⟨_,rfl⟩;rw[I];have W:=A1 I;clear h I
 go_enter func28,ntmps28
 go_wp2_with (fail);refine H.m ?_;rintro e w1⟨x,rfl,Y,hc⟩;have O:=A1 hc;obtain⟨a,cap,rfl,hcap,z,hs,-⟩:=B9 Y;unfold maxLen at z;clear hc H Y hs;by_cases E:L.length=0
 ·have d:R=true:=by rw[<-W.o,Dn];exact LJ E
  subst d;have hb:((L.length:Int)==0)=true:=by rw[E];rfl
  go_wp2;go_ret;exact⟨rfl,O.o⟩
 ·have d:R=false:=by
   rw[<-W.o,Uf];intro e;subst e;exact E rfl
  subst d;have hb:((L.length:Int)==0)=false:=Ea.2 (by omega);go_wp2;go_ret;exact⟨rfl,O.o⟩
end
end Go.Proofs.YtodcnkbblippnaaGreatDoor
