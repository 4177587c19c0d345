/- Part 29 of a proof: walks of the program. -/
import Derived.Test.YtodcnkbblippnabGreatDoorPart28
namespace Go.Proofs.YtodcnkbblippnabGreatDoor
set_option maxRecDepth 100000
set_option maxHeartbeats 32000000
set_option linter.defProp false
open Go.Proofs.Tryz
section
open Go.RowKit
def T5(a b:ByteArray):less a b=true↔a.data.toList<b.data.toList:=by
 unfold less;rw[Uh,Kf,Kf,DT]
def A0q(l:List ByteArray)(x:ByteArray):∀k,k<=l.length->(∀i (H:i<l.length),Ex l x k<=i->i<k->less x (l[i]'H)=true)/\∀(_:0<Ex l x k) (H:Ex l x k-1<l.length),less x (l[Ex l x k-1]'H)=false:=by
 intro k
 induction k with
 | zero=>intro _;exact⟨λi H I O=>by omega,λh=>by simp[Ex]at h⟩
 | succ k ih=>
  intro hk;have z:k<l.length:=by omega
  have⟨i1,i2⟩:=ih (by omega);by_cases h:less x (l[k]'z)=true
  ·rw[Tq l x k z h];refine⟨λi H I O=>?_,i2⟩;by_cases e:i=k
   ·subst e;exact h
   ·exact i1 i H I (by omega)
  ·rw[Tp l x k z (by simpa using h)];exact⟨λi H I O=>by omega,λ_ _=>by simpa using h⟩
def L6(l:List ByteArray):Prop:=l.Pairwise λa b=>a.data.toList<b.data.toList
def A0i{l:List ByteArray}(h:L6 l){x:ByteArray}(hx:x∉l):L6 (ins l x):=by
 have⟨h1,h2⟩:=A0q l x l.length (Aq _);have aB:=Tr l x l.length;unfold ins;generalize Ex l x l.length=k at h1 h2 aB;have hp:L6 (l.take k++l.drop k):=by rw[DK];exact h
 have I:=Eu.1 hp;refine Eu.2 ⟨I.1,Di.2 ⟨λy hy=>?_,I.2.1⟩,λa ha b hb=>?_⟩
 ·obtain⟨i,hi,rfl⟩:=Ee hy;rw[CM]at hi;rw[List.getElem_drop];exact(T5 _ _).1 (h1 (k+i) (by omega) (by omega) (by omega))
 ·rcases BF.1 hb with rfl|hb
  ·obtain⟨i,hi,rfl⟩:=Ee ha;rw[BU]at hi;(have H:k-1<l.length:=by omega);have X:=h2 (by omega) H;have z:(l[k-1]'H).data.toList<b.data.toList:=by
    (have Y:¬b.data.toList<(l[k-1]'H).data.toList:=λaA=>by rw[(T5 _ _).2 aA]at X;cases X);have W:=List.not_lt.1 Y;by_cases O:(l[k-1]'H).data.toList<b.data.toList
    ·exact O
    ·refine absurd ?_ hx;have e:=List.le_antisymm W (List.not_lt.1 O);(have:l[k-1]'H=b:=by rw[<-Fm (l[k-1]'H),<-Fm b,e]);rw[<-this];exact BS _
   rw[A2Z];by_cases e:i=k-1
   ·subst e;exact z
   ·have:=Lg.1 h i (k-1) (by omega) H (by omega);exact List.lt_trans this z
  ·exact I.2.2 a ha b hb
def A1e(es:List AI)(I:(es.map (·.1)).Nodup):∀k,k<=es.length->L6 (EJ es k):=by
 intro k
 induction k with
 | zero=>intro _;simp[EJ,L6]
 | succ k ih=>
  intro hk;have h:k<es.length:=by omega
  rw[Mo es k h];refine A0i (ih (by omega)) λz=>?_;have:=(TT es k (by omega)).mem_iff.1 z;have⟨e,he,h2⟩:=C9.1 this;obtain⟨i,H,rfl⟩:=Ee he;rw[BU]at H;rw[A2Z]at h2;have:i=k:=JB I (by simp;omega) (by simpa using h) (by simpa using h2);omega
def Cm.up{P:PD}{N R:Nat}(h:Cm P N R):P.Av.Pairwise (· < ·):=by
 unfold PD.Av;rw[Lf];exact A1e P.D.A6 h.Cg _ (Aq _)
def Gu:Nat->Nat->Bs
 | 0,_=>[]
 | k+1,u=>Gu k (u/10)++[UInt8.ofNat (48+u % 10)]
def LN:∀k u,(Gu k u).length=k
 | 0,_=>rfl
 | k+1,u=>by simp[Gu,LN k]
def RR:∀k,Gu k 0=List.replicate k 48
 | 0=>rfl
 | k+1=>by
  unfold Gu;rw[Nat.zero_div,RR k,List.replicate_succ'];rfl
def RS:∀k u,u<10 ^ (k+1)->List.replicate (k+1-Lib.nDigits u) 48++Lib.decDigits u=Gu (k+1) u
 | 0,u,h=>by
  have z:u<10:=by simpa using h
  rw[Ps z,Lib.decDigits,dif_pos z];simp[Gu,Nat.mod_eq_of_lt z]
 | k+1,u,h=>by
  by_cases z:u<10
  ·rw[Ps z,Lib.decDigits,dif_pos z];unfold Gu;rw[Nat.div_eq_of_lt z,RR,Nat.mod_eq_of_lt z];rfl
  ·have H:=RS k (u/10) (by rw[K0]at h;omega);rw[Vf z,Lib.decDigits,OK z,<-C6];(have e:k+1+1-(Lib.nDigits (u/10)+1)=k+1-Lib.nDigits (u/10):=by omega);rw[e,H]
   conv=>rhs;unfold Gu
def SX:∀ {a b x y:Bs},a.length=b.length->a<b->a++x<b++y
 | [],b,x,y,hl,h=>by
  have:b=[]:=G4.1 hl.symm;subst this;exact absurd h (Lj _)
 | c::a,[],x,y,hl,h=>by simp at hl
 | c::a,d::b,x,y,hl,h=>by
  rw[Fb,Fb,Jc];rw[Jc]at h;rcases h with h|⟨H,z⟩
  ·exact .inl h
  ·exact .inr ⟨H,SX (by simpa using hl) z⟩
def SU:∀ {a x y:Bs},x<y->a++x<a++y
 | [],x,y,h=>h
 | c::a,x,y,h=>by rw[Fb,Fb,Jc];exact .inr ⟨rfl,SU h⟩
def NK:∀k {u v:Nat},v<10 ^ k->u<v->Gu k u<Gu k v
 | 0,u,v,hv,h=>by simp at hv;omega
 | k+1,u,v,hv,h=>by
  have z:v/10<10 ^ k:=by rw[K0]at hv;omega
  unfold Gu;by_cases H:u/10<v/10
  ·exact SX (by rw[LN,LN]) (NK k z H)
  ·(have e:u/10=v/10:=by omega);rw[e];refine SU ?_;rw[Jc];refine .inl ?_;rw[UInt8.lt_iff_toNat_lt];simp;omega
def KB{n:Int}(h0:1<=n)(h1:n<=4611686018427387904):Lib.repeatL [48] (19-(Lib.itoa n).length)++Lib.itoa n=Gu 19 n.toNat:=by
 rw[KJ (by omega),Pv,LI];exact RS 18 n.toNat (by (have:(10:Nat) ^ 19=10000000000000000000:=by decide);omega)
def YS{a b:Int}(z:isNum a=true)(H:isNum b=true)(h:a<b):Af a<Af b:=by
 unfold isNum at z H;simp at z H;rw[HG,HG,KB z.1 z.2,KB H.1 H.2,Jc];exact .inr ⟨rfl,NK 19 (by (have:(10:Nat) ^ 19=10000000000000000000:=by decide);omega) (by omega)⟩
def YO{a b:Int}(z:isNum a=true)(H:isNum b=true)(h:a<b):Aw a<Aw b:=by
 unfold isNum at z H;simp at z H;rw[Hf,Hf,KB z.1 z.2,KB H.1 H.2,Jc];exact .inr ⟨rfl,NK 19 (by (have:(10:Nat) ^ 19=10000000000000000000:=by decide);omega) (by omega)⟩
def Ze{f:Int->Bs}(H:∀a b,isNum a=true->isNum b=true->a<b->f a<f b){a b:Int}(I:isNum a=true)(O:isNum b=true)(h:f a<f b):a<b:=by
 rcases Int.lt_trichotomy a b with z|z|z
 ·exact z
 ·subst z;exact absurd h (Lj _)
 ·exact absurd (List.lt_trans h (H b a O I z)) (Lj _)
def NW{f:Int->Bs}(H:∀a b,isNum a=true->isNum b=true->a<b->f a<f b)(g:Bs->Option Int)(z:∀nm n,g nm=some n->isNum n=true/\f n=nm):∀ {l:List Bs},l.Pairwise (· < ·)->(l.filterMap g).Pairwise (· < ·)
 | [],_=>by simp
 | nm::r,h=>by
  have I:=Di.1 h;have O:=NW H g z I.2;cases hx:g nm with
  | none=>rw[List.filterMap_cons_none hx];exact O
  | some n=>
   rw[List.filterMap_cons_some hx];refine Di.2 ⟨λm W=>?_,O⟩;have⟨nm2,h2,h3⟩:=HQ.1 W;have⟨a1,a2⟩:=z nm n hx;have⟨b1,b2⟩:=z nm2 m h3;exact Ze H a1 b1 (by rw[a2,b2];exact I.1 nm2 h2)
def O5{l:List Bs}(first:Int)(h:l.Pairwise (· < ·)):(Bv first l).Pairwise (· < ·):=by
 unfold Bv;refine NW (f:=Af) (λa b=>YS) _ (λnm n z=>?_) h;by_cases H:(Bc nm).1=1/\first<=(Bc nm).2
 ·rw[Ah H]at z;simp at z;subst z;have:=LU H.1;exact⟨by unfold isNum;simp;exact this.1,this.2⟩
 ·rw[Ae H]at z;cases z
def QL{l:List Bs}(h:l.Pairwise (· < ·)):(l.filterMap λnm=>if (Bc nm).1=2 then some (Bc nm).2 else none).Pairwise (· < ·):=by
 refine NW (f:=Aw) (λa b=>YO) _ (λnm n z=>?_) h;by_cases H:(Bc nm).1=2
 ·rw[Ah H]at z;simp at z;subst z;have:=LR H;exact⟨by unfold isNum;simp;exact this.1,this.2⟩
 ·rw[Ae H]at z;cases z
def Kv{l:List Int}(h:l.Pairwise (· < ·)){n:Int}(z:n∈l)(d:Int):n<=l.getLastD d:=by
 have H:l≠[]:=λe=>by subst e;cases z
 obtain⟨m,x,rfl⟩:∃m x,l=m++[x]:=⟨l.dropLast,l.getLast H,(Ln H).symm⟩;have e:(m++[x]).getLastD d=x:=by simp
 rw[e];rcases AU.1 z with z|z
 ·exact Int.le_of_lt ((Eu.1 h).2.2 n z x (by simp))
 ·simp at z;omega
def QV:∀ {l l':List Int},l.Pairwise (· < ·)->l'.Pairwise (· < ·)->(∀x,x∈l↔x∈l')->l=l'
 | [],[],_,_,_=>rfl
 | [],y::r,_,_,h=>by have:=(h y).2 (Bp ..);cases this
 | x::r,[],_,_,h=>by have:=(h x).1 (Bp ..);cases this
 | x::r,y::s,h1,h2,h=>by
  have I:=Di.1 h1;have H:=Di.1 h2;have W:x=y:=by
   rcases BF.1 ((h x).1 (Bp ..)) with e|e
   ·exact e
   ·rcases BF.1 ((h y).2 (Bp ..)) with X|X
    ·exact X.symm
    ·have a:=H.1 x e;have b:=I.1 y X;omega
  subst W
  congr 1
  refine QV I.2 H.2 λz=>⟨λO=>?_,λO=>?_⟩
  ·rcases BF.1 ((h z).1 (Bn _ O)) with e|e
   ·subst e;have:=I.1 z O;omega
   ·exact e
  ·rcases BF.1 ((h z).2 (Bn _ O)) with e|e
   ·subst e;have:=H.1 z O;omega
   ·exact e
def shut(cl:List (Int×List Pu))(last:Int):Option (List Pu)->List (Int×List Pu)
 | none=>cl
 | some l=>cl++[(last,l)]
def Nl(cl:List (Int×List Pu))(last:Int)(ol:Option (List Pu)):Az (shut cl last ol)=Az cl++ol.getD []:=by
 cases ol<;>simp[shut,Az]
section
variable{P P':PD}{A:Ar}{sg cl:List (Int×List Pu)}{ol:Option (List Pu)}{N R:Nat}
def Lay.bR(h:Lay P A sg cl ol):A.j.Al=(shut cl A.j.A8 ol).map (·.1):=by
 have:=h.AP;cases ol with
 | none=>exact this.2
 | some l=>rw[this.2.1];simp[shut]
def Lay.dC(h:Lay P A sg cl ol)(z:(Az cl).length<=1099511627776):ET P 0 (shut cl A.j.A8 ol):=by
 have I:=h.AP;cases ol with
 | none=>exact h.Al
 | some l=>
  obtain⟨-,h1,H,O,h4⟩:=I
  exact h.Al.bS (by
   have:=h.GA;rw[N1,<-this]
   exact LY (t:=[]) (h.cZ z) O (by simp) (by simpa using H))
def Lay.CV(h:Lay P A sg cl ol):P.CV=some A.ix:=by
 rcases h.ix with⟨z,H⟩|z
 ·rw[Tw z,H]
 ·exact A0u h.E2 z
def Lay.aR(h:Lay P A sg cl ol)(hc:Cm P N R)(hl:(Az cl).length<=1099511627776):
 ∃A',Ar.aR P=.ok (A',Cl sg cl ol)/\Lay P A' sg (shut cl A.j.A8 ol) none/\A'.ix=A.ix/\A'.j.A8<=max A.j.A8 (A.ix.AW-1)/\A'.A8<=A.A8/\A'.AM=A'.a1 P:=by
 have aG:=hc.up;have aH:Bv A.ix.AW P.Av=A.j.Al:=by
  refine QV (O5 _ aG) h.H3 λn=>⟨λhn=>?_,λhn=>?_⟩
  ·have⟨W,H,h3⟩:=O6 hn;exact h.Hh n (by unfold isNum;simpa using H) W (EF.1 h3)
  ·rw[h.bR]at hn;obtain⟨x,z,rfl⟩:=C9.1 hn;have aA:isNum x.1=true/\A.ix.AW<=x.1:=by
    cases ol with
    | none=>exact⟨(h.CQ x z).1.1,h.EI.1 x z⟩
    | some l=>
     rcases AU.1 z with z|z
     ·exact⟨(h.CQ x z).1.1,h.EI.1 x z⟩
     ·simp at z;subst z;exact⟨h.AP.2.2.2.2,h.EI.2 (by simp)⟩
   have aI:=EF.2 ((h.dC hl).DP z);unfold Bv;refine HQ.2 ⟨Af x.1,aI,?_⟩;rw[JE aA.1];simp[aA.2]
 have aJ:P.Av.any (λnm=>decide ((Bc nm).1=0))=false:=by
  rw[Bool.eq_false_iff];intro z;have⟨nm,W,H⟩:=Pr.1 z;exact h.DZ nm (EF.1 W) (by simpa using H)
 have hp:=h.puts hl;obtain⟨Y,aB⟩:∃Y,(P.Av.filterMap λnm=>if (Bc nm).1=2 then some (Bc nm).2 else none)=Y:=⟨_,rfl⟩;have aD:=QL aG;rw[aB]at aD;have aF:∀n,n∈Y↔isNum n=true/\P.bs (Aw n)≠none:=λn=>by
  rw[<-aB,HQ];constructor
  ·rintro⟨nm,W,H⟩;by_cases z:(Bc nm).1=2
   ·rw[Ah z]at H;simp at H;subst H;have:=LR z;exact⟨by unfold isNum;simp;exact this.1,by rw[this.2];exact EF.1 W⟩
   ·rw[Ae z]at H;cases H
  ·rintro⟨W,H⟩;refine⟨Aw n,EF.2 H,?_⟩;rw[LS W];simp
 obtain⟨A',O⟩:∃A':Ar,(⟨A.ix,⟨A.j.Al,A.j.Al.getLastD (A.ix.AW-1),((Az cl++ol.getD []).length:Int),none⟩,Y.getLastD 0,(⟨A.ix,⟨A.j.Al,A.j.Al.getLastD (A.ix.AW-1),((Az cl++ol.getD []).length:Int),none⟩,Y.getLastD 0,[]⟩:Ar).a1 P⟩:Ar)=A':=⟨_,rfl⟩;have aE:Ar.aR P=.ok (A',Cl sg cl ol):=by
  unfold Ar.aR;rw[h.CV];dsimp only
  rw[aJ,Ae (by simp),h.dY];dsimp only
  rw[aH,hp,Ae (by simp),aB];have hj:P.bP A.ix.AW=⟨A.j.Al,A.j.Al.getLastD (A.ix.AW-1),((Az cl++ol.getD []).length:Int),none⟩:=by
   unfold PD.bP;rw[aH,hp]
  rw[hj,<-O];rfl
 have X:∀x∈shut cl A.j.A8 ol,(isNum x.1=true/\x.1<=A.j.A8)/\A.ix.AW<=x.1/\∀p∈x.2,B8 p:=λx z=>by
  cases ol with
  | none=>exact⟨(h.CQ x z).1,h.EI.1 x z,(h.CQ x z).2⟩
  | some l=>
   rcases AU.1 z with z|z
   ·exact⟨(h.CQ x z).1,h.EI.1 x z,(h.CQ x z).2⟩
   ·simp at z;subst z;exact⟨⟨h.AP.2.2.2.2,Ha _⟩,h.EI.2 (by simp),h.AP.2.2.2.1⟩
 have I:∀n∈A.j.Al,n<=A.j.Al.getLastD (A.ix.AW-1):=λn hn=>Kv h.H3 hn _;have hge:A.ix.AW-1<=A.j.Al.getLastD (A.ix.AW-1):=by
  cases z:A.j.Al with
  | nil=>simp
  | cons y r=>
   (have hy:y∈A.j.Al:=by rw[z];exact Bp ..);have W:=I y hy;rw[z]at W;have H:A.ix.AW<=y:=by
    rw[h.bR]at hy;have⟨x,hx3,hx4⟩:=C9.1 hy;rw[<-hx4];exact(X x hx3).2.1
   omega
 have aK:A.j.Al.getLastD (A.ix.AW-1)<=max A.j.A8 (A.ix.AW-1):=by
  cases z:A.j.Al with
  | nil=>simp;omega
  | cons y r=>
   have hm:(y::r).getLastD (A.ix.AW-1)∈A.j.Al:=by
    rw[z];(have:(y::r).getLastD (A.ix.AW-1)=(y::r).getLast (by simp):=by rw[Ka,A2Y (by simp)];rfl);rw[this];exact List.getLast_mem _
   rw[h.bR]at hm;have⟨x,hx2,hx3⟩:=C9.1 hm;have:=(X x hx2).1.2;rw[hx3]at this;omega
 have hfn:1<=A.ix.AW:=by have:=h.E2.AW;unfold isNum at this;simp at this;exact this.1
 refine⟨A',aE,?_,by rw[<-O],by rw[<-O];exact aK,?_,by rw[<-O];rfl⟩
 ·rw[<-O]
  refine⟨h.E2,h.ix,h.segs,h.BT,λx z=>⟨⟨(X x z).1.1,I _ (by rw[h.bR];exact DD z)⟩,(X x z).2.2⟩,λx _ z=>absurd rfl z,⟨λx z=>(X x z).2.1,λz=>absurd rfl z⟩,h.dC hl,?_,⟨rfl,h.bR⟩,
   ⟨by dsimp only;omega,by dsimp only;omega,λn hk z=>?_⟩,⟨?_,λn hk z=>Kv aD ((aF n).2 ⟨hk,z⟩) 0⟩,λnm hm=>?_,h.H3,h.DZ,h.Hh⟩
  ·dsimp only;rw[Nl]
  ·dsimp only
   by_cases hf:A.ix.AW<=n
   ·exact I n (h.Hh n hk hf z)
   ·omega
  ·dsimp only
   cases z:Y with
   | nil=>simp
   | cons y r=>
    have W:=Kv aD (n:=y) (by rw[z];exact Bp ..) 0;have H:=((aF y).1 (by rw[z];exact Bp ..)).1;unfold isNum at H;simp at H;rw[z]at W;omega
  ·exact EF.1 (GF.1 hm).1
 ·rw[<-O];dsimp only
  cases z:Y with
  | nil=>simp;exact h.DY.1
  | cons y r=>
   have hm:(y::r).getLastD 0∈Y:=by
    rw[z];(have:(y::r).getLastD 0=(y::r).getLast (by simp):=by rw[Ka,A2Y (by simp)];rfl);rw[this];exact List.getLast_mem _
   have:=(aF _).1 hm;exact h.DY.2 _ this.1 this.2
def Lay.ed(h:∀nm,P.bs nm=none):Lay P ⟨⟨1,[]⟩,⟨[],0,0,none⟩,0,[]⟩ [] [] none:=
 ⟨⟨by decide,λn I=>(by cases I),rfl⟩,.inl ⟨h _,rfl⟩,rfl,λx z=>(by cases z),λx z=>(by cases z),λx z=>(by cases z),⟨λx z=>(by cases z),λh=>absurd rfl h⟩,trivial,rfl,⟨rfl,rfl⟩,⟨by decide,by decide,λn _ z=>absurd (h _) z⟩,⟨by decide,λn _ z=>absurd (h _) z⟩,λnm H=>(by cases H),List.Pairwise.nil,λnm H=>absurd (h _) H,λn _ _ z=>absurd (h _) z⟩
end
abbrev View:=Bs->Option FC
def vw(F:Nat->FC)(s:List AI):View:=λnm=>(lookup s (A9 nm)).map F
def Cr(c:FC):Prop:=c.2=c.1.length
def IV(V:View)(n a:Int):List Pu×Int:=match V (Af n) with
 | some c=>Ew (AB (Af n)) a c.1
 | none=>([],8)
def Zm(P:PD)(n a:Int):P.aY n a=IV P.fl n a:=by
 unfold IV;cases hx:P.fl (Af n) with
 | some c=>
  have h:P.bs (Af n)=some c.1:=by unfold PD.bs;rw[hx];rfl
  exact IT h
 | none=>
  have h:P.bs (Af n)=none:=by unfold PD.bs;rw[hx];rfl
  unfold PD.aY Gs;have e:DV P.D P.F ⟨(Af n).toArray⟩=([],8):=by have:=@GR P (Af n);unfold PD.CK at this;rw[h]at this;exact this
  rw[e];simp
def Fw(V:View):Int->List (Int×List Pu)->Prop
 | _,[]=>True
 | a,x::r=>IV V x.1 a=(x.2,0)/\Fw V (a+x.2.length) r
def Fw.at{P:PD}:∀ {a:Int} {l:List (Int×List Pu)},Fw P.fl a l↔ET P a l
 | _,[]=>Iff.rfl
 | a,x::r=>by
  unfold Fw ET;rw[Zm,Fw.at]
def Fw.bx{V V':View}:∀ {a:Int} {l:List (Int×List Pu)},Fw V a l->(∀x∈l,(V' (Af x.1)).map (·.1)=(V (Af x.1)).map (·.1))->Fw V' a l
 | _,[],_,_=>trivial
 | a,x::r,h,hb=>by
  refine⟨?_,h.2.bx λy z=>hb y (Bn _ z)⟩;rw[<-h.1];have:=hb x (Bp ..);unfold IV;cases h1:V (Af x.1) with
  | none=>rw[h1]at this;cases h2:V' (Af x.1) with
   | none=>rfl
   | some c=>rw[h2]at this;cases this
  | some c=>rw[h1]at this;cases h2:V' (Af x.1) with
   | none=>rw[h2]at this;cases this
   | some d=>rw[h2]at this;simp at this;dsimp only;rw[this]
def Fw.bS{V:View}:∀ {a:Int} {l:List (Int×List Pu)} {x:Int×List Pu},Fw V a l->IV V x.1 (a+(Az l).length)=(x.2,0)->Fw V a (l++[x])
 | a,[],x,_,h=>⟨by simpa[Az] using h,trivial⟩
 | a,y::r,x,h,h2=>⟨h.1,h.2.bS (by
  rw[<-h2];congr 1
  simp only[Az,Kc,AX];omega)⟩
def HP(b nm:Bs)(ahead:Int)(l:List Pu):Prop:=(∃t:Bs,b=DH nm ahead l++t/\t.length<21)\/(l=[]/\b.length<12)
def HP.aT{b nm:Bs}{ahead:Int}{l:List Pu}(h:HP b nm ahead l)(H:AY ahead)(z:∀p∈l,B8 p):Ew (AB nm) ahead b=(l,0):=by
 rcases h with⟨t,rfl,I⟩|⟨rfl,O⟩
 ·exact Rs _ _ _ _ H z I
 ·exact XZ _ _ _ O
def T1:∀(l:List Pu) (s:Nat) (t:Bs) (j:Nat),t.length<21->∃h:Bs,(DQ s l++t).take j=DQ s (l.take (j/21))++h/\h.length<21
 | [],s,t,j,ht=>⟨t.take j,by simp[DQ],by rw[BU];omega⟩
 | p::r,s,t,j,ht=>by
  have z:(AT s (B9 p.1 p.2.1 p.2.2)).length=21:=by rw[EN,EE]
  by_cases hj:j<21
  ·refine⟨(AT s (B9 p.1 p.2.1 p.2.2)).take j,?_,by rw[BU];omega⟩;(have e:j/21=0:=by omega);rw[e];simp only[DQ,EL,F7,C6];rw[GW (by omega)]
  ·have⟨h,h1,h2⟩:=T1 r (AV s (B9 p.1 p.2.1 p.2.2)) t (j-21) ht;refine⟨h,?_,h2⟩;(have e:j/21=(j-21)/21+1:=by omega);rw[e,EU];simp only[DQ,C6];rw[List.take_append,z,h1,Ez (by omega)]
def HP.b1{b nm:Bs}{ahead:Int}{l:List Pu}(h:HP b nm ahead l)(j:Nat)(hj:j<=b.length):HP (b.take j) nm ahead (l.take ((j-12)/21)):=by
 rcases h with⟨t,rfl,H⟩|⟨rfl,hb⟩
 ·by_cases h12:j<12
  ·exact .inr ⟨by (have:(j-12)/21=0:=by omega);rw[this];rfl,by rw[BU];omega⟩
  ·have⟨t',h1,h2⟩:=T1 l (AV (AB nm) (AR ahead)) t (j-12) H;refine .inl ⟨t',?_,h2⟩;unfold DH;(have z:(AT (AB nm) (AR ahead)).length=12:=by rw[EN,CD]);rw[C6,List.take_append,z,h1,Ez (by omega),C6]
 ·exact .inr ⟨by simp,by rw[BU];omega⟩
def Fp(c:FC)(l:List Pu):Nat:=min l.length ((c.2.toNat-12)/21)
def F5(bd:Int×Int)(nm:Bs):Prop:=(Bc nm).1≠0/\((Bc nm).1=1->(Bc nm).2<=bd.1)/\((Bc nm).1=2->(Bc nm).2<=bd.2)
def Z0:Bc Bl=(4,0):=by
 have z:Du [108] Bl=none:=IN (by decide);have h:Du [115] Bl=none:=IN (by decide);unfold Bc Gy;rw[z,h];simp[Gx,Hg,Bl,AF]
def YQ{bd:Int×Int}{n:Int}(h:isNum n=true)(z:n<=bd.1):F5 bd (Af n):=by unfold F5;rw[JE h];exact⟨by simp,λ_=>z,λh=>by simp at h⟩
def Sk{bd:Int×Int}{n:Int}(h:isNum n=true)(z:n<=bd.2):F5 bd (Aw n):=by unfold F5;rw[LS h];exact⟨by simp,λh=>by simp at h,λ_=>z⟩
def YR(bd:Int×Int):F5 bd AF:=by unfold F5;rw[SC];exact⟨by decide,λh=>absurd h (by decide),λh=>absurd h (by decide)⟩
def Sl(bd:Int×Int):F5 bd Bl:=by unfold F5;rw[Z0];exact⟨by decide,λh=>absurd h (by decide),λh=>absurd h (by decide)⟩
def Hv(bd:Int×Int)(ix:Ix)(sg:List (Int×List Pu)):Prop:=MZ ix/\ix.AW<=bd.1+1/\∀x∈sg,x.2≠[]
def HY(bd h:Int×Int):Prop:=bd.1<=h.1/\bd.2<=h.2
def F5.bc{bd z:Int×Int}{nm:Bs}(h:F5 bd nm)(H:HY bd z):F5 z nm:=⟨h.1,λe=>Lp (h.2.1 e) H.1,λe=>Lp (h.2.2 e) H.2⟩
def Hv.bc{bd z:Int×Int}{ix:Ix}{sg:List (Int×List Pu)}(h:Hv bd ix sg)(H:HY bd z):Hv z ix sg:=⟨h.1,by have:=h.2.1;have:=H.1;omega,h.2.2⟩
structure CW (bd:Int×Int) (V:View) (ix:Ix) (sg cl:List (Int×List Pu)) (lo:Option (Int×List Pu)):Prop where
 E2:Hv bd ix sg
 Ii:(V AF=none/\ix=⟨1,[]⟩)\/∃c,V AF=some c/\Cr c/\c.1=AT (AB AF) (Co ix.AW ix.segs)
 segs:sg.map (·.1)=ix.segs
 BT:∀x∈sg,((∀p∈x.2,B8 p)/\Cs Cq x.2=true)/\∃c,V (Aw x.1)=some c/\Cr c/\c.1=AT (AB (Aw x.1)) (Cb x.2)
 CQ:∀x∈cl,(isNum x.1=true/\ix.AW<=x.1)/\(∀p∈x.2,B8 p)/\∃c,V (Af x.1)=some c/\Cr c
 Al:Fw V 0 cl
 A8:∀n l,lo=some (n,l)->(isNum n=true/\ix.AW<=n)/\(∀p∈l,B8 p)/\∃c,V (Af n)=some c/\HP c.1 (Af n) (Az cl).length l
 Fj:(cl.map (·.1)++(lo.map (·.1)).toList).Pairwise (· < ·)
 CK:∀n,isNum n=true->ix.AW<=n->V (Af n)≠none->n∈cl.map (·.1)++(lo.map (·.1)).toList
 DZ:∀nm,V nm≠none->F5 bd nm
 E9:∀nm c,V nm=some c->0<=c.2/\c.2<=c.1.length
def HW(V V':View):Prop:=∀nm,(V nm=none/\V' nm=none)\/∃c,∃j:Nat,V nm=some c/\c.2<=j/\j<=c.1.length/\V' nm=some (c.1.take j,(j:Int))
section
variable{bd:Int×Int}{V V':View}{ix:Ix}{sg cl:List (Int×List Pu)}{lo:Option (Int×List Pu)}
def HW.dX(h:HW V V'){nm:Bs}(H:V nm=none):V' nm=Option.none:=by
 rcases h nm with⟨_,I⟩|⟨c,j,z,_⟩
 ·exact I
 ·rw[H]at z;cases z
def HW.bV(h:HW V V'){nm:Bs}{c:FC}(H:V nm=some c):∃j:Nat,c.2<=j/\j<=c.1.length/\V' nm=Option.some (c.1.take j,(j:Int)):=by
 rcases h nm with⟨z,_⟩|⟨d,j,z,I⟩
 ·rw[H]at z;cases z
 ·rw[H]at z;cases z;exact⟨j,I⟩
def HW.H4(h:HW V V'){nm:Bs}{c:FC}(H:V nm=Option.some c)(z:Cr c):V' nm=Option.some c:=by
 have⟨j,h1,h2,h3⟩:=h.bV H;unfold Cr at z;have e:j=c.1.length:=by omega
 rw[h3,e,Cj,<-z]
def CW.CP(h:CW bd V ix sg cl lo)(hc:HW V V'):(∀nm c,V' nm=some c->Cr c)/\
 match lo with
 | none=>CW bd V' ix sg cl none
 | some (n,l)=>∃c i,V (Af n)=some c/\Fp c l<=i/\i<=l.length/\CW bd V' ix sg cl (some (n,l.take i)):=by
 have Y:∀nm c,V' nm=some c->Cr c:=λnm c O=>by
  rcases hc nm with⟨_,z⟩|⟨d,j,H,z,I,X⟩
  ·rw[O]at z;cases z
  ·rw[X]at O;cases O;unfold Cr;dsimp only;rw[BU];omega
 have aB:∀nm,V' nm≠none->V nm≠none:=λnm O hv=>O (hc.dX hv);have aA:Fw V' 0 cl:=h.Al.bx λx hx=>by
  have⟨_,_,c,H,z⟩:=h.CQ x hx;rw[hc.H4 H z,H]
 have key:∀W:Option (Int×List Pu),W.map (·.1)=lo.map (·.1)->(∀n l,W=some (n,l)->(isNum n=true/\ix.AW<=n)/\(∀p∈l,B8 p)/\∃c,V' (Af n)=some c/\HP c.1 (Af n) (Az cl).length l)->CW bd V' ix sg cl W:=λW e hl=>
  ⟨h.E2,by
   rcases h.Ii with⟨H,z⟩|⟨c,H,z,I⟩
   ·exact .inl ⟨hc.dX H,z⟩
   ·exact .inr ⟨c,hc.H4 H z,z,I⟩,h.segs,λx hx=>by
   have⟨H,c,z,I,X⟩:=h.BT x hx
   exact⟨H,c,hc.H4 z I,I,X⟩,λx hx=>by
   have⟨H,z,c,I,X⟩:=h.CQ x hx
   exact⟨H,z,c,hc.H4 I X,X⟩,aA,hl,by rw[e];exact h.Fj,λn H z I=>by rw[e];exact h.CK n H z (aB _ I),λnm O=>h.DZ nm (aB _ O),λnm c O=>by
   have:=Y nm c O;unfold Cr at this;omega⟩
 refine⟨Y,?_⟩;cases lo with
 | none=>exact key none rfl λn l e=>by cases e
 | some x=>
  obtain⟨n,l⟩:=x;have⟨H,z,c,I,X⟩:=h.A8 n l rfl;have⟨j,j1,j2,j3⟩:=hc.bV I;refine⟨c,min l.length ((j-12)/21),I,?_,Nat.min_le_left _ _,key _ rfl λn' l' e=>?_⟩
  ·unfold Fp;have:(c.2.toNat-12)/21<=(j-12)/21:=A2M (by omega);omega
  ·cases e;have ht:l.take (min l.length ((j-12)/21))=l.take ((j-12)/21):=by
    rw[List.take_eq_take_iff];omega
   rw[ht];exact⟨H,λp hp=>z p (Iv hp),_,j3,X.b1 j j2⟩
def CW.bQ(h:CW bd V ix sg cl lo)(Y:∀nm,nm=AF\/(∃x∈sg,nm=Aw x.1)\/(∃n,isNum n=true/\ix.AW<=n/\nm=Af n)->(V nm=none/\V' nm=none)\/∃c d,V nm=some c/\V' nm=some d/\d.1=c.1/\(d.2=c.2\/Cr d))(h2:∀nm,V' nm≠none->F5 bd nm)(h3:∀nm c,V' nm=some c->0<=c.2/\c.2<=c.1.length):CW bd V' ix sg cl lo:=by
 have up:∀ {nm:Bs} {c:FC},(nm=AF\/(∃x∈sg,nm=Aw x.1)\/(∃n,isNum n=true/\ix.AW<=n/\nm=Af n))->V nm=some c->∃d,V' nm=some d/\d.1=c.1/\(Cr c->Cr d):=λ{nm c} hn hv=>by
  rcases Y nm hn with⟨q,_⟩|⟨c',d,z,O,I,H⟩
  ·rw[hv]at q;cases q
  ·rw[hv]at z;cases z;refine⟨d,O,I,λhd=>?_⟩;rcases H with H|H
   ·unfold Cr at hd ⊢;rw[I,H];exact hd
   ·exact H
 have W:∀x∈cl,(V' (Af x.1)).map (·.1)=(V (Af x.1)).map (·.1):=λx X=>by
  have⟨z,_,c,I,_⟩:=h.CQ x X;have⟨d,d1,d2,_⟩:=up (.inr (.inr ⟨x.1,z.1,z.2,rfl⟩)) I;rw[d1,I];simp[d2]
 refine⟨h.E2,?_,h.segs,λx X=>?_,λx X=>?_,h.Al.bx W,λn l e=>?_,h.Fj,λn z O I=>h.CK n z O λq=>?_,h2,h3⟩
 ·rcases h.Ii with⟨z,O⟩|⟨c,z,O,I⟩
  ·rcases Y AF (.inl rfl) with⟨_,q⟩|⟨c',d,H,_⟩
   ·exact .inl ⟨q,O⟩
   ·rw[z]at H;cases H
  ·have⟨d,d1,d2,d3⟩:=up (.inl rfl) z;exact .inr ⟨d,d1,d3 O,by rw[d2];exact I⟩
 ·have⟨z,c,O,I,H⟩:=h.BT x X;have⟨d,d1,d2,d3⟩:=up (.inr (.inl ⟨x,X,rfl⟩)) O;exact⟨z,d,d1,d3 I,by rw[d2];exact H⟩
 ·have⟨z,O,c,I,H⟩:=h.CQ x X;have⟨d,d1,d2,d3⟩:=up (.inr (.inr ⟨x.1,z.1,z.2,rfl⟩)) I;exact⟨z,O,d,d1,d3 H⟩
 ·have⟨z,O,c,I,H⟩:=h.A8 n l e;have⟨d,d1,d2,d3⟩:=up (.inr (.inr ⟨n,z.1,z.2,rfl⟩)) I;exact⟨z,O,d,d1,by rw[d2];exact H⟩
 ·rcases Y (Af n) (.inr (.inr ⟨n,z,O,rfl⟩)) with⟨_,H⟩|⟨c,d,H,_⟩
  ·exact I H
  ·rw[q]at H;cases H
def CW.bc{z:Int×Int}(h:CW bd V ix sg cl lo)(H:HY bd z):CW z V ix sg cl lo:=
 ⟨h.E2.bc H,h.Ii,h.segs,h.BT,h.CQ,h.Al,h.A8,h.Fj,h.CK,λnm I=>(h.DZ nm I).bc H,h.E9⟩
end
def Ci.C(o:Int)(a:List Pu):Ci o a a:=⟨λ_ _ _=>rfl,λp h=>⟨p,h,rfl,rfl⟩,Aq _⟩
def Ci.AJ{o:Int}{a b c:List Pu}(h:Ci o a b)(z:Ci o b c):Ci o a c:=⟨λk t H=>(h.1 k t H).trans (z.1 k t H),λp I=>by
 have⟨q,hq,e1,e2⟩:=h.2.1 p I;have⟨r,hr,e3,e4⟩:=z.2.1 q hq
 exact⟨r,hr,e3.trans e1,e4.trans e2⟩,AH h.2.2 z.2.2⟩
def Ci.eT{o z:Int}{a b:List Pu}(h:Ci o a b)(ho:o<=z):Ci z a b:=⟨λk t ht=>h.1 k t (by omega),h.2⟩
def Ci.dh{o:Int}{a b:List Pu}(h:Ci o a b)(c:List Pu):Ci o (a++c) (b++c):=⟨λk t H=>by rw[Gz,Gz,h.1 k t H],λp z=>by
 rcases AU.1 z with z|z
 ·have⟨q,hq,e⟩:=h.2.1 p z;exact⟨q,Fx _ hq,e⟩
 ·exact⟨p,GX _ z,rfl,rfl⟩,by have:=h.2.2;rw[AX,AX];omega⟩
def Ci.fF{o:Int}{a b:List Pu}(H:∀k t,o<=t->BC a k t=BC b k t)(z:∀p∈a,p∈b)(I:a.length<=b.length):Ci o a b:=⟨H,λp h=>⟨p,z p h,rfl,rfl⟩,I⟩
def Holds(bd:Int×Int)(V:View)(puts:List Pu)(Ag:Nat)(o:Int):Prop:=
 ∃ix H z h nb,CW bd V ix H z h/\nb<=puts.length/\Ci o (Az H++Az z) (puts.take nb)/\
  (∀n l,h=some (n,l)->∃c,V (Af n)=some c/\Ag<=nb+Fp c l/\l=(puts.drop nb).take l.length)/\(h=none->Ag<=nb)
def EG:Option (Int×List Pu)->List Pu
 | none=>[]
 | some x=>x.2
section
variable{bd:Int×Int}{V V':View}{puts:List Pu}{Ag:Nat}{o:Int}
def Holds.CP(h:Holds bd V puts Ag o)(hc:HW V V'):∃ix z H I n,CW bd V' ix z H I/\(∀nm c,V' nm=some c->Cr c)/\Ag<=n/\n<=puts.length/\Ci o (Az z++Az H++EG I) (puts.take n):=by
 obtain⟨ix,z,H,I,nb,hL,O,W,Y,X⟩:=h;have⟨hd,hcut⟩:=hL.CP hc;cases I with
 | none=>exact⟨ix,z,H,none,nb,hcut,hd,X rfl,O,by simpa[EG] using W⟩
 | some x=>
  obtain⟨n,l⟩:=x;obtain⟨c,i,c1,c2,c3,c4⟩:=hcut;have⟨c',d1,d2,d3⟩:=Y n l rfl;rw[c1]at d1;cases d1;have hl:l.length<=(puts.drop nb).length:=by
   have:=E5 List.length d3;rw[BU]at this;omega
  rw[CM]at hl;refine⟨ix,z,H,some (n,l.take i),nb+i,c4,hd,by omega,by omega,?_⟩;have e:puts.take (nb+i)=puts.take nb++l.take i:=by
   rw[List.take_add,d3,K4]
   congr 2;omega
  rw[e];exact W.dh _
def Holds.bc{z:Int×Int}(h:Holds bd V puts Ag o)(O:HY bd z):Holds z V puts Ag o:=by
 obtain⟨ix,X,H,W,nb,I,r⟩:=h;exact⟨ix,X,H,W,nb,I.bc O,r⟩
def Holds.b5(h:Holds bd V puts Ag o)(q:List Pu):Holds bd V (puts++q) Ag o:=by
 obtain⟨ix,sg,H,I,nb,X,z,hs,Y,W⟩:=h;refine⟨ix,sg,H,I,nb,X,by simp;omega,by rw[GW z];exact hs,λn l e=>?_,W⟩;have⟨c,d1,d2,d3⟩:=Y n l e;refine⟨c,d1,d2,?_⟩;have O:l.length<=(puts.drop nb).length:=by
  have:=E5 List.length d3;rw[BU]at this;omega
 rw[Ll z,GW O];exact d3
def Holds.bz{ix:Ix}{H z:List (Int×List Pu)}(O:CW bd V ix H z none)(I:Ci o (Az H++Az z) puts)(h:Ag<=puts.length):Holds bd V puts Ag o:=
 ⟨ix,H,z,none,puts.length,O,Aq _,by rw[Cj];exact I,λn l e=>(by cases e),λ_=>h⟩
def TL{c d:FC}{l:List Pu}(H:d.1=c.1)(h:d.2=c.2\/Cr d)(z:c.2<=c.1.length):Fp c l<=Fp d l:=by
 unfold Fp;have:c.2<=d.2:=by
  rcases h with h|h
  ·omega
  ·unfold Cr at h;rw[h,H];exact z
 have:(c.2.toNat-12)/21<=(d.2.toNat-12)/21:=A2M (by omega);omega
def Holds.bQ(h:Holds bd V puts Ag o)(I:∀nm,(∀c,V nm=some c->∃d,V' nm=some d/\d.1=c.1/\(d.2=c.2\/Cr d))/\(V nm=none->V' nm=none)):Holds bd V' puts Ag o:=by
 obtain⟨ix,sg,cl,lo,nb,W,X,hs,g1,Y⟩:=h;have O:∀nm,V' nm≠none->V nm≠none:=λnm z H=>z ((I nm).2 H);refine⟨ix,sg,cl,lo,nb,W.bQ (λnm _=>?_) (λnm z=>W.DZ nm (O nm z)) (λnm c z=>?_),X,hs,λn l e=>?_,Y⟩
 ·cases H:V nm with
  | none=>exact .inl ⟨rfl,(I nm).2 H⟩
  | some c=>have⟨d,d1,d2,d3⟩:=(I nm).1 c H;exact .inr ⟨c,d,rfl,d1,d2,d3⟩
 ·cases H:V nm with
  | none=>rw[(I nm).2 H]at z;cases z
  | some x=>
   have⟨d,d1,d2,d3⟩:=(I nm).1 x H;rw[d1]at z;cases z;have:=W.E9 nm x H;rcases d3 with d3|d3
   ·rw[d2,d3];exact this
   ·unfold Cr at d3;omega
 ·have⟨c,d1,d2,d3⟩:=g1 n l e;have⟨d,e1,e2,e3⟩:=(I _).1 c d1;exact⟨d,e1,AH d2 (Lc (TL e2 e3 (W.E9 _ _ d1).2) _),d3⟩
def FO(bd:Int×Int)(V:View)(puts:List Pu)(Ag:Nat)(o:Int)(n:Int)(ahead:Nat):Prop:=
 ∃ix z h l nb c,CW bd V ix z h (some (n,l))/\nb<=puts.length/\Ci o (Az z++Az h) (puts.take nb)/\V (Af n)=some c/\c.1=DH (Af n) ahead l/\ahead=(Az h).length/\Ag<=nb+Fp c l/\l=puts.drop nb
def FO.bc{z:Int×Int}{n:Int}{ahead:Nat}(h:FO bd V puts Ag o n ahead)(I:HY bd z):FO z V puts Ag o n ahead:=by
 obtain⟨ix,W,H,l,nb,c,O,r⟩:=h;exact⟨ix,W,H,l,nb,c,O.bc I,r⟩
def FO.ck{n:Int}{ahead:Nat}(h:FO bd V puts Ag o n ahead):Holds bd V puts Ag o:=by
 obtain⟨ix,X,cl,l,nb,c,W,z,Y,I,h2,h3,H,O⟩:=h;exact⟨ix,X,cl,some (n,l),nb,W,z,Y,λn' l' e=>by cases e;exact⟨c,I,H,by rw[<-O,Cj]⟩,λe=>by cases e⟩
def FO.al{n:Int}{ahead:Nat}(h:FO bd V puts Ag o n ahead)(p:Pu)(hp:B8 p)(j:Nat){s:Nat}(aE:∀l c,V (Af n)=some c->c.1=DH (Af n) ahead l->s=Eg (Af n) ahead l)(I:∀nm,nm≠Af n->V' nm=V nm)(h2:∀c,V (Af n)=some c->V' (Af n)=some (c.1++(AT s (B9 p.1 p.2.1 p.2.2)).take j,c.2)):
 (21<=j->FO bd V' (puts++[p]) Ag o n ahead)/\(j<21->Holds bd V' puts Ag o):=by
 obtain⟨ix,sg,cl,l,nb,c,H,Y,hs,g1,g2,g3,g4,g5⟩:=h;have aG:=aE l c g1 g2;have hv:=h2 c g1;have hpl:(AT s (B9 p.1 p.2.1 p.2.2)).length=21:=by rw[EN,EE]
 have⟨q1,q2,c',q3,q4⟩:=H.A8 n l rfl;rw[g1]at q3;cases q3;have O:=(Eu.1 H.Fj).2.2;have aA:∀x∈cl,Af x.1≠Af n:=λx z e=>by
  have e2:=FJ (H.CQ x z).1.1 q1.1 e;have:=O x.1 (DD z) n (by simp);omega
 have X:Fw V' 0 cl:=H.Al.bx λx z=>by rw[I _ (aA x z)]
 have mk:∀l',(∀p∈l',B8 p)->HP (c.1++(AT s (B9 p.1 p.2.1 p.2.2)).take j) (Af n) (Az cl).length l'->CW bd V' ix sg cl (some (n,l')):=λl' aD aB=>
  ⟨H.E2,by rw[I _ (H0 n).symm];exact H.Ii,H.segs,λx z=>by rw[I _ (EY n x.1).symm];exact H.BT x z,λx z=>by rw[I _ (aA x z)];exact H.CQ x z,X,
   λn' l2 e=>by cases e;exact⟨q1,aD,_,hv,aB⟩,H.Fj,λk k1 k2 k3=>by
    by_cases e:Af k=Af n
    ·have:=FJ k1 q1.1 e;subst this;simp
    ·rw[I _ e]at k3;exact H.CK k k1 k2 k3,λnm W=>by
    by_cases e:nm=Af n
    ·subst e;exact H.DZ _ (by rw[g1];simp)
    ·rw[I _ e]at W;exact H.DZ nm W,λnm d W=>by
    by_cases e:nm=Af n
    ·subst e;rw[hv]at W;cases W;have:=H.E9 _ _ g1;dsimp only;rw[AX];omega
    ·rw[I _ e]at W;exact H.E9 nm d W⟩
 constructor
 ·intro hj;have ht:(AT s (B9 p.1 p.2.1 p.2.2)).take j=AT s (B9 p.1 p.2.1 p.2.2):=Ez (by omega);have hb:c.1++(AT s (B9 p.1 p.2.1 p.2.2)).take j=DH (Af n) ahead (l++[p]):=by rw[ht,g2,aG,(O7 _ _ _ _).1]
  have aF:∀x∈l++[p],B8 x:=λx z=>by
   rcases AU.1 z with z|z
   ·exact q2 x z
   ·simp at z;subst z;exact hp
  refine⟨ix,sg,cl,l++[p],nb,_,mk _ aF (.inl ⟨[],by rw[hb,g3];simp,by simp⟩),by simp;omega,by rw[GW Y];exact hs,hv,hb,g3,?_,by rw[Ll Y,<-g5]⟩;have:Fp c l<=Fp (c.1++(AT s (B9 p.1 p.2.1 p.2.2)).take j,c.2) (l++[p]):=by unfold Fp;simp;omega
  omega
 ·intro hj
  refine⟨ix,sg,cl,some (n,l),nb,mk l q2 (.inl ⟨_,by rw[g2,g3],by rw[BU];omega⟩),Y,hs,λn' l' e=>by
   cases e
   exact⟨_,hv,by unfold Fp at g4 ⊢;exact g4,by rw[<-g5,Cj]⟩,λe=>by cases e⟩
end
end
end Go.Proofs.YtodcnkbblippnabGreatDoor
