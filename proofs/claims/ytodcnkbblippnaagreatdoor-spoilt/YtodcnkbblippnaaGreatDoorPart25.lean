/- Part 25 of a proof: walks of the program. -/
import Derived.Test.YtodcnkbblippnaaGreatDoorPart24
namespace Go.Proofs.YtodcnkbblippnaaGreatDoor
set_option maxRecDepth 100000
set_option maxHeartbeats 32000000
set_option linter.defProp false
open Go.Proofs.Tryz
section
open Go.RowKit
def Ux(a b:gg):less a b=true↔a.data.toList<b.data.toList:=by
 unfold less;rw[VU,KV,KV,E0]
def A16(l:gh gg)(x:gg):∀k,k<=l.length->(∀i (z:i<l.length),EC l x k<=i->i<k->less x (l[i]'z)=true)/\∀(_:0<EC l x k) (z:EC l x k-1<l.length),less x (l[EC l x k-1]'z)=false:=by
 intro k
 induction k with
 | zero=>intro _;exact⟨λi z E H=>by omega,λh=>by simp[EC]at h⟩
 | succ k ih=>
  intro hk;have d:k<l.length:=by omega
  have⟨i1,i2⟩:=ih (by omega);by_cases h:less x (l[k]'d)=true
  ·rw[UW l x k d h];refine⟨λi z E H=>?_,i2⟩;by_cases e:i=k
   ·subst e;exact h
   ·exact i1 i z E (by omega)
  ·rw[UU l x k d (by simpa using h)];exact⟨λi z E H=>by omega,λ_ _=>by simpa using h⟩
def M8(l:gh gg):Prop:=l.Pairwise λa b=>a.data.toList<b.data.toList
def A1Y{l:gh gg}(h:M8 l){x:gg}(hx:x∉l):M8 (ins l x):=by
 have⟨h1,h2⟩:=A16 l x l.length (Ao _);have aA:=UX l x l.length;unfold ins;generalize EC l x l.length=k at h1 h2 aA;have hp:M8 (l.take k++l.drop k):=by rw[DU];exact h
 have E:=Ez.1 hp;refine Ez.2 ⟨E.1,D7.2 ⟨λy hy=>?_,E.2.1⟩,λa ha b Y=>?_⟩
 ·obtain⟨i,hi,rfl⟩:=DV hy;rw[CO]at hi;rw[List.getElem_drop];exact(Ux _ _).1 (h1 (k+i) (by omega) (by omega) (by omega))
 ·rcases BB.1 Y with rfl|Y
  ·obtain⟨i,hi,rfl⟩:=DV ha;rw[BT]at hi;(have z:k-1<l.length:=by omega);have L:=h2 (by omega) z;have d:(l[k-1]'z).data.toList<b.data.toList:=by
    (have O:¬b.data.toList<(l[k-1]'z).data.toList:=λW=>by rw[(Ux _ _).2 W]at L;cases L);have I:=List.not_lt.1 O;by_cases H:(l[k-1]'z).data.toList<b.data.toList
    ·exact H
    ·refine absurd ?_ hx;have e:=List.le_antisymm I (List.not_lt.1 H);(have:l[k-1]'z=b:=by rw[<-FO (l[k-1]'z),<-FO b,e]);rw[<-this];exact BU _
   rw[WS];by_cases e:i=k-1
   ·subst e;exact d
   ·have:=Ij.1 h i (k-1) (by omega) z (by omega);exact List.lt_trans this d
  ·exact E.2.2 a ha b Y
def A2T(es:gh AM)(E:(es.map (·.1)).Nodup):∀k,k<=es.length->M8 (ER es k):=by
 intro k
 induction k with
 | zero=>intro _;simp[ER,M8]
 | succ k ih=>
  intro hk;have d:k<es.length:=by omega
  rw[Nf es k d];refine A1Y (ih (by omega)) λh=>?_;have:=(Vq es k (by omega)).mem_iff.1 h;have⟨e,he,h2⟩:=CC.1 this;obtain⟨i,z,rfl⟩:=DV he;rw[BT]at z;rw[WS]at h2;have:i=k:=Kb E (by simp;omega) (by simpa using d) (by simpa using h2);omega
def Cm.up{P:PD}{N R:Nat}(h:Cm P N R):P.Ai.Pairwise (· < ·):=by
 unfold PD.Ai;rw[Mj];exact A2T P.D.A4 h.Cj _ (Ao _)
def GP:Nat->Nat->Bs
 | 0,_=>[]
 | k+1,u=>GP k (u/10)++[UInt8.ofNat (48+u % 10)]
def Lt:∀k u,(GP k u).length=k
 | 0,_=>rfl
 | k+1,u=>by simp[GP,Lt k]
def Tt:∀k,GP k 0=List.replicate k 48
 | 0=>rfl
 | k+1=>by
  unfold GP;rw[Nat.zero_div,Tt k,List.replicate_succ'];rfl
def Tu:∀k u,u<10 ^ (k+1)->List.replicate (k+1-Lib.nDigits u) 48++Lib.decDigits u=GP (k+1) u
 | 0,u,h=>by
  have d:u<10:=by simpa using h
  rw[QO d,Lib.decDigits,dif_pos d];simp[GP,Nat.mod_eq_of_lt d]
 | k+1,u,h=>by
  by_cases d:u<10
  ·rw[QO d,Lib.decDigits,dif_pos d];unfold GP;rw[Nat.div_eq_of_lt d,Tt,Nat.mod_eq_of_lt d];rfl
  ·have z:=Tu k (u/10) (by rw[J4]at h;omega);rw[X1 d,Lib.decDigits,Qe d,<-Ch];(have e:k+1+1-(Lib.nDigits (u/10)+1)=k+1-Lib.nDigits (u/10):=by omega);rw[e,z]
   conv=>rhs;unfold GP
def Un:∀ {a b x y:Bs},a.length=b.length->a<b->a++x<b++y
 | [],b,x,y,hl,h=>by
  have:b=[]:=GG.1 hl.symm;subst this;exact absurd h (Hs _)
 | c::a,[],x,y,hl,h=>by simp at hl
 | c::a,d::b,x,y,hl,h=>by
  rw[FD,FD,JP];rw[JP]at h;rcases h with h|⟨E,z⟩
  ·exact .inl h
  ·exact .inr ⟨E,Un (by simpa using hl) z⟩
def Um:∀ {a x y:Bs},x<y->a++x<a++y
 | [],x,y,h=>h
 | c::a,x,y,h=>by rw[FD,FD,JP];exact .inr ⟨rfl,Um h⟩
def Pa:∀k {u v:Nat},v<10 ^ k->u<v->GP k u<GP k v
 | 0,u,v,hv,h=>by simp at hv;omega
 | k+1,u,v,hv,h=>by
  have d:v/10<10 ^ k:=by rw[J4]at hv;omega
  unfold GP;by_cases z:u/10<v/10
  ·exact Un (by rw[Lt,Lt]) (Pa k d z)
  ·(have e:u/10=v/10:=by omega);rw[e];refine Um ?_;rw[JP];refine .inl ?_;rw[UInt8.lt_iff_toNat_lt];simp;omega
def K9{n:Int}(h0:1<=n)(h1:n<=4611686018427387904):Lib.repeatL [48] (19-(Lib.itoa n).length)++Lib.itoa n=GP 19 n.toNat:=by
 rw[N3 (by omega),X2,Sy];exact Tu 18 n.toNat (by (have:(10:Nat) ^ 19=10000000000000000000:=by decide);omega)
def A0T{a b:Int}(d:isNum a=true)(z:isNum b=true)(h:a<b):Af a<Af b:=by
 unfold isNum at d z;simp at d z;rw[II,II,K9 d.1 d.2,K9 z.1 z.2,JP];exact .inr ⟨rfl,Pa 19 (by (have:(10:Nat) ^ 19=10000000000000000000:=by decide);omega) (by omega)⟩
def A0O{a b:Int}(d:isNum a=true)(z:isNum b=true)(h:a<b):Aw a<Aw b:=by
 unfold isNum at d z;simp at d z;rw[I8,I8,K9 d.1 d.2,K9 z.1 z.2,JP];exact .inr ⟨rfl,Pa 19 (by (have:(10:Nat) ^ 19=10000000000000000000:=by decide);omega) (by omega)⟩
def A08{f:Int->Bs}(z:∀a b,isNum a=true->isNum b=true->a<b->f a<f b){a b:Int}(E:isNum a=true)(H:isNum b=true)(h:f a<f b):a<b:=by
 rcases Int.lt_trichotomy a b with d|d|d
 ·exact d
 ·subst d;exact absurd h (Hs _)
 ·exact absurd (List.lt_trans h (z b a H E d)) (Hs _)
def Pk{f:Int->Bs}(z:∀a b,isNum a=true->isNum b=true->a<b->f a<f b)(g:Bs->Option Int)(d:∀nm n,g nm=some n->isNum n=true/\f n=nm):∀ {l:gh Bs},l.Pairwise (· < ·)->(l.filterMap g).Pairwise (· < ·)
 | [],_=>by simp
 | nm::r,h=>by
  have E:=D7.1 h;have H:=Pk z g d E.2;cases hx:g nm with
  | none=>rw[List.filterMap_cons_none hx];exact H
  | some n=>
   rw[List.filterMap_cons_some hx];refine D7.2 ⟨λm I=>?_,H⟩;have⟨nm2,h2,h3⟩:=KP.1 I;have⟨a1,a2⟩:=d nm n hx;have⟨b1,b2⟩:=d nm2 m h3;exact A08 z a1 b1 (by rw[a2,b2];exact E.1 nm2 h2)
def A1a{l:gh Bs}(first:Int)(h:l.Pairwise (· < ·)):(Br first l).Pairwise (· < ·):=by
 unfold Br;refine Pk (f:=Af) (λa b=>A0T) _ (λnm n d=>?_) h;by_cases z:(Ba nm).1=1/\first<=(Ba nm).2
 ·rw[Ae z]at d;simp at d;subst d;have:=LB z.1;exact⟨by unfold isNum;simp;exact this.1,this.2⟩
 ·rw[Aa z]at d;cases d
def YZ{l:gh Bs}(h:l.Pairwise (· < ·)):(l.filterMap λnm=>if (Ba nm).1=2 then some (Ba nm).2 else none).Pairwise (· < ·):=by
 refine Pk (f:=Aw) (λa b=>A0O) _ (λnm n d=>?_) h;by_cases z:(Ba nm).1=2
 ·rw[Ae z]at d;simp at d;subst d;have:=MV z;exact⟨by unfold isNum;simp;exact this.1,this.2⟩
 ·rw[Aa z]at d;cases d
def OO{l:gh Int}(h:l.Pairwise (· < ·)){n:Int}(z:n∈l)(d:Int):n<=l.getLastD d:=by
 have E:l≠[]:=λe=>by subst e;cases z
 obtain⟨m,x,rfl⟩:∃m x,l=m++[x]:=⟨l.dropLast,l.getLast E,(NX E).symm⟩;have e:(m++[x]).getLastD d=x:=by simp
 rw[e];rcases AU.1 z with z|z
 ·exact Int.le_of_lt ((Ez.1 h).2.2 n z x (by simp))
 ·simp at z;omega
def Sp:∀ {l l':gh Int},l.Pairwise (· < ·)->l'.Pairwise (· < ·)->(∀x,x∈l↔x∈l')->l=l'
 | [],[],_,_,_=>rfl
 | [],y::r,_,_,h=>by have:=(h y).2 (Bt ..);cases this
 | x::r,[],_,_,h=>by have:=(h x).1 (Bt ..);cases this
 | x::r,y::s,h1,h2,h=>by
  have E:=D7.1 h1;have d:=D7.1 h2;have I:x=y:=by
   rcases BB.1 ((h x).1 (Bt ..)) with e|e
   ·exact e
   ·rcases BB.1 ((h y).2 (Bt ..)) with L|L
    ·exact L.symm
    ·have a:=d.1 x e;have b:=E.1 y L;omega
  subst I
  congr 1
  refine Sp E.2 d.2 λz=>⟨λH=>?_,λH=>?_⟩
  ·rcases BB.1 ((h z).1 (Bp _ H)) with e|e
   ·subst e;have:=E.1 z H;omega
   ·exact e
  ·rcases BB.1 ((h z).2 (Bp _ H)) with e|e
   ·subst e;have:=d.1 z H;omega
   ·exact e
def shut(cl:gh (Int×gh Pu))(d:Int):Option (gh Pu)->gh (Int×gh Pu)
 | none=>cl
 | some l=>cl++[(d,l)]
def OA(cl:gh (Int×gh Pu))(d:Int)(ol:Option (gh Pu)):Au (shut cl d ol)=Au cl++ol.getD []:=by
 cases ol<;>simp[shut,Au]
section
variable{P P':PD}{A:Ar}{sg cl:gh (Int×gh Pu)}{ol:Option (gh Pu)}{N R:Nat}
def Lay.bQ(h:Lay P A sg cl ol):A.j.Ak=(shut cl A.j.A8 ol).map (·.1):=by
 have:=h.AE;cases ol with
 | none=>exact this.2
 | some l=>rw[this.2.1];simp[shut]
def Lay.dN(h:Lay P A sg cl ol)(d:(Au cl).length<=1099511627776):EY P 0 (shut cl A.j.A8 ol):=by
 have E:=h.AE;cases ol with
 | none=>exact h.Ak
 | some l=>
  obtain⟨-,h1,z,H,h4⟩:=E
  exact h.Ak.bS (by
   have:=h.Gx;rw[O1,<-this]
   exact Px (t:=[]) (h.dr d) H (by simp) (by simpa using z))
def Lay.CK(h:Lay P A sg cl ol):P.CK=some A.ix:=by
 rcases h.ix with⟨d,z⟩|d
 ·rw[A2c d,z]
 ·exact A2a h.DH d
def Lay.aT(h:Lay P A sg cl ol)(hc:Cm P N R)(hl:(Au cl).length<=1099511627776):
 ∃A',Ar.aT P=.ok (A',B7 sg cl ol)/\Lay P A' sg (shut cl A.j.A8 ol) none/\A'.ix=A.ix/\A'.j.A8<=max A.j.A8 (A.ix.AZ-1)/\A'.A8<=A.A8/\A'.AN=A'.aX P:=by
 have aE:=hc.up;have aF:Br A.ix.AZ P.Ai=A.j.Ak:=by
  refine Sp (A1a _ aE) h.Hl λn=>⟨λhn=>?_,λhn=>?_⟩
  ·have⟨I,z,h3⟩:=Pw hn;exact h.HC n (by unfold isNum;simpa using z) I (Es.1 h3)
  ·rw[h.bQ]at hn;obtain⟨x,d,rfl⟩:=CC.1 hn;have W:isNum x.1=true/\A.ix.AZ<=x.1:=by
    cases ol with
    | none=>exact⟨(h.CV x d).1.1,h.EO.1 x d⟩
    | some l=>
     rcases AU.1 d with d|d
     ·exact⟨(h.CV x d).1.1,h.EO.1 x d⟩
     ·simp at d;subst d;exact⟨h.AE.2.2.2.2,h.EO.2 (by simp)⟩
   have aG:=Es.2 ((h.dN hl).DG d);unfold Br;refine KP.2 ⟨Af x.1,aG,?_⟩;rw[LA W.1];simp[W.2]
 have aH:P.Ai.any (λnm=>decide ((Ba nm).1=0))=false:=by
  rw[Bool.eq_false_iff];intro d;have⟨nm,I,z⟩:=QN.1 d;exact h.Ef nm (Es.1 I) (by simpa using z)
 have hp:=h.pd hl;obtain⟨O,Y⟩:∃O,(P.Ai.filterMap λnm=>if (Ba nm).1=2 then some (Ba nm).2 else none)=O:=⟨_,rfl⟩;have aA:=YZ aE;rw[Y]at aA;have aD:∀n,n∈O↔isNum n=true/\P.bs (Aw n)≠none:=λn=>by
  rw[<-Y,KP];constructor
  ·rintro⟨nm,I,z⟩;by_cases d:(Ba nm).1=2
   ·rw[Ae d]at z;simp at z;subst z;have:=MV d;exact⟨by unfold isNum;simp;exact this.1,by rw[this.2];exact Es.1 I⟩
   ·rw[Aa d]at z;cases z
  ·rintro⟨I,z⟩;refine⟨Aw n,Es.2 z,?_⟩;rw[Pr I];simp
 obtain⟨A',H⟩:∃A':Ar,(⟨A.ix,⟨A.j.Ak,A.j.Ak.getLastD (A.ix.AZ-1),((Au cl++ol.getD []).length:Int),none⟩,O.getLastD 0,(⟨A.ix,⟨A.j.Ak,A.j.Ak.getLastD (A.ix.AZ-1),((Au cl++ol.getD []).length:Int),none⟩,O.getLastD 0,[]⟩:Ar).aX P⟩:Ar)=A':=⟨_,rfl⟩;have aB:Ar.aT P=.ok (A',B7 sg cl ol):=by
  unfold Ar.aT;rw[h.CK];dsimp only
  rw[aH,Aa (by simp),h.b4];dsimp only
  rw[aF,hp,Aa (by simp),Y];have hj:P.bB A.ix.AZ=⟨A.j.Ak,A.j.Ak.getLastD (A.ix.AZ-1),((Au cl++ol.getD []).length:Int),none⟩:=by
   unfold PD.bB;rw[aF,hp]
  rw[hj,<-H];rfl
 have L:∀x∈shut cl A.j.A8 ol,(isNum x.1=true/\x.1<=A.j.A8)/\A.ix.AZ<=x.1/\∀p∈x.2,B8 p:=λx d=>by
  cases ol with
  | none=>exact⟨(h.CV x d).1,h.EO.1 x d,(h.CV x d).2⟩
  | some l=>
   rcases AU.1 d with d|d
   ·exact⟨(h.CV x d).1,h.EO.1 x d,(h.CV x d).2⟩
   ·simp at d;subst d;exact⟨⟨h.AE.2.2.2.2,I0 _⟩,h.EO.2 (by simp),h.AE.2.2.2.1⟩
 have E:∀n∈A.j.Ak,n<=A.j.Ak.getLastD (A.ix.AZ-1):=λn hn=>OO h.Hl hn _;have hge:A.ix.AZ-1<=A.j.Ak.getLastD (A.ix.AZ-1):=by
  cases d:A.j.Ak with
  | nil=>simp
  | cons y r=>
   (have hy:y∈A.j.Ak:=by rw[d];exact Bt ..);have I:=E y hy;rw[d]at I;have z:A.ix.AZ<=y:=by
    rw[h.bQ]at hy;have⟨x,hx3,hx4⟩:=CC.1 hy;rw[<-hx4];exact(L x hx3).2.1
   omega
 have aI:A.j.Ak.getLastD (A.ix.AZ-1)<=max A.j.A8 (A.ix.AZ-1):=by
  cases d:A.j.Ak with
  | nil=>simp;omega
  | cons y r=>
   have hm:(y::r).getLastD (A.ix.AZ-1)∈A.j.Ak:=by
    rw[d];(have:(y::r).getLastD (A.ix.AZ-1)=(y::r).getLast (by simp):=by rw[KQ,A46 (by simp)];rfl);rw[this];exact List.getLast_mem _
   rw[h.bQ]at hm;have⟨x,hx2,hx3⟩:=CC.1 hm;have:=(L x hx2).1.2;rw[hx3]at this;omega
 have hfn:1<=A.ix.AZ:=by have:=h.DH.AZ;unfold isNum at this;simp at this;exact this.1
 refine⟨A',aB,?_,by rw[<-H],by rw[<-H];exact aI,?_,by rw[<-H];rfl⟩
 ·rw[<-H]
  refine⟨h.DH,h.ix,h.sd,h.BN,λx d=>⟨⟨(L x d).1.1,E _ (by rw[h.bQ];exact E5 d)⟩,(L x d).2.2⟩,λx _ d=>absurd rfl d,⟨λx d=>(L x d).2.1,λd=>absurd rfl d⟩,h.dN hl,?_,⟨rfl,h.bQ⟩,
   ⟨by dsimp only;omega,by dsimp only;omega,λn hk d=>?_⟩,⟨?_,λn hk d=>OO aA ((aD n).2 ⟨hk,d⟩) 0⟩,λnm hm=>?_,h.Hl,h.Ef,h.HC⟩
  ·dsimp only;rw[OA]
  ·dsimp only
   by_cases hf:A.ix.AZ<=n
   ·exact E n (h.HC n hk hf d)
   ·omega
  ·dsimp only
   cases d:O with
   | nil=>simp
   | cons y r=>
    have I:=OO aA (n:=y) (by rw[d];exact Bt ..) 0;have z:=((aD y).1 (by rw[d];exact Bt ..)).1;unfold isNum at z;simp at z;rw[d]at I;omega
  ·exact Es.1 (GX.1 hm).1
 ·rw[<-H];dsimp only
  cases d:O with
  | nil=>simp;exact h.Ep.1
  | cons y r=>
   have hm:(y::r).getLastD 0∈O:=by
    rw[d];(have:(y::r).getLastD 0=(y::r).getLast (by simp):=by rw[KQ,A46 (by simp)];rfl);rw[this];exact List.getLast_mem _
   have:=(aD _).1 hm;exact h.Ep.2 _ this.1 this.2
end
abbrev View:=Bs->Option FC
def vw(F:Nat->FC)(s:gh AM):View:=λnm=>(lookup s (A6 nm)).map F
def Rk(P:PD):vw P.F P.D.A4=P.fl:=rfl
def BV(c:FC):Prop:=c.2=c.1.length
def Jv(V:View)(n a:Int):gh Pu×Int:=match V (Af n) with
 | some c=>Ee (AB (Af n)) a c.1
 | none=>([],8)
def A1h(P:PD)(n a:Int):P.aU n a=Jv P.fl n a:=by
 unfold Jv;cases hx:P.fl (Af n) with
 | some c=>
  have d:P.bs (Af n)=some c.1:=by unfold PD.bs;rw[hx];rfl
  exact MY d
 | none=>
  have d:P.bs (Af n)=none:=by unfold PD.bs;rw[hx];rfl
  unfold PD.aU Gi;have e:DQ P.D P.F ⟨(Af n).toArray⟩=([],8):=by have:=@FQ P (Af n);unfold PD.Ck at this;rw[d]at this;exact this
  rw[e];simp
def FA(V:View):Int->gh (Int×gh Pu)->Prop
 | _,[]=>True
 | a,x::r=>Jv V x.1 a=(x.2,0)/\FA V (a+x.2.length) r
def FA.at{P:PD}:∀ {a:Int} {l:gh (Int×gh Pu)},FA P.fl a l↔EY P a l
 | _,[]=>Iff.rfl
 | a,x::r=>by
  unfold FA EY;rw[A1h,FA.at]
def FA.FM{V V':View}:∀ {a:Int} {l:gh (Int×gh Pu)},FA V a l->(∀x∈l,(V' (Af x.1)).map (·.1)=(V (Af x.1)).map (·.1))->FA V' a l
 | _,[],_,_=>trivial
 | a,x::r,h,hb=>by
  refine⟨?_,h.2.FM λy hy=>hb y (Bp _ hy)⟩;rw[<-h.1];have:=hb x (Bt ..);unfold Jv;cases h1:V (Af x.1) with
  | none=>rw[h1]at this;cases h2:V' (Af x.1) with
   | none=>rfl
   | some c=>rw[h2]at this;cases this
  | some c=>rw[h1]at this;cases h2:V' (Af x.1) with
   | none=>rw[h2]at this;cases this
   | some d=>rw[h2]at this;simp at this;dsimp only;rw[this]
def FA.bS{V:View}:∀ {a:Int} {l:gh (Int×gh Pu)} {x:Int×gh Pu},FA V a l->Jv V x.1 (a+(Au l).length)=(x.2,0)->FA V a (l++[x])
 | a,[],x,_,h=>⟨by simpa[Au] using h,trivial⟩
 | a,y::r,x,h,h2=>⟨h.1,h.2.bS (by
  rw[<-h2];congr 1
  simp only[Au,KR,AY];omega)⟩
def Ii(b nm:Bs)(d:Int)(l:gh Pu):Prop:=(∃t:Bs,b=E9 nm d l++t/\t.length<21)\/(l=[]/\b.length<12)
def Ii.aS{b nm:Bs}{d:Int}{l:gh Pu}(h:Ii b nm d l)(E:AT d)(z:∀p∈l,B8 p):Ee (AB nm) d b=(l,0):=by
 rcases h with⟨t,rfl,H⟩|⟨rfl,I⟩
 ·exact T2 _ _ _ _ E z H
 ·exact ZS _ _ _ I
def Us:∀(l:gh Pu) (s:Nat) (t:Bs) (j:Nat),t.length<21->∃t':Bs,(E8 s l++t).take j=E8 s (l.take (j/21))++t'/\t'.length<21
 | [],s,t,j,ht=>⟨t.take j,by simp[E8],by rw[BT];omega⟩
 | p::r,s,t,j,ht=>by
  have d:(AS s (Bc p.1 p.2.1 p.2.2)).length=21:=by rw[EL,F7]
  by_cases hj:j<21
  ·refine⟨(AS s (Bc p.1 p.2.1 p.2.2)).take j,?_,by rw[BT];omega⟩;(have e:j/21=0:=by omega);rw[e];simp only[E8,EZ,Ff,Ch];rw[Hc (by omega)]
  ·have⟨t',h1,h2⟩:=Us r (AP s (Bc p.1 p.2.1 p.2.2)) t (j-21) ht;refine⟨t',?_,h2⟩;(have e:j/21=(j-21)/21+1:=by omega);rw[e,Fe];simp only[E8,Ch];rw[List.take_append,d,h1,EG (by omega)]
def Ii.b6{b nm:Bs}{d:Int}{l:gh Pu}(h:Ii b nm d l)(j:Nat)(hj:j<=b.length):Ii (b.take j) nm d (l.take ((j-12)/21)):=by
 rcases h with⟨t,rfl,E⟩|⟨rfl,hb⟩
 ·by_cases h12:j<12
  ·exact .inr ⟨by (have:(j-12)/21=0:=by omega);rw[this];rfl,by rw[BT];omega⟩
  ·have⟨t',h1,h2⟩:=Us l (AP (AB nm) (AO d)) t (j-12) E;refine .inl ⟨t',?_,h2⟩;unfold E9;(have z:(AS (AB nm) (AO d)).length=12:=by rw[EL,CQ]);rw[Ch,List.take_append,z,h1,EG (by omega),Ch]
 ·exact .inr ⟨by simp,by rw[BT];omega⟩
def EX(c:FC)(l:gh Pu):Nat:=min l.length ((c.2.toNat-12)/21)
def EF(bd:Int×Int)(nm:Bs):Prop:=(Ba nm).1≠0/\((Ba nm).1=1->(Ba nm).2<=bd.1)/\((Ba nm).1=2->(Ba nm).2<=bd.2)
def A00:Ba Bm=(4,0):=by
 have h:DX [108] Bm=none:=LD (by decide);have d:DX [115] Bm=none:=LD (by decide);unfold Ba H5;rw[h,d];simp[H4,I9,Bm,Ay]
def A0R{bd:Int×Int}{n:Int}(h:isNum n=true)(d:n<=bd.1):EF bd (Af n):=by unfold EF;rw[LA h];exact⟨by simp,λ_=>d,λh=>by simp at h⟩
def TR{bd:Int×Int}{n:Int}(h:isNum n=true)(d:n<=bd.2):EF bd (Aw n):=by unfold EF;rw[Pr h];exact⟨by simp,λh=>by simp at h,λ_=>d⟩
def A0S(bd:Int×Int):EF bd Ay:=by unfold EF;rw[U7];exact⟨by decide,λh=>absurd h (by decide),λh=>absurd h (by decide)⟩
def TS(bd:Int×Int):EF bd Bm:=by unfold EF;rw[A00];exact⟨by decide,λh=>absurd h (by decide),λh=>absurd h (by decide)⟩
def HX(bd:Int×Int)(ix:Ix)(sg:gh (Int×gh Pu)):Prop:=NZ ix/\ix.AZ<=bd.1+1/\∀x∈sg,x.2≠[]
def I3(bd d:Int×Int):Prop:=bd.1<=d.1/\bd.2<=d.2
def EF.aZ{bd d:Int×Int}{nm:Bs}(h:EF bd nm)(z:I3 bd d):EF d nm:=⟨h.1,λe=>KX (h.2.1 e) z.1,λe=>KX (h.2.2 e) z.2⟩
def HX.aZ{bd d:Int×Int}{ix:Ix}{sg:gh (Int×gh Pu)}(h:HX bd ix sg)(z:I3 bd d):HX d ix sg:=⟨h.1,by have:=h.2.1;have:=z.1;omega,h.2.2⟩
structure CW (bd:Int×Int) (V:View) (ix:Ix) (sg cl:gh (Int×gh Pu)) (lo:Option (Int×gh Pu)):Prop where
 DH:HX bd ix sg
 IP:(V Ay=none/\ix=⟨1,[]⟩)\/∃c,V Ay=some c/\BV c/\c.1=AS (AB Ay) (Cl ix.AZ ix.sd)
 sd:sg.map (·.1)=ix.sd
 BN:∀x∈sg,((∀p∈x.2,B8 p)/\Cw Cr x.2=true)/\∃c,V (Aw x.1)=some c/\BV c/\c.1=AS (AB (Aw x.1)) (Ci x.2)
 CV:∀x∈cl,(isNum x.1=true/\ix.AZ<=x.1)/\(∀p∈x.2,B8 p)/\∃c,V (Af x.1)=some c/\BV c
 Ak:FA V 0 cl
 A8:∀n l,lo=some (n,l)->(isNum n=true/\ix.AZ<=n)/\(∀p∈l,B8 p)/\∃c,V (Af n)=some c/\Ii c.1 (Af n) (Au cl).length l
 EV:(cl.map (·.1)++(lo.map (·.1)).toList).Pairwise (· < ·)
 Ck:∀n,isNum n=true->ix.AZ<=n->V (Af n)≠none->n∈cl.map (·.1)++(lo.map (·.1)).toList
 Ef:∀nm,V nm≠none->EF bd nm
 E7:∀nm c,V nm=some c->0<=c.2/\c.2<=c.1.length
def Im(V V':View):Prop:=∀nm,(V nm=none/\V' nm=none)\/∃c,∃j:Nat,V nm=some c/\c.2<=j/\j<=c.1.length/\V' nm=some (c.1.take j,(j:Int))
section
variable{bd:Int×Int}{V V':View}{ix:Ix}{sg cl:gh (Int×gh Pu)}{lo:Option (Int×gh Pu)}
def Im.ed(h:Im V V'){nm:Bs}(z:V nm=none):V' nm=Option.none:=by
 rcases h nm with⟨_,E⟩|⟨c,j,d,_⟩
 ·exact E
 ·rw[z]at d;cases d
def Im.bY(h:Im V V'){nm:Bs}{c:FC}(E:V nm=some c):∃j:Nat,c.2<=j/\j<=c.1.length/\V' nm=Option.some (c.1.take j,(j:Int)):=by
 rcases h nm with⟨z,_⟩|⟨d,j,z,H⟩
 ·rw[E]at z;cases z
 ·rw[E]at z;cases z;exact⟨j,H⟩
def Im.Fu(h:Im V V'){nm:Bs}{c:FC}(z:V nm=Option.some c)(d:BV c):V' nm=Option.some c:=by
 have⟨j,h1,h2,h3⟩:=h.bY z;unfold BV at d;have e:j=c.1.length:=by omega
 rw[h3,e,Cf,<-d]
def CW.Ce(h:CW bd V ix sg cl lo)(Y:Im V V'):(∀nm c,V' nm=some c->BV c)/\
 match lo with
 | none=>CW bd V' ix sg cl none
 | some (n,l)=>∃c i,V (Af n)=some c/\EX c l<=i/\i<=l.length/\CW bd V' ix sg cl (some (n,l.take i)):=by
 have W:∀nm c,V' nm=some c->BV c:=λnm c I=>by
  rcases Y nm with⟨_,z⟩|⟨d,j,E,z,H,O⟩
  ·rw[I]at z;cases z
  ·rw[O]at I;cases I;unfold BV;dsimp only;rw[BT];omega
 have aB:∀nm,V' nm≠none->V nm≠none:=λnm I hv=>I (Y.ed hv);have aA:FA V' 0 cl:=h.Ak.FM λx hx=>by
  have⟨_,_,c,E,z⟩:=h.CV x hx;rw[Y.Fu E z,E]
 have key:∀L:Option (Int×gh Pu),L.map (·.1)=lo.map (·.1)->(∀n l,L=some (n,l)->(isNum n=true/\ix.AZ<=n)/\(∀p∈l,B8 p)/\∃c,V' (Af n)=some c/\Ii c.1 (Af n) (Au cl).length l)->CW bd V' ix sg cl L:=λL e hl=>
  ⟨h.DH,by
   rcases h.IP with⟨E,z⟩|⟨c,E,z,H⟩
   ·exact .inl ⟨Y.ed E,z⟩
   ·exact .inr ⟨c,Y.Fu E z,z,H⟩,h.sd,λx hx=>by
   have⟨E,c,z,H,O⟩:=h.BN x hx
   exact⟨E,c,Y.Fu z H,H,O⟩,λx hx=>by
   have⟨E,z,c,H,O⟩:=h.CV x hx
   exact⟨E,z,c,Y.Fu H O,O⟩,aA,hl,by rw[e];exact h.EV,λn E z H=>by rw[e];exact h.Ck n E z (aB _ H),λnm I=>h.Ef nm (aB _ I),λnm c I=>by
   have:=W nm c I;unfold BV at this;omega⟩
 refine⟨W,?_⟩;cases lo with
 | none=>exact key none rfl λn l e=>by cases e
 | some x=>
  obtain⟨n,l⟩:=x;have⟨E,z,c,H,O⟩:=h.A8 n l rfl;have⟨j,j1,j2,j3⟩:=Y.bY H;refine⟨c,min l.length ((j-12)/21),H,?_,Nat.min_le_left _ _,key _ rfl λn' l' e=>?_⟩
  ·unfold EX;have:(c.2.toNat-12)/21<=(j-12)/21:=A4T (by omega);omega
  ·cases e;have ht:l.take (min l.length ((j-12)/21))=l.take ((j-12)/21):=by
    rw[List.take_eq_take_iff];omega
   rw[ht];exact⟨E,λp hp=>z p (J6 hp),_,j3,O.b6 j j2⟩
def CW.bL(h:CW bd V ix sg cl lo)(W:∀nm,nm=Ay\/(∃x∈sg,nm=Aw x.1)\/(∃n,isNum n=true/\ix.AZ<=n/\nm=Af n)->(V nm=none/\V' nm=none)\/∃c d,V nm=some c/\V' nm=some d/\d.1=c.1/\(d.2=c.2\/BV d))(h2:∀nm,V' nm≠none->EF bd nm)(h3:∀nm c,V' nm=some c->0<=c.2/\c.2<=c.1.length):CW bd V' ix sg cl lo:=by
 have up:∀ {nm:Bs} {c:FC},(nm=Ay\/(∃x∈sg,nm=Aw x.1)\/(∃n,isNum n=true/\ix.AZ<=n/\nm=Af n))->V nm=some c->∃d,V' nm=some d/\d.1=c.1/\(BV c->BV d):=λ{nm c} hn hv=>by
  rcases W nm hn with⟨q,_⟩|⟨c',d,z,I,H,E⟩
  ·rw[hv]at q;cases q
  ·rw[hv]at z;cases z;refine⟨d,I,H,λY=>?_⟩;rcases E with E|E
   ·unfold BV at Y ⊢;rw[H,E];exact Y
   ·exact E
 have L:∀x∈cl,(V' (Af x.1)).map (·.1)=(V (Af x.1)).map (·.1):=λx O=>by
  have⟨z,_,c,H,_⟩:=h.CV x O;have⟨d,d1,d2,_⟩:=up (.inr (.inr ⟨x.1,z.1,z.2,rfl⟩)) H;rw[d1,H];simp[d2]
 refine⟨h.DH,?_,h.sd,λx O=>?_,λx O=>?_,h.Ak.FM L,λn l e=>?_,h.EV,λn z I H=>h.Ck n z I λq=>?_,h2,h3⟩
 ·rcases h.IP with⟨z,I⟩|⟨c,z,I,H⟩
  ·rcases W Ay (.inl rfl) with⟨_,q⟩|⟨c',d,E,_⟩
   ·exact .inl ⟨q,I⟩
   ·rw[z]at E;cases E
  ·have⟨d,d1,d2,d3⟩:=up (.inl rfl) z;exact .inr ⟨d,d1,d3 I,by rw[d2];exact H⟩
 ·have⟨z,c,I,H,E⟩:=h.BN x O;have⟨d,d1,d2,d3⟩:=up (.inr (.inl ⟨x,O,rfl⟩)) I;exact⟨z,d,d1,d3 H,by rw[d2];exact E⟩
 ·have⟨z,I,c,H,E⟩:=h.CV x O;have⟨d,d1,d2,d3⟩:=up (.inr (.inr ⟨x.1,z.1,z.2,rfl⟩)) H;exact⟨z,I,d,d1,d3 E⟩
 ·have⟨z,I,c,H,E⟩:=h.A8 n l e;have⟨d,d1,d2,d3⟩:=up (.inr (.inr ⟨n,z.1,z.2,rfl⟩)) H;exact⟨z,I,d,d1,by rw[d2];exact E⟩
 ·rcases W (Af n) (.inr (.inr ⟨n,z,I,rfl⟩)) with⟨_,E⟩|⟨c,d,E,_⟩
  ·exact H E
  ·rw[q]at E;cases E
def CW.aZ{d:Int×Int}(h:CW bd V ix sg cl lo)(z:I3 bd d):CW d V ix sg cl lo:=
 ⟨h.DH.aZ z,h.IP,h.sd,h.BN,h.CV,h.Ak,h.A8,h.EV,h.Ck,λnm E=>(h.Ef nm E).aZ z,h.E7⟩
end
def C4.I(o:Int)(a:gh Pu):C4 o a a:=⟨λ_ _ _=>rfl,λp d=>⟨p,d,rfl,rfl⟩,Ao _⟩
def C4.Av{o:Int}{a b c:gh Pu}(h:C4 o a b)(d:C4 o b c):C4 o a c:=⟨λk t z=>(h.1 k t z).trans (d.1 k t z),λp E=>by
 have⟨q,hq,e1,e2⟩:=h.2.1 p E;have⟨r,hr,e3,e4⟩:=d.2.1 q hq
 exact⟨r,hr,e3.trans e1,e4.trans e2⟩,AJ h.2.2 d.2.2⟩
def C4.bP{o d:Int}{a b:gh Pu}(h:C4 o a b)(ho:o<=d):C4 d a b:=⟨λk t ht=>h.1 k t (by omega),h.2⟩
def C4.dz{o:Int}{a b:gh Pu}(h:C4 o a b)(c:gh Pu):C4 o (a++c) (b++c):=⟨λk t z=>by rw[GR,GR,h.1 k t z],λp d=>by
 rcases AU.1 d with d|d
 ·have⟨q,hq,e⟩:=h.2.1 p d;exact⟨q,FV _ hq,e⟩
 ·exact⟨p,Hr _ d,rfl,rfl⟩,by have:=h.2.2;rw[AY,AY];omega⟩
def C4.ey{o:Int}{a b:gh Pu}(z:∀k t,o<=t->BF a k t=BF b k t)(h:∀p∈a,p∈b)(E:a.length<=b.length):C4 o a b:=⟨z,λp d=>⟨p,h p d,rfl,rfl⟩,E⟩
def Holds(bd:Int×Int)(V:View)(pd:gh Pu)(Ad:Nat)(o:Int):Prop:=
 ∃ix z h d nb,CW bd V ix z h d/\nb<=pd.length/\C4 o (Au z++Au h) (pd.take nb)/\
  (∀n l,d=some (n,l)->∃c,V (Af n)=some c/\Ad<=nb+EX c l/\l=(pd.drop nb).take l.length)/\(d=none->Ad<=nb)
def EM:Option (Int×gh Pu)->gh Pu
 | none=>[]
 | some x=>x.2
section
variable{bd:Int×Int}{V V':View}{pd:gh Pu}{Ad:Nat}{o:Int}
def Holds.Ce(h:Holds bd V pd Ad o)(W:Im V V'):∃ix d z E n,CW bd V' ix d z E/\(∀nm c,V' nm=some c->BV c)/\Ad<=n/\n<=pd.length/\C4 o (Au d++Au z++EM E) (pd.take n):=by
 obtain⟨ix,d,z,E,nb,Y,H,I,O,L⟩:=h;have⟨hd,hcut⟩:=Y.Ce W;cases E with
 | none=>exact⟨ix,d,z,none,nb,hcut,hd,L rfl,H,by simpa[EM] using I⟩
 | some x=>
  obtain⟨n,l⟩:=x;obtain⟨c,i,c1,c2,c3,c4⟩:=hcut;have⟨c',d1,d2,d3⟩:=O n l rfl;rw[c1]at d1;cases d1;have hl:l.length<=(pd.drop nb).length:=by
   have:=ES List.length d3;rw[BT]at this;omega
  rw[CO]at hl;refine⟨ix,d,z,some (n,l.take i),nb+i,c4,hd,by omega,by omega,?_⟩;have e:pd.take (nb+i)=pd.take nb++l.take i:=by
   rw[List.take_add,d3,KI]
   congr 2;omega
  rw[e];exact I.dz _
def Holds.aZ{d:Int×Int}(h:Holds bd V pd Ad o)(H:I3 bd d):Holds d V pd Ad o:=by
 obtain⟨ix,L,z,I,nb,E,r⟩:=h;exact⟨ix,L,z,I,nb,E.aZ H,r⟩
def Holds.bP{z:Int}(h:Holds bd V pd Ad o)(H:o<=z):Holds bd V pd Ad z:=by
 obtain⟨ix,sg,E,Y,nb,L,d,W,O,I⟩:=h;exact⟨ix,sg,E,Y,nb,L,d,W.bP H,O,I⟩
def Holds.b9(h:Holds bd V pd Ad o)(q:gh Pu):Holds bd V (pd++q) Ad o:=by
 obtain⟨ix,Y,z,E,nb,L,d,W,O,I⟩:=h;refine⟨ix,Y,z,E,nb,L,by simp;omega,by rw[Hc d];exact W,λn l e=>?_,I⟩;have⟨c,d1,d2,d3⟩:=O n l e;refine⟨c,d1,d2,?_⟩;have H:l.length<=(pd.drop nb).length:=by
  have:=ES List.length d3;rw[BT]at this;omega
 rw[Mo d,Hc H];exact d3
def Holds.bt{ix:Ix}{z h:gh (Int×gh Pu)}(H:CW bd V ix z h none)(E:C4 o (Au z++Au h) pd)(d:Ad<=pd.length):Holds bd V pd Ad o:=
 ⟨ix,z,h,none,pd.length,H,Ao _,by rw[Cf];exact E,λn l e=>(by cases e),λ_=>d⟩
def Vk{c d:FC}{l:gh Pu}(E:d.1=c.1)(h:d.2=c.2\/BV d)(z:c.2<=c.1.length):EX c l<=EX d l:=by
 unfold EX;have:c.2<=d.2:=by
  rcases h with h|h
  ·omega
  ·unfold BV at h;rw[h,E];exact z
 have:(c.2.toNat-12)/21<=(d.2.toNat-12)/21:=A4T (by omega);omega
def Holds.bL(h:Holds bd V pd Ad o)(H:∀nm,(∀c,V nm=some c->∃d,V' nm=some d/\d.1=c.1/\(d.2=c.2\/BV d))/\(V nm=none->V' nm=none)):Holds bd V' pd Ad o:=by
 obtain⟨ix,Y,cl,lo,nb,L,O,hs,g1,W⟩:=h;have I:∀nm,V' nm≠none->V nm≠none:=λnm z E=>z ((H nm).2 E);refine⟨ix,Y,cl,lo,nb,L.bL (λnm _=>?_) (λnm z=>L.Ef nm (I nm z)) (λnm c z=>?_),O,hs,λn l e=>?_,W⟩
 ·cases E:V nm with
  | none=>exact .inl ⟨rfl,(H nm).2 E⟩
  | some c=>have⟨d,d1,d2,d3⟩:=(H nm).1 c E;exact .inr ⟨c,d,rfl,d1,d2,d3⟩
 ·cases E:V nm with
  | none=>rw[(H nm).2 E]at z;cases z
  | some x=>
   have⟨d,d1,d2,d3⟩:=(H nm).1 x E;rw[d1]at z;cases z;have:=L.E7 nm x E;rcases d3 with d3|d3
   ·rw[d2,d3];exact this
   ·unfold BV at d3;omega
 ·have⟨c,d1,d2,d3⟩:=g1 n l e;have⟨d,e1,e2,e3⟩:=(H _).1 c d1;exact⟨d,e1,AJ d2 (Mg (Vk e2 e3 (L.E7 _ _ d1).2) _),d3⟩
def FU(bd:Int×Int)(V:View)(pd:gh Pu)(Ad:Nat)(o:Int)(n:Int)(z:Nat):Prop:=
 ∃ix h d l nb c,CW bd V ix h d (some (n,l))/\nb<=pd.length/\C4 o (Au h++Au d) (pd.take nb)/\V (Af n)=some c/\c.1=E9 (Af n) z l/\z=(Au d).length/\Ad<=nb+EX c l/\l=pd.drop nb
def FU.aZ{d:Int×Int}{n:Int}{z:Nat}(h:FU bd V pd Ad o n z)(H:I3 bd d):FU d V pd Ad o n z:=by
 obtain⟨ix,L,E,l,nb,c,I,r⟩:=h;exact⟨ix,L,E,l,nb,c,I.aZ H,r⟩
def FU.ca{n:Int}{W:Nat}(h:FU bd V pd Ad o n W):Holds bd V pd Ad o:=by
 obtain⟨ix,L,Y,l,nb,c,I,d,O,E,h2,h3,z,H⟩:=h;exact⟨ix,L,Y,some (n,l),nb,I,d,O,λn' l' e=>by cases e;exact⟨c,E,z,by rw[<-H,Cf]⟩,λe=>by cases e⟩
def FU.ak{n:Int}{aa:Nat}(h:FU bd V pd Ad o n aa)(p:Pu)(hp:B8 p)(j:Nat){s:Nat}(aE:∀l c,V (Af n)=some c->c.1=E9 (Af n) aa l->s=F9 (Af n) aa l)(H:∀nm,nm≠Af n->V' nm=V nm)(h2:∀c,V (Af n)=some c->V' (Af n)=some (c.1++(AS s (Bc p.1 p.2.1 p.2.2)).take j,c.2)):
 (21<=j->FU bd V' (pd++[p]) Ad o n aa)/\(j<21->Holds bd V' pd Ad o):=by
 obtain⟨ix,sg,Y,l,nb,c,E,W,hs,g1,g2,g3,g4,g5⟩:=h;have aG:=aE l c g1 g2;have hv:=h2 c g1;have hpl:(AS s (Bc p.1 p.2.1 p.2.2)).length=21:=by rw[EL,F7]
 have⟨q1,q2,c',q3,q4⟩:=E.A8 n l rfl;rw[g1]at q3;cases q3;have I:=(Ez.1 E.EV).2.2;have aA:∀x∈Y,Af x.1≠Af n:=λx z e=>by
  have e2:=G6 (E.CV x z).1.1 q1.1 e;have:=I x.1 (E5 z) n (by simp);omega
 have O:FA V' 0 Y:=E.Ak.FM λx z=>by rw[H _ (aA x z)]
 have mk:∀l',(∀p∈l',B8 p)->Ii (c.1++(AS s (Bc p.1 p.2.1 p.2.2)).take j) (Af n) (Au Y).length l'->CW bd V' ix sg Y (some (n,l')):=λl' aD aB=>
  ⟨E.DH,by rw[H _ (HD n).symm];exact E.IP,E.sd,λx z=>by rw[H _ (G8 n x.1).symm];exact E.BN x z,λx z=>by rw[H _ (aA x z)];exact E.CV x z,O,
   λn' l2 e=>by cases e;exact⟨q1,aD,_,hv,aB⟩,E.EV,λk k1 k2 k3=>by
    by_cases e:Af k=Af n
    ·have:=G6 k1 q1.1 e;subst this;simp
    ·rw[H _ e]at k3;exact E.Ck k k1 k2 k3,λnm L=>by
    by_cases e:nm=Af n
    ·subst e;exact E.Ef _ (by rw[g1];simp)
    ·rw[H _ e]at L;exact E.Ef nm L,λnm d L=>by
    by_cases e:nm=Af n
    ·subst e;rw[hv]at L;cases L;have:=E.E7 _ _ g1;dsimp only;rw[AY];omega
    ·rw[H _ e]at L;exact E.E7 nm d L⟩
 constructor
 ·intro hj;have ht:(AS s (Bc p.1 p.2.1 p.2.2)).take j=AS s (Bc p.1 p.2.1 p.2.2):=EG (by omega);have hb:c.1++(AS s (Bc p.1 p.2.1 p.2.2)).take j=E9 (Af n) aa (l++[p]):=by rw[ht,g2,aG,(Uv _ _ _ _).1]
  have aF:∀x∈l++[p],B8 x:=λx z=>by
   rcases AU.1 z with z|z
   ·exact q2 x z
   ·simp at z;subst z;exact hp
  refine⟨ix,sg,Y,l++[p],nb,_,mk _ aF (.inl ⟨[],by rw[hb,g3];simp,by simp⟩),by simp;omega,by rw[Hc W];exact hs,hv,hb,g3,?_,by rw[Mo W,<-g5]⟩;have:EX c l<=EX (c.1++(AS s (Bc p.1 p.2.1 p.2.2)).take j,c.2) (l++[p]):=by unfold EX;simp;omega
  omega
 ·intro hj
  refine⟨ix,sg,Y,some (n,l),nb,mk l q2 (.inl ⟨_,by rw[g2,g3],by rw[BT];omega⟩),W,hs,λn' l' e=>by
   cases e
   exact⟨_,hv,by unfold EX at g4 ⊢;exact g4,by rw[<-g5,Cf]⟩,λe=>by cases e⟩
end
end
end Go.Proofs.YtodcnkbblippnaaGreatDoor
