/- Part 2 of a proof: walks of the program. -/
import Derived.Test.YtodcnkbblippnabGreatDoorProg
import Derived.Conc.RwLib
import Derived.KernelRfl
import Derived.OrdersHeld
import Derived.Test.YtodcnkbblippnabGreatDoorPart01
namespace Go.Proofs.YtodcnkbblippnabGreatDoor
set_option maxRecDepth 100000
set_option maxHeartbeats 32000000
set_option linter.defProp false
open Go.Proofs.Tryz
abbrev Tryz.fA:Go.Conc.Locks.MuLink:={lock:=31,unlock:=32,ilock:=55,iunlock:=56,lockSlow:=95,unlockSlow:=98,disable:=91,enable:=93,acquire:=94,relMerge:=96,cas32:=92,add32:=97,tMutex:=81,tIMutex:=79,tPMutex:=127,tPIMutex:=172,tPI32:=174,tUP:=176,tNoCopy:=76,tU32:=77}
def Tryz.bK:Go.Conc.Locks.MuLib Tryz.prog Tryz.fA:=
 ⟨func31,func32,func55,func56,func91,func93,func94,func96,func92,func97,
  underlying79,Tryz.runUnderlying79,sizeOf79,isAgg79,zeroValue79,
  underlying81,Tryz.runUnderlying81,sizeOf81,isAgg81,zeroValue81,
  underlying127,Tryz.runUnderlying127,sizeOf127,isAgg127,zeroValue127,
  underlying172,Tryz.runUnderlying172,sizeOf172,isAgg172,zeroValue172,
  underlying174,Tryz.runUnderlying174,sizeOf174,isAgg174,zeroValue174,
  underlying176,Tryz.runUnderlying176,sizeOf176,isAgg176,zeroValue176,
  underlying76,Tryz.runUnderlying76,sizeOf76,isAgg76,zeroValue76,
  underlying21,Tryz.runUnderlying21,sizeOf21,isAgg21,zeroValue21,(by kernel_rfl)⟩
abbrev Pt:=Int×Int
def CT:List Pt->Int->Int->List Pt
 | [],t,v=>[(t,v)]
 | (a,b):: r,t,v=>if a<t then (a,b):: CT r t v else if a=t then (t,v):: r else (t,v):: (a,b):: r
def E7(l:List Pt):Prop:=l.Pairwise λx y=>x.1<y.1
def A0r{l:List Pt}{t v:Int}{x:Pt}(h:x∈CT l t v):x=(t,v)\/x∈l:=by
 induction l with
 | nil=>simp[CT]at h;exact .inl h
 | cons e r ih=>
  obtain⟨a,b⟩:=e;simp only[CT]at h;split at h
  ·rcases BF.1 h with h|h
   ·exact .inr (by simp[h])
   ·rcases ih h with h|h
    ·exact .inl h
    ·exact .inr (Bn _ h)
  ·split at h
   ·rcases BF.1 h with h|h
    ·exact .inl h
    ·exact .inr (Bn _ h)
   ·rcases BF.1 h with h|h
    ·exact .inl h
    ·exact .inr h
def KM{l:List Pt}(h:E7 l)(t v:Int):E7 (CT l t v):=by
 induction l with
 | nil=>simp[CT,E7]
 | cons e r ih=>
  obtain⟨a,b⟩:=e;have H:=Di.1 h;simp only[CT];split
  ·rename_i I;refine Di.2 ⟨λx z=>?_,ih H.2⟩;rcases A0r z with rfl|z
   ·exact I
   ·exact H.1 x z
  ·rename_i I;split
   ·rename_i O;subst O;exact Di.2 ⟨λx z=>H.1 x z,H.2⟩
   ·rename_i O;refine Di.2 ⟨λx z=>?_,h⟩;rcases BF.1 z with rfl|z
    ·show t<a;omega
    ·have:=H.1 x z;show t<x.1;simp only at this;omega
def BR(l:List Pt)(t:Int):Nat:=(l.takeWhile λx=>decide (x.1<t)).length
def Jw(l:List Pt)(t:Int):BR l t<=l.length:=by
 unfold BR;exact(List.takeWhile_sublist _).length_le
def Ky{l:List Pt}{t:Int}{i:Nat}(h:i<BR l t)(H:i<l.length):(l[i]'H).1<t:=by
 unfold BR at h
 induction l generalizing i with
 | nil=>simp at H
 | cons e r ih=>
  by_cases z:e.1<t
  ·simp only[Ph,z,OL,Cn,BM]at h;cases i with
   | zero=>exact z
   | succ i=>simp only[Pm];exact ih (by omega) _
  ·simp[z]at h
def Kz{l:List Pt}(O:E7 l){t:Int}{i:Nat}(h:BR l t<=i)(H:i<l.length):t<=(l[i]'H).1:=by
 unfold BR at h
 induction l generalizing i with
 | nil=>simp at H
 | cons e r ih=>
  have z:=Di.1 O;by_cases I:e.1<t
  ·simp only[Ph,I,OL,Cn,BM]at h;cases i with
   | zero=>omega
   | succ i=>simp only[Pm];exact ih z.2 (by omega) _
  ·cases i with
   | zero=>simp only[Kb];omega
   | succ i=>
    have:=z.1 (r[i]'(by simpa using H)) (BS _);simp only[Pm];omega
def RL{l:List Pt}(W:E7 l){t:Int}{k:Nat}(hk:k<=l.length)(O:∀i (H:i<l.length),i<k->(l[i]'H).1<t)(I:∀i (H:i<l.length),k<=i->t<=(l[i]'H).1):BR l t=k:=by
 rcases UY (BR l t) k with h|h|h
 ·have z:BR l t<l.length:=by omega
  have:=O _ z h;have:=Kz W (Aq (BR l t)) z;omega
 ·exact h
 ·have hp:=Jw l t;have z:k<l.length:=by omega
  have:=Ky h z;have:=I k z (Aq k);omega
def A0t(l:List Pt)(t v:Int):CT l t v=l.take (BR l t)++(t,v):: (if (l[BR l t]?).any (λx=>x.1==t) then l.drop (BR l t+1) else l.drop (BR l t)):=by
 unfold BR
 induction l with
 | nil=>simp[CT]
 | cons e r ih=>
  obtain⟨a,b⟩:=e;simp only[CT];by_cases z:a<t
  ·simp only[z,Cn,Ph,OL,BM,EU,DA,A21,Fb,ih]
  ·by_cases h:a=t
   ·subst h;simp
   ·simp[z,h]
def Tu{l:List Pt}(hs:E7 l)(p:Int->Bool)(t v:Int):(CT l t v).filter (λx=>p x.1)=if p t then CT (l.filter λx=>p x.1) t v else l.filter (λx=>p x.1):=by
 induction l with
 | nil=>by_cases h:p t<;>simp[CT,h]
 | cons e r W=>
  obtain⟨a,b⟩:=e;have H:=Di.1 hs;have W:=W H.2;simp only[CT];by_cases I:a<t
  ·simp only[I,Cn,Fa,W];by_cases h:p t<;>by_cases z:p a<;>simp[h,z,CT,I]
  ·by_cases O:a=t
   ·subst O;simp only[I,C4,Cn,Fa];by_cases h:p a<;>simp[h,CT]
   ·simp only[I,O,C4,Fa];by_cases h:p t
    ·by_cases z:p a
     ·simp[h,z,CT,I,O]
     ·simp only[h,z,Cn];have hall:∀x∈r.filter (λx=>p x.1),t<x.1:=λx hx=>by
       have:=H.1 x (GF.1 hx).1;simp only at this;omega
      cases hr:r.filter (λx=>p x.1) with
      | nil=>simp[CT]
      | cons y ys=>
       obtain⟨c,d⟩:=y;have:=hall (c,d) (by rw[hr];simp);simp only at this;(have Y:¬c<t:=by omega);(have X:¬c=t:=by omega);simp[CT,Y,X]
    ·by_cases z:p a<;>simp[h,z]
def A0P{l:List Pt}(hs:E7 l)(a b:Int):l.filter (λx=>decide (a<=x.1)&&decide (x.1<b))=(l.take (BR l b)).drop (BR l a):=by
 unfold BR
 induction l with
 | nil=>simp
 | cons e r z=>
  have h:=Di.1 hs;have z:=z h.2;by_cases H:e.1<b
  ·by_cases O:e.1<a
   ·(have:¬a<=e.1:=by omega);simp[O,H,this,z]
   ·(have Y:a<=e.1:=by omega);have X:r.takeWhile (λx=>decide (x.1<a))=[]:=by
     cases r with
     | nil=>rfl
     | cons y ys=>have:=h.1 y (by simp);rw[Ph];have:¬y.1<a:=by omega
                  simp[this]
    simp only[X,Gk,Dj]at z;simp[O,H,Y,z]
  ·(have W:∀x∈r,¬x.1<b:=λx I=>by have:=h.1 x I;omega);have:r.filter (λx=>decide (a<=x.1)&&decide (x.1<b))=[]:=by
    rw[A26];intro x I;have:=W x I;simp[this]
   simp[H,this]
section
open Go
section
variable{P:Program}{Q:Exit->Act->World->Prop}
def Qd(y:Nat->Value)(i:Nat)(v:Value):Nat->Value:=λj=>if j=i then v else y j
def Gc(o:Oper):List Nat:=(o.after.toList.filter (Region.binds .any)).map (·.on)
def Fc(G:Nat->Value->World->Prop)(y:Nat->Value)(w:World):List Nat->Prop
 | []=>True
 | j::r=>G j (y j) w/\Fc G y w r
def Fc.of{G:Nat->Value->World->Prop}{y:Nat->Value}{w:World}:∀(l:List Nat),(∀j∈l,G j (y j) w)->Fc G y w l
 | [],_=>trivial
 | j::r,h=>⟨h j (by simp),Fc.of r λk z=>h k (by simp[z])⟩
def Vi(P:Program)(ops:Array Oper)(A:(Nat->Value)->Act)(S:World->Prop)(R:World->World->Prop)(G:Nat->Value->World->Prop)(Q:Exit->Act->World->Prop)(i:Nat)(o:Oper):Prop:=
 (∀y w,S w->Fc G y w (Gc o)->Region.wanted o (yielded ops (A y).tmps)=true->∀K:Act->World->Prop,(∀v a' w',G i v w'->a'=(A y).put o.dst v->R w w'->S w'->K a' w')->o.wp P (A y) w K Q)/\
 (∀y w,S w->Fc G y w (Gc o)->Region.wanted o (yielded ops (A y).tmps)=false->G i undef w)/\
 (∀y v,(A y).put o.dst v=A (Qd y i v))
def FP(P:Program)(ops:Array Oper)(A:(Nat->Value)->Act)(S:World->Prop)(R:World->World->Prop)(G:Nat->Value->World->Prop)(Q:Exit->Act->World->Prop):Nat->List Oper->Prop
 | _,[]=>True
 | i,o::r=>Vi P ops A S R G Q i o/\FP P ops A S R G Q (i+1) r
def FP.et{ops:Array Oper}{A:(Nat->Value)->Act}{S:World->Prop}{R:World->World->Prop}{G:Nat->Value->World->Prop}:∀ {k:Nat} {l:List Oper},FP P ops A S R G Q k l->∀(i:Nat) (o:Oper),l[i]?=some o->Vi P ops A S R G Q (k+i) o
 | _,[],_,i,o,h=>by simp at h
 | k,o'::r,hh,0,o,h=>by
  have:o'=o:=by simpa using h
  subst this;exact hh.1
 | k,o'::r,hh,i+1,o,h=>by
  have:=FP.et hh.2 i o (by simpa using h)
  rwa [show k+1+i=k+(i+1) by omega]at this
def Ge(listed:Array Bool):Nat->Nat
 | 0=>0
 | k+1=>Ge listed k+(if listed.getD k true then 0 else 1)
def Ub(listed:Array Bool)(i:Nat):∀n,n<=i->Ge (listed.setIfInBounds i true) n=Ge listed n
 | 0,_=>rfl
 | n+1,h=>by
  unfold Ge;rw[Ub listed i n (by omega),Mf true (by omega)]
def U9(listed:Array Bool)(i:Nat)(I:listed.getD i true=false):∀n,i<n->Ge listed n=Ge (listed.setIfInBounds i true) n+1
 | 0,h=>by omega
 | n+1,h=>by
  unfold Ge;by_cases z:i=n
  ·subst z;have O:i<listed.size:=by
    rcases F6 i listed.size with H | H
    ·exact H
    ·simp[Array.getElem?_eq_none H]at I
   rw[Ub listed i i (Aq _),I];simp[O]
  ·rw[U9 listed i I n (by omega),Mf true z];omega
def U7(listed:Array Bool):∀n,Ge listed n=0->∀j,j<n->listed.getD j true=true
 | 0,_,j,h=>by omega
 | n+1,h,j,hj=>by
  unfold Ge at h;rcases F6 j n with z | z
  ·exact U7 listed n (by omega) j z
  ·(obtain rfl:j=n:=by omega);cases hg:listed.getD j true with
   | true=>rfl
   | false=>rw[hg]at h;simp at h
def Ua(listed:Array Bool):∀n,Ge listed n≠0->∃j,j<n/\listed.getD j true=false
 | 0,h=>absurd rfl h
 | n+1,h=>by
  cases hg:listed.getD n true with
  | false=>exact⟨n,by omega,hg⟩
  | true=>
   unfold Ge at h;rw[hg]at h;have⟨j,hj,h2⟩:=Ua listed n (by simpa using h);exact⟨j,by omega,h2⟩
def U8(m:Nat):∀n,n<=m->Ge (Array.replicate m false) n=n
 | 0,_=>rfl
 | n+1,h=>by
  unfold Ge;rw[U8 m n (by omega)];have z:n<m:=by omega
  have:(Array.replicate m false).getD n true=false:=by simp[z]
  rw[this];simp
def Ml(ops:Array Oper)(n:Nat):Bool:=
 decide (n<ops.size)&&Region.sinkB .any ops n&&Region.chainB .any ops n &&
  ((List.range n).all λi=>((ops[i]?).map λo=>o.after.all λe=>!Region.binds .any e||decide (e.on<i)).getD false) &&
  Region.seqB .any ops (ops.size-n) n (List.replicate n true++List.replicate (ops.size-n) false).toArray
def XT{ops:Array Oper}{n:Nat}{listed:Array Bool}(O:HeadInv .any ops n listed)(hn:n<ops.size)(z:((List.range n).all λi=>((ops[i]?).map λo=>o.after.all λe=>!Region.binds .any e||decide (e.on<i)).getD false)=true):
 ∀(i:Nat),i<n->listed.getD i true=false->∃k,k∈Region.ready .any ops listed:=by
 intro i
 induction i using Nat.strongRecOn with
 | _ i ih=>
  intro hi X;have H:ops[i]?=some (ops[i]'(by omega)):=A3g (by omega);obtain⟨o,H⟩:∃o,ops[i]?=some o:=⟨_,H⟩;by_cases hall:∀e∈o.after,Region.binds .any e=true->listed.getD e.on false=true
  ·exact⟨i,Ib.2 ⟨X,o,H,hall⟩⟩
  ·simp only[Classical.not_forall]at hall;obtain⟨e,he,hb,I⟩:=hall;have W:=(MX.1 z) i (K8.2 hi);rw[H]at W;simp only[HL,Option.getD_some,A3h]at W;have Y:=W e he;rw[hb]at Y;(have h3:e.on<i:=by simpa using Y);refine ih e.on h3 (by omega) (getD_in (by rw[O.size];omega) ?_);cases h:listed.getD e.on false with
   | true=>exact absurd h I
   | false=>rfl
def A02{l:List Oper}{n:Nat}{A:(Nat->Value)->Act}{S:World->Prop}{R:World->World->Prop}{G:Nat->Value->World->Prop}(hB:Ml l.toArray n=true)(aN:FP P l.toArray A S R G Q 0 (l.take n))(aL:∀j v w w',R w w'->S w'->G j v w->G j v w')(aI:∀y w,S w->(∀j,j<n->G j (y j) w)->wpList P l.toArray Q (l.drop n) (A y) w):
 ∀(f:Nat) (listed:Array Bool) (y:Nat->Value) (w:World),HeadInv .any l.toArray n listed->Ge listed n=f->S w->(∀j,j<n->listed.getD j false=true->G j (y j) w)->
  wpAny P .any l.toArray Q (f+(l.toArray.size-n)) listed (A y) w:=by
 simp only[Ml,Gp,DT]at hB;obtain⟨⟨⟨⟨hn,hs⟩,hc⟩,aD⟩,aH⟩:=hB;intro f
 induction f with
 | zero=>
  intro listed y w z aB hS hG;have hall:=U7 listed n aB;have aO:=z.size;have H:∀j,j<n->listed.getD j false=true:=λj W=>by
   have X:=hall j W;(have h2:j<listed.size:=by omega);simp[h2]at X ⊢;exact X
  have hL:listed=(List.replicate n true++List.replicate (l.toArray.size-n) false).toArray:=by
   refine Array.ext (by (simp[aO];have:n<l.length:=by simpa using hn);omega) λi X h2=>?_;rcases F6 i n with h|h
   ·have:=H i h;simp[X]at this;simp[this,h]
   ·have:=z.tail i h (by omega);simp[X]at this;simp[this,List.getElem_append,Nat.not_lt.2 h]
  rw[GC];have aK:(l.drop n).length=l.toArray.size-n:=by simp
  have:=PR (P:=P) (md:=.any) (ops:=l.toArray) (Q':=Q) (l.drop n) n listed (A y) w (λj=>by simp[List.getElem?_drop]) (by rw[aK,hL];exact aH) (aI y w hS λj W=>hG j W (H j W))
  rwa [aK]at this
 | succ f ih=>
  intro listed y w z aB hS hG;have⟨i0,hi0,hun0⟩:=Ua listed n (by omega);have aF:f+1+(l.toArray.size-n)=(f+(l.toArray.size-n))+1:=by omega
  rw[aF];refine⟨λh0=>?_,λi hi=>?_⟩
  ·have⟨k,hk⟩:=XT z hn aD i0 hi0 hun0;rw[h0]at hk;cases hk
  ·have Y:i<n:=by
    rcases F6 i n with h|h
    ·exact h
    ·exact absurd hi (LA hs hc hn z _ i0 rfl hi0 hun0 i h)
   have⟨hun,o,ho,hall⟩:=Ib.1 hi;have aM:(l.take n)[i]?=some o:=by
    rw[List.getElem?_take_of_lt Y];simpa using ho
   have X:=(MX.1 aD) i (K8.2 Y);rw[ho]at X;simp only[HL,Option.getD_some,A3h]at X;have ob:=aN.et i o aM;rw[GC]at ob;have O:Fc G y w (Gc o):=by
    refine Fc.of _ λj W=>?_;unfold Gc at W;rw[C9]at W;obtain⟨e,he,rfl⟩:=W;rw[GF]at he;(have aJ:e∈o.after:=by simpa using he.1);have h2:=X e aJ;rw[he.2]at h2;(have h3:e.on<i:=by simpa using h2);exact hG e.on (by omega) (hall e aJ he.2)
   have I:∀v w',S w'->(R w w'\/w'=w)->G i v w'->wpAny P .any l.toArray Q (f+(l.toArray.size-n)) (listed.setIfInBounds i true) ((A y).put o.dst v) w':=by
    intro v w' aA hR aG;rw[ob.2.2 y v];refine ih _ _ _ (z.set hi Y) (by have:=U9 listed i hun n Y;omega) aA λj W hl=>?_;unfold Qd;by_cases aE:j=i
    ·subst aE;simpa using aG
    ·rw[Ae aE];rw[Mf false (P9 aE)]at hl;rcases hR with hR|rfl
     ·exact aL j _ w w' hR aA (hG j W hl)
     ·exact hG j W hl
   unfold wpOp;simp only[ho];split
   ·rename_i hw;exact .inl (ob.1 y w hS O hw _ λv a' w' aG aP hR aA=>aP ▸ I v w' aA (.inl hR) aG)
   ·rename_i hw;exact I _ w hS (.inr rfl) (ob.2.1 y w hS O (by simpa using hw))
def Hb{id:Nat}{a:Act}{w:World}{l:List Oper}(n:Nat)(A:(Nat->Value)->Act)(Y:Nat->Value)(S:World->Prop)(R:World->World->Prop)(G:Nat->Value->World->Prop)(hm:P.follows .mixedOrders=true)(X:Ml l.toArray n=true)(ha:a=A Y)(hS:S w.drew)(O:∀j v w w',R w w'->S w'->G j v w->G j v w')(W:FP P l.toArray A S R G Q 0 (l.take n))(h:∀y w,S w->(∀j,j<n->G j (y j) w)->wpList P l.toArray Q (l.drop n) (A y) w):(Code.region id l.toArray true).wp P Q a w:=by
 have hn:n<l.toArray.size:=by
  simp only[Ml,Gp,DT]at X;exact X.1.1.1.1
 refine PQ hm ?_;have z:HeadInv .any l.toArray n (Array.replicate l.toArray.size false):=
  ⟨by simp,λj oj _ I=>(by rw[JN]at I;cases I),λt _ ht=>getD_in (by simpa using ht) (JN _ _)⟩
 have H:=A02 X W O h n _ Y w.drew z (U8 _ n (by omega)) hS (λj _ I=>by rw[JN]at I;cases I);rw[show n+(l.toArray.size-n)=l.toArray.size by omega]at H;rw[ha];exact H
end
def UO{α:Type}{a:α}{l:List α}{n:Nat}:(a::l).drop (n+1)=l.drop n:=rfl
def UN{α:Type}{l:List α}:l.drop 0=l:=rfl
section
variable{P:Program}{ops:Array Oper}{md:Region.Mode}{Q:Exit->Act->World->Prop}{S:World->Prop}
def Kk(P:Program)(md:Region.Mode)(ops:Array Oper)(Q:Exit->Act->World->Prop)(S:World->Prop)(n:Nat)(L:Array Bool->Act->World->Prop):Nat->Array Bool->Act->World->Prop
 | 0,listed,a,w=>L listed a w
 | f+1,listed,a,w=>Region.ready md ops listed≠[]/\∀i∈Region.ready md ops listed,i<n/\wpOp P ops Q i (λa' w'=>S w'/\Kk P md ops Q S n L f (listed.setIfInBounds i true) a' w') a w
def PT{n g:Nat}{L:Array Bool->Act->World->Prop}(z:∀listed a w,L listed a w->wpAny P md ops Q g listed a w):
 ∀(f:Nat) (listed:Array Bool) (a:Act) (w:World),Kk P md ops Q S n L f listed a w->wpAny P md ops Q (f+g) listed a w
 | 0,listed,a,w,h=>by rw[GC];exact z _ _ _ h
 | f+1,listed,a,w,h=>by
  rw[show f+1+g=(f+g)+1 from by omega];exact⟨λO=>absurd O h.1,λi I=>Kj (λa' w' H=>PT z f _ a' w' H.2) (h.2 i I).2⟩
def Vv{n i:Nat}{oi:Oper}{v:Value}{L:Array Bool->Act->World->Prop}(hi:ops[i]?=some oi)(aA:∀(j:Nat) (o:Oper) cs b,ops[j]?=some o->o.op≠.select cs b)(hQ:∀c a w,Q (.panic c) (a.put oi.dst v) w->Q (.panic c) a w)(hs:Region.sinkB md ops n=true)(hc:Region.chainB md ops n=true)(hn:n<ops.size)(aF:i<n)(aB:∀listed a w,L listed a w->∀j∈Region.ready md ops listed,n<=j):
 ∀(f:Nat) (listed:Array Bool) (a:Act) (w:World),HeadInv md ops n listed->
  (∀j oj,ops[j]?=some oj->j≠i->listed.getD j true=false->(∀e∈oj.after,Region.binds md e=true->e.on≠i)->oi.apart ops oj=true)->
  i∈Region.ready md ops listed->YieldsIf P ops S oi v a->S w->
  Kk P md ops Q S n L f (listed.setIfInBounds i true) (a.put oi.dst v) w->Kk P md ops Q S n L (f+1) listed a w:=by
 intro f
 induction f with
 | zero=>
  intro listed a w X _ hr hy hS H;have I:=(Ib.1 hr).1;refine⟨λh=>(by rw[h]at hr;cases hr),λj hj=>?_⟩;have Y:j<n:=by
   rcases F6 j n with h|h
   ·exact h
   ·exact absurd hj (LA hs hc hn X _ i rfl aF I j h)
  refine⟨Y,?_⟩;by_cases z:j=i
  ·subst z;exact hy.wpOp hi hS ⟨hS,H⟩
  ·have:=aB _ _ _ H j (Kx hj z);omega
 | succ f ih=>
  intro listed a w X O hr hy hS H;have I:=(Ib.1 hr).1;refine⟨λh=>(by rw[h]at hr;cases hr),λj hj=>?_⟩;have Y:j<n:=by
   rcases F6 j n with h|h
   ·exact h
   ·exact absurd hj (LA hs hc hn X _ i rfl aF I j h)
  refine⟨Y,?_⟩;by_cases z:j=i
  ·subst z;exact hy.wpOp hi hS ⟨hS,H⟩
  ·have h1:=(H.2 j (Kx hj z)).2;have⟨hjun,oj,hoj,hall⟩:=Ib.1 hj;have aE:∀e∈oj.after,Region.binds md e=true->e.on≠i:=λe he hb aI=>by
    have h1:=hall e he hb;rw[aI,getD_both I]at h1;cases h1
   have h2:=wpOp_putIf hoj (O j oj hoj z hjun aE) (λcs b=>aA i oi cs b hi) (λcs b=>aA j oj cs b hoj) hQ hy h1;have W:∀k ok,ops[k]?=some ok->k≠i->(listed.setIfInBounds j true).getD k true=false->
    (∀e∈ok.after,Region.binds md e=true->e.on≠i)->oi.apart ops ok=true:=λk ok hk aH I aG=>by
    refine O k ok hk aH ?_ aG;by_cases aD:j=k
    ·subst aD;exact hjun
    ·rw[Mf true aD]at I;exact I
   refine Kj (λa' w' h3=>⟨h3.2.1,ih (listed.setIfInBounds j true) a' w' (X.set hj Y) W (Kx hr (P9 z)) h3.1 h3.2.1 ?_⟩) h2;rw[Vm _ _ z];exact h3.2.2
def FB(P:Program)(ops:Array Oper)(Q:Exit->Act->World->Prop)(S:World->Prop)(T:Act->World->Prop):List (Nat×Bool)->Act->World->Prop
 | [],a,w=>T a w
 | (i,true):: r,a,w=>∃o v,ops[i]?=some o/\YieldsIf P ops S o v a/\FB P ops Q S T r (a.put o.dst v) w
 | (i,false):: r,a,w=>wpOp P ops Q i (λa' w'=>S w'/\FB P ops Q S T r a' w') a w
def Ku(md:Region.Mode)(ops:Array Oper)(n:Nat):List (Nat×Bool)->Array Bool->Bool
 | [],listed=>Region.seqB md ops (ops.size-n) n listed
 | (i,t):: r,listed=>decide (i<n)&&(if t then (Region.ready md ops listed).contains i&&Region.free md ops listed i else decide (Region.ready md ops listed=[i]))&&Ku md ops n r (listed.setIfInBounds i true)
def LG(ops:Array Oper)(n:Nat)(h:List (Nat×Bool)):Bool:=
 Region.noSelect ops&&decide (n<ops.size)&&decide (h.length=n)&&Region.sinkB .any ops n&&Region.chainB .any ops n&&Ku .any ops n h (Array.replicate ops.size false)
def N6{n:Nat}{T:Act->World->Prop}(H:Region.noSelect ops=true)(hs:Region.sinkB md ops n=true)(hc:Region.chainB md ops n=true)(hn:n<ops.size)(hQ:∀c a t v w,Q (.panic c) (Act.put a (some t) v) w->Q (.panic c) a w):
 ∀(X:List (Nat×Bool)) (listed:Array Bool) (a:Act) (w:World),HeadInv md ops n listed->Ku md ops n X listed=true->S w->FB P ops Q S T X a w->
 Kk P md ops Q S n (λz a' w'=>Region.seqB md ops (ops.size-n) n z=true/\T a' w') X.length listed a w
 | [],listed,a,w,_,hB,_,h=>⟨hB,h⟩
 | (i,true):: r,listed,a,w,inv,hB,hS,h=>by
  simp only[Ku,Gp,DT,Cn]at hB;obtain⟨⟨I,Y,hf⟩,W⟩:=hB;obtain⟨o,v,h0,hy,hK⟩:=h;have O:i∈Region.ready md ops listed:=by simpa using Y
  exact Vv h0 (UK H) (λc a w=>by cases o.dst with|none=>exact id|some t=>exact hQ c a t v w) hs hc hn I (λz a' w' hL=>QE hL.1) r.length listed a w inv (UL h0 hf) O hy hS
   (N6 H hs hc hn hQ r _ _ w (inv.set O I) W hS hK)
 | (i,false):: r,listed,a,w,inv,hB,hS,h=>by
  simp only[Ku,Gp,DT,PG,C4]at hB;obtain⟨⟨I,Y⟩,W⟩:=hB;refine⟨by rw[Y];simp,λj hj=>?_⟩;have O:i∈Region.ready md ops listed:=by rw[Y];simp
  rw[Y]at hj;have:j=i:=by simpa using hj
  subst this;exact⟨I,Kj (λa' w' h'=>⟨h'.1,N6 H hs hc hn hQ r _ a' w' (inv.set O I) W h'.1 h'.2⟩) h⟩
def Ff{id:Nat}{a:Act}{w:World}{l:List Oper}(S:World->Prop)(n:Nat)(z:List (Nat×Bool))(hm:P.follows .mixedOrders=true)(Y:LG l.toArray n z=true)(hQ:∀c a t v w,Q (.panic c) (Act.put a (some t) v) w->Q (.panic c) a w)(hS:S w.drew)(h:FB P l.toArray Q S (λa w=>wpList P l.toArray Q (l.drop n) a w) z a w.drew):(Code.region id l.toArray true).wp P Q a w:=by
 simp only[LG,Gp,DT]at Y;obtain⟨⟨⟨⟨⟨hsel,hn⟩,hsl⟩,hs⟩,hc⟩,hgo⟩:=Y;have O:(l.drop n).length=l.toArray.size-n:=by simp
 have I:HeadInv .any l.toArray n (Array.replicate l.toArray.size false):=
  ⟨by simp,λj oj _ X=>(by rw[JN]at X;cases X),λt _ ht=>getD_in (by simpa using ht) (JN _ _)⟩
 have H:=N6 (md:=.any) (T:=λa w=>wpList P l.toArray Q (l.drop n) a w) hsel hs hc hn hQ z _ a w.drew I hgo hS h;refine PQ hm ?_
 have:=PT (Q:=Q) (g:=l.toArray.size-n) (λlisted a' w' W=>by
  have:=PR (md:=.any) (Q':=Q) (l.drop n) n listed a' w' (λj=>by simp[List.getElem?_drop]) (by rw[O];exact W.1) W.2
  rwa [O]at this) _ _ _ _ H
 rw[hsl,show n+(l.toArray.size-n)=l.toArray.size from by omega]at this;exact this
def DO{i:Nat}{o:Oper}{v:Value}{r:List (Nat×Bool)}{a:Act}{w:World}{T:Act->World->Prop}(H:ops[i]?=some o)(z:Region.wanted o (yielded ops a.tmps)=true)(I:∀w,S w->(execOp a.eval o).run P w=.ok (.value v) w)(h:FB P ops Q S T r (a.put o.dst v) w):FB P ops Q S T ((i,true):: r) a w:=
 ⟨o,v,H,.inl ⟨z,I⟩,h⟩
def Fg{a:Act}{w:World}{T:Act->World->Prop}(h:T a w):FB P ops Q S T [] a w:=h
def Dt{i:Nat}{o:Oper}{r:List (Nat×Bool)}{a:Act}{w:World}{T:Act->World->Prop}(O:ops[i]?=some o)(H:Region.wanted o (yielded ops a.tmps)=true)(h:∀K:Act->World->Prop,(∀a w,S w->(S w->FB P ops Q S T r a w)->K a w)->o.wp P a w K Q):FB P ops Q S T ((i,false):: r) a w:=by
 show wpOp P ops Q i _ a w;unfold wpOp;simp only[O,H,Cn];exact .inl (h _ λa w z I=>⟨z,I z⟩)
def Bq{i:Nat}{o:Oper}{v:Value}{r:List (Nat×Bool)}{a z:Act}{w:World}{T:Act->World->Prop}(h:FB P ops Q S T r z w)(I:ops[i]?=some o:=by rfl)(H:Region.wanted o (yielded ops a.tmps)=true:=by rfl)(O:∀w,S w->(execOp a.eval o).run P w=.ok (.value v) w:=by intro w' X;(try dsimp only at X);go_simp;try with_reducible rfl)(W:a.put o.dst v=z:=by simp only[BQ];rfl):FB P ops Q S T ((i,true):: r) a w:=DO I H O (W ▸ h)
def By{i:Nat}{o:Oper}{r:List (Nat×Bool)}{a:Act}{w:World}{T:Act->World->Prop}(h:∀K:Act->World->Prop,(∀a w,S w->(S w->FB P ops Q S T r a w)->K a w)->o.wp P a w K Q)(H:ops[i]?=some o:=by rfl)(z:Region.wanted o (yielded ops a.tmps)=true:=by rfl):FB P ops Q S T ((i,false):: r) a w:=Dt H z h
def Cc{a:Act}{w:World}{l z:List Oper}{n:Nat}(h:wpList P l.toArray Q z a w)(H:l.drop n=z:=by simp only[UO,UN];rfl):FB P l.toArray Q S (λa w=>wpList P l.toArray Q (l.drop n) a w) [] a w:=by subst H;exact h
def Ce{id:Nat}{a:Act}{w:World}{l:List Oper}(S:World->Prop)(n:Nat)(z:List (Nat×Bool))(I:S w.drew)(h:FB P l.toArray Q S (λa w=>wpList P l.toArray Q (l.drop n) a w) z a w.drew)(H:P.follows .mixedOrders=true:=by kernel_rfl)(O:LG l.toArray n z=true:=by kernel_rfl)(W:∀c a t v w,Q (.panic c) (Act.put a (some t) v) w->Q (.panic c) a w:=by exact λ_ _ _ _ _ h=>h):(Code.region id l.toArray true).wp P Q a w:=Ff S n z H O W I h
end
def MK(Q:Exit->Act->World->Prop):Exit->Act->World->Prop
 | .panic _,_,_=>False
 | e,a,w=>Q e a w
def Cz(Q:Exit->Act->World->Prop)(a:Act)(w:World):MK Q .normal a w=Q .normal a w:=rfl
def A2H{Q:Exit->Act->World->Prop}{e:Exit}{a:Act}{w:World}(h:MK Q e a w):Q e a w:=by
 cases e with
 | panic _=>exact h.elim
 | _=>exact h
def PO{P:Program}{Q:Exit->Act->World->Prop}{id:Nat}{a:Act}{w:World}{l:List Oper}(S:World->Prop)(n:Nat)(z:List (Nat×Bool))(H:P.follows .mixedOrders=true)(O:LG l.toArray n z=true)(I:S w.drew)(h:FB P l.toArray (MK Q) S (λa w=>wpList P l.toArray (MK Q) (l.drop n) a w) z a w.drew):(Code.region id l.toArray true).wp P Q a w:=
 Code.wp_mono (λ_ _ _ h=>A2H h) (Ff S n z H O (λ_ _ _ _ _ h=>h) I h)
end
end Go.Proofs.YtodcnkbblippnabGreatDoor
