/- Part 2 of a proof: walks of the program. -/
import Derived.Handy
import Derived.Deep.RegionHeld3
import Derived.Deep.LoopGhost
import Derived.Deep.DrawnRows
import Derived.Test.YtodcnkbblippnabGreatDoorPart01
namespace Go.Proofs.YtodcnkbblippnabGreatDoor
set_option maxRecDepth 100000
set_option maxHeartbeats 32000000
set_option linter.defProp false
open Go.Proofs.Tryz
section
open Go
def UD{α:Type}{l:List α}{i:Nat}{a:α}:l.toArray.setIfInBounds i a=(l.set i a).toArray:=A2X _ _ _
def UC{α:Type}{x a:α}{xs:List α}:(x::xs).set 0 a=a::xs:=rfl
def UB{α:Type}{x a:α}{xs:List α}{n:Nat}:(x::xs).set (n+1) a=x::xs.set n a:=rfl
def UA{α:Type}{l:List α}{i:Nat}(h:i<l.toArray.size):l.toArray[i]=l[i]'(by simpa using h):=rfl
def Uz{α:Type}{a:α}{l:List α}(h:0<(a::l).length):(a::l)[0]=a:=rfl
def Pt6{α:Type}{a:α}{l:List α}{i:Nat}(h:i+1<(a::l).length):(a::l)[i+1]=l[i]'(A2Q h):=rfl
def BO{α:Type}{a:α}{l:List α}{n:Nat}:(a::l).drop (n+1)=l.drop n:=rfl
def BN{α:Type}{l:List α}:l.drop 0=l:=rfl
section
variable {P:Program} {ops:Array Oper} {md:Region.Mode} {Q:Exit->Act->World->Prop} {S:World->Prop}
def K4(P:Program)(md:Region.Mode)(ops:Array Oper)(Q:Exit->Act->World->Prop)(S:World->Prop)(n:Nat)(L:Array Bool->Act->World->Prop):Nat->Array Bool->Act->World->Prop
 | 0,listed,a,w=>L listed a w
 | f+1,listed,a,w=>Region.ready md ops listed≠[]/\∀i∈Region.ready md ops listed,i<n/\wpOp P ops Q i (λa' w'=>S w'/\K4 P md ops Q S n L f (listed.setIfInBounds i true) a' w') a w
def PN{n g:Nat}{L:Array Bool->Act->World->Prop}(d:∀listed a w,L listed a w->wpAny P md ops Q g listed a w):
 ∀(f:Nat) (listed:Array Bool) (a:Act) (w:World),K4 P md ops Q S n L f listed a w->wpAny P md ops Q (f+g) listed a w
 | 0,listed,a,w,h=>by rw[Gx];exact d _ _ _ h
 | f+1,listed,a,w,h=>by
  rw[show f+1+g=(f+g)+1 from by omega];exact⟨λH=>absurd H h.1,λi E=>K3 (λa' w' z=>PN d f _ a' w' z.2) (h.2 i E).2⟩
def Vq{n i:Nat}{oi:Oper}{v:Value}{L:Array Bool->Act->World->Prop}(hi:ops[i]?=some oi)(aA:∀(j:Nat) (o:Oper) cs b,ops[j]?=some o->o.op≠.select cs b)(hQ:∀c a w,Q (.panic c) (a.put oi.dst v) w->Q (.panic c) a w)(hs:Region.sinkB md ops n=true)(hc:Region.chainB md ops n=true)(hn:n<ops.size)(aG:i<n)(aD:∀listed a w,L listed a w->∀j∈Region.ready md ops listed,n<=j):
 ∀(f:Nat) (listed:Array Bool) (a:Act) (w:World),HeadInv md ops n listed->
  (∀j oj,ops[j]?=some oj->j≠i->listed.getD j true=false->(∀e∈oj.after,Region.binds md e=true->e.on≠i)->oi.apart ops oj=true)->
  i∈Region.ready md ops listed->YieldsIf P ops S oi v a->S w->
  K4 P md ops Q S n L f (listed.setIfInBounds i true) (a.put oi.dst v) w->K4 P md ops Q S n L (f+1) listed a w:=by
 intro f
 induction f with
 | zero=>
  intro listed a w O _ hr hy hS H;have z:=(I0.1 hr).1;refine⟨λh=>(by rw[h]at hr;cases hr),λj hj=>?_⟩;have W:j<n:=by
   rcases EW j n with h|h
   ·exact h
   ·exact absurd hj (Lu hs hc hn O _ i rfl aG z j h)
  refine⟨W,?_⟩;by_cases d:j=i
  ·subst d;exact hy.wpOp hi hS ⟨hS,H⟩
  ·have:=aD _ _ _ H j (Kh hj d);omega
 | succ f ih=>
  intro listed a w O E hr hy hS H;have z:=(I0.1 hr).1;refine⟨λh=>(by rw[h]at hr;cases hr),λj hj=>?_⟩;have W:j<n:=by
   rcases EW j n with h|h
   ·exact h
   ·exact absurd hj (Lu hs hc hn O _ i rfl aG z j h)
  refine⟨W,?_⟩;by_cases d:j=i
  ·subst d;exact hy.wpOp hi hS ⟨hS,H⟩
  ·have h1:=(H.2 j (Kh hj d)).2;obtain⟨Y,oj,aB,hall⟩:=I0.1 hj;have aF:∀e∈oj.after,Region.binds md e=true->e.on≠i:=λe he hb aJ=>by
    have h1:=hall e he hb;rw[aJ,getD_both z]at h1;cases h1
   have h2:=wpOp_putIf aB (E j oj aB d Y aF) (λcs b=>aA i oi cs b hi) (λcs b=>aA j oj cs b aB) hQ hy h1;have I:∀k ok,ops[k]?=some ok->k≠i->(listed.setIfInBounds j true).getD k true=false->
    (∀e∈ok.after,Region.binds md e=true->e.on≠i)->oi.apart ops ok=true:=λk ok hk aI z aH=>by
    refine E k ok hk aI ?_ aH;by_cases aE:j=k
    ·subst aE;exact Y
    ·rw[LV true aE]at z;exact z
   refine K3 (λa' w' h3=>⟨h3.2.1,ih (listed.setIfInBounds j true) a' w' (O.set hj W) I (Kh hr (Pd d)) h3.1 h3.2.1 ?_⟩) h2;rw[Vg _ _ d];exact h3.2.2
def F8(P:Program)(ops:Array Oper)(Q:Exit->Act->World->Prop)(S:World->Prop)(T:Act->World->Prop):List (Nat×Bool)->Act->World->Prop
 | [],a,w=>T a w
 | (i,true):: r,a,w=>∃o v,ops[i]?=some o/\YieldsIf P ops S o v a/\F8 P ops Q S T r (a.put o.dst v) w
 | (i,false):: r,a,w=>wpOp P ops Q i (λa' w'=>S w'/\F8 P ops Q S T r a' w') a w
def Kd(md:Region.Mode)(ops:Array Oper)(n:Nat):List (Nat×Bool)->Array Bool->Bool
 | [],listed=>Region.seqB md ops (ops.size-n) n listed
 | (i,t):: r,listed=>decide (i<n)&&(if t then (Region.ready md ops listed).contains i&&Region.free md ops listed i else decide (Region.ready md ops listed=[i]))&&Kd md ops n r (listed.setIfInBounds i true)
def Lz(ops:Array Oper)(n:Nat)(d:List (Nat×Bool)):Bool:=
 Region.noSelect ops&&decide (n<ops.size)&&decide (d.length=n)&&Region.sinkB .any ops n&&Region.chainB .any ops n&&Kd .any ops n d (Array.replicate ops.size false)
def MY{n:Nat}{T:Act->World->Prop}(z:Region.noSelect ops=true)(hs:Region.sinkB md ops n=true)(hc:Region.chainB md ops n=true)(hn:n<ops.size)(W:∀c a t v w,Q (.panic c) (Act.put a (some t) v) w->Q (.panic c) a w):
 ∀(L:List (Nat×Bool)) (listed:Array Bool) (a:Act) (w:World),HeadInv md ops n listed->Kd md ops n L listed=true->S w->F8 P ops Q S T L a w->
 K4 P md ops Q S n (λd a' w'=>Region.seqB md ops (ops.size-n) n d=true/\T a' w') L.length listed a w
 | [],listed,a,w,_,hB,_,h=>⟨hB,h⟩
 | (i,true):: r,listed,a,w,inv,hB,hS,h=>by
  simp only[Kd,FV,DG,Cg]at hB;obtain⟨⟨E,O,hf⟩,I⟩:=hB;obtain⟨o,v,h0,hy,hK⟩:=h;have H:i∈Region.ready md ops listed:=by simpa using O
  exact Vq h0 (Uw z) (λc a w=>by cases o.dst with|none=>exact id|some t=>exact W c a t v w) hs hc hn E (λd a' w' hL=>Qw hL.1) r.length listed a w inv (Ux h0 hf) H hy hS
   (MY z hs hc hn W r _ _ w (inv.set H E) I hS hK)
 | (i,false):: r,listed,a,w,inv,hB,hS,h=>by
  simp only[Kd,FV,DG,MU,C4]at hB;obtain⟨⟨E,O⟩,I⟩:=hB;refine⟨by rw[O];simp,λj hj=>?_⟩;have H:i∈Region.ready md ops listed:=by rw[O];simp
  rw[O]at hj;have:j=i:=by simpa using hj
  subst this;exact⟨E,K3 (λa' w' Y=>⟨Y.1,MY z hs hc hn W r _ a' w' (inv.set H E) I Y.1 Y.2⟩) h⟩
def FA{id:Nat}{a:Act}{w:World}{l:List Oper}(S:World->Prop)(n:Nat)(d:List (Nat×Bool))(hm:P.follows .mixedOrders=true)(O:Lz l.toArray n d=true)(Y:∀c a t v w,Q (.panic c) (Act.put a (some t) v) w->Q (.panic c) a w)(hS:S w.drew)(h:F8 P l.toArray Q S (λa w=>wpList P l.toArray Q (l.drop n) a w) d a w.drew):(Code.region id l.toArray true).wp P Q a w:=by
 simp only[Lz,FV,DG]at O;obtain⟨⟨⟨⟨⟨hsel,hn⟩,hsl⟩,hs⟩,hc⟩,hgo⟩:=O;have E:(l.drop n).length=l.toArray.size-n:=by simp
 have z:HeadInv .any l.toArray n (Array.replicate l.toArray.size false):=
  ⟨by simp,λj oj _ L=>(by rw[Jy]at L;cases L),λt _ W=>getD_in (by simpa using W) (Jy _ _)⟩
 have H:=MY (md:=.any) (T:=λa w=>wpList P l.toArray Q (l.drop n) a w) hsel hs hc hn Y d _ a w.drew z hgo hS h;refine PK hm ?_
 have:=PN (Q:=Q) (g:=l.toArray.size-n) (λlisted a' w' I=>by
  have:=PM (md:=.any) (Q':=Q) (l.drop n) n listed a' w' (λj=>by simp[List.getElem?_drop]) (by rw[E];exact I.1) I.2
  rwa [E]at this) _ _ _ _ H
 rw[hsl,show n+(l.toArray.size-n)=l.toArray.size from by omega]at this;exact this
def E8{i:Nat}{o:Oper}{v:Value}{r:List (Nat×Bool)}{a:Act}{w:World}{T:Act->World->Prop}(z:ops[i]?=some o)(d:Region.wanted o (yielded ops a.tmps)=true)(E:∀w,S w->(execOp a.eval o).run P w=.ok (.value v) w)(h:F8 P ops Q S T r (a.put o.dst v) w):F8 P ops Q S T ((i,true):: r) a w:=
 ⟨o,v,z,.inl ⟨d,E⟩,h⟩
def Vm{i:Nat}{o:Oper}{r:List (Nat×Bool)}{a:Act}{w:World}{T:Act->World->Prop}(z:ops[i]?=some o)(d:Region.wanted o (yielded ops a.tmps)=false)(h:F8 P ops Q S T r (a.put o.dst undef) w):F8 P ops Q S T ((i,true):: r) a w:=
 ⟨o,_,z,.inr ⟨d,rfl⟩,h⟩
def Bo{a:Act}{w:World}{T:Act->World->Prop}(h:T a w):F8 P ops Q S T [] a w:=h
def DY{i:Nat}{o:Oper}{r:List (Nat×Bool)}{a:Act}{w:World}{T:Act->World->Prop}(H:ops[i]?=some o)(z:Region.wanted o (yielded ops a.tmps)=true)(h:∀K:Act->World->Prop,(∀a w,S w->(S w->F8 P ops Q S T r a w)->K a w)->o.wp P a w K Q):F8 P ops Q S T ((i,false):: r) a w:=by
 show wpOp P ops Q i _ a w;unfold wpOp;simp only[H,z,Cg];exact .inl (h _ λa w d E=>⟨d,E d⟩)
def Bj{i:Nat}{o:Oper}{v:Value}{r:List (Nat×Bool)}{a:Act}{w:World}{T:Act->World->Prop}(h:F8 P ops Q S T r (a.put o.dst v) w)(z:ops[i]?=some o:=by rfl)(d:Region.wanted o (yielded ops a.tmps)=true:=by rfl)(E:∀w,S w->(execOp a.eval o).run P w=.ok (.value v) w:=by intro w' H;(try dsimp only at H);go_simp;try with_reducible rfl):F8 P ops Q S T ((i,true):: r) a w:=E8 z d E h
def Bt{i:Nat}{o:Oper}{r:List (Nat×Bool)}{a:Act}{w:World}{T:Act->World->Prop}(h:∀K:Act->World->Prop,(∀a w,S w->(S w->F8 P ops Q S T r a w)->K a w)->o.wp P a w K Q)(z:ops[i]?=some o:=by rfl)(d:Region.wanted o (yielded ops a.tmps)=true:=by rfl):F8 P ops Q S T ((i,false):: r) a w:=DY z d h
def C3{id:Nat}{a:Act}{w:World}{l:List Oper}(S:World->Prop)(n:Nat)(d:List (Nat×Bool))(E:S w.drew)(h:F8 P l.toArray Q S (λa w=>wpList P l.toArray Q (l.drop n) a w) d a w.drew)(z:P.follows .mixedOrders=true:=by kernel_rfl)(H:Lz l.toArray n d=true:=by kernel_rfl)(I:∀c a t v w,Q (.panic c) (Act.put a (some t) v) w->Q (.panic c) a w:=by exact λ_ _ _ _ _ h=>h):(Code.region id l.toArray true).wp P Q a w:=FA S n d z H I E h
end
def Ms(Q:Exit->Act->World->Prop):Exit->Act->World->Prop
 | .panic _,_,_=>False
 | e,a,w=>Q e a w
def CE(Q:Exit->Act->World->Prop)(a:Act)(w:World):Ms Q .normal a w=Q .normal a w:=rfl
def A2N{Q:Exit->Act->World->Prop}{e:Exit}{a:Act}{w:World}(h:Ms Q e a w):Q e a w:=by
 cases e with
 | panic _=>exact h.elim
 | _=>exact h
def PJ{P:Program}{Q:Exit->Act->World->Prop}{id:Nat}{a:Act}{w:World}{l:List Oper}(S:World->Prop)(n:Nat)(d:List (Nat×Bool))(z:P.follows .mixedOrders=true)(H:Lz l.toArray n d=true)(E:S w.drew)(h:F8 P l.toArray (Ms Q) S (λa w=>wpList P l.toArray (Ms Q) (l.drop n) a w) d a w.drew):(Code.region id l.toArray true).wp P Q a w:=
 Code.wp_mono (λ_ _ _ h=>A2N h) (FA S n d z H (λ_ _ _ _ _ h=>h) E h)
end
section
open Go.RowKit
def BH(l:List UInt8):Int:=wrap64 (EF (l.take 8):Nat)
def LR(w:World)(l:List UInt8)(d:8<=l.length/\l.length<=9223372036854775807):
 Ah 121 #[.string ⟨l.toArray⟩] w (Am (A0 (BH l)) λw'=>w=w'):=
 ZA w ⟨l.toArray⟩ d
def LS(n:Int)(h : -9223372036854775808<=n/\n<=9223372036854775807)(r:List UInt8):BH (AO n++r)=n:=by
 unfold BH;rw[GI (by rw[CJ];omega),Em (by rw[CJ];omega)];exact Vk n h
def C5(w:World)(p:Nat)(s t v:Int):Prop:=w.heap[p]?=some (.cells #[.int .i64 s,.int .i64 t,.int .i64 v] 90 (0,0))
def C5.c0{w:World}{p:Nat}{s t v:Int}(h:C5 w p s t v):A6 w p 0 (A0 s):=by unfold C5 at h;simp[A6,World.cell?,h]
def C5.c1{w:World}{p:Nat}{s t v:Int}(h:C5 w p s t v):A6 w p 1 (A0 t):=by unfold C5 at h;simp[A6,World.cell?,h]
def C5.c2{w:World}{p:Nat}{s t v:Int}(h:C5 w p s t v):A6 w p 2 (A0 v):=by unfold C5 at h;simp[A6,World.cell?,h]
def C5.fz{w:World}{p:Nat}{s t v:Int}(h:C5 w p s t v)(o:Nat):w.frozen? (Ab p o)=false:=by unfold C5 at h;simp[World.frozen?,h]
def C5.lt{w:World}{p:Nat}{s t v:Int}(h:C5 w p s t v):p<w.heap.size:=Bw h
def C5.ak{S:Nat->Prop}{w w':World}{p:Nat}{s t v:Int}(h:C5 w p s t v)(d:A3 S w w')(z:¬S p):C5 w' p s t v:=d.ak h z
def C5.af{w:World}{p:Nat}{s t v:Int}(h:C5 w p s t v):C5 w.drew p s t v:=by unfold C5 at h ⊢;exact h
def C5.br{w:World}{p:Nat}{s t v:Int}(h:C5 w p s t v)(s' z d:Int):C5 (((w.setCell (Ab p 0) (A0 s')).setCell (Ab p 1) (A0 z)).setCell (Ab p 2) (A0 d)) p s' z d:=
 CH (o:=2) (v:=A0 d) (CH (o:=1) (v:=A0 z) (CH (o:=0) (v:=A0 s') h))
def Rr(w:World)(b:UInt8)(l:List UInt8)(hl:16<=l.length/\l.length<9223372036854775807):
 Ah 129 #[.string ⟨(b::l).toArray⟩] w (Am (.tuple #[.agg #[A0 b.toNat,A0 (BH l),A0 (BH (l.drop 8))],.bool (decide (b.toNat<8))]) λw'=>A3 Aa w w'):=by
 obtain⟨hl1,hl2⟩:=hl;have hb:=b.toNat_lt
 go_enter func129,ntmps129
 go_wp2;refine H0 12 (λy=>{tmps:=#[.string ⟨(b::l).toArray⟩,undef,A5 w.heap.size,.bool false,y 11,y 0,y 1,y 2,y 3,y 4,y 5,y 6,y 7,y 8,y 9,y 10,undef,undef,undef,undef],defers:=[]}) (λ_=>undef)
  (λw'=>C5 w' w.heap.size 0 0 0/\A3 Aa w w') (A3 Aa)
  (λj x w'=>match j with
   | 0=>x=.string ⟨(b::l).toArray⟩
   | 1=>x=.int .u8 b.toNat
   | 2=>x=A0 b.toNat
   | 3=>x=.string ⟨(b::l).toArray⟩
   | 4=>x=.string ⟨l.toArray⟩
   | 5=>x=A0 (BH l)
   | 6=>x=.string ⟨(b::l).toArray⟩
   | 7=>x=.string ⟨(l.drop 8).toArray⟩
   | 8=>x=A0 (BH (l.drop 8))
   | 9=>x=.agg #[A0 (BH l),A0 (BH (l.drop 8))]
   | 10=>x=.agg #[A0 b.toNat,A0 (BH l),A0 (BH (l.drop 8))]
   | 11=>∃p,x=(A5 p)/\w.heap.size<p/\C5 w' p 0 0 0
   | _=>True)
  (by kernel_rfl) (by kernel_rfl) rfl ?_ ?_ ?_ ?_
 ·exact⟨(by show (w.heap.push _)[w.heap.size]?=_;rw[Ip]),((A3.I _ _).aj _).af⟩
 ·intro j x w1 w2 hR aN O;split at O
  case h_12=>
   obtain⟨p,h1,h2,h3⟩:=O;exact⟨p,h1,h2,h3.ak hR (λh=>h)⟩
  all_goals exact O
 ·simp only[EX,EL,Fy,Hv]
  repeat' (with_reducible apply And.intro)
  all_goals refine⟨?_,(by intro y L _ _ h;exact Bool.noConfusion h),λy x=>rfl⟩
  all_goals
   intro y L hS hd hw K hK;obtain⟨H,d⟩:=hS;simp[G8,Region.binds,F6,List.filter_cons]at hd;have e0:(ByteArray.mk (b::l).toArray)[0]'(by show 0<l.length+1;omega)=b:=rfl;have e1:(ByteArray.mk (b::l).toArray).extract 1 (l.length+1)=⟨l.toArray⟩:=by
    rw[extract_mk];simp
   have e9:(ByteArray.mk (b::l).toArray).extract 9 (l.length+1)=⟨(l.drop 8).toArray⟩:=by
    rw[extract_mk,DE,Em (by simp)]
   (have g1:(1:Int)<=(l.length:Int)+1:=by omega);(have g9:(9:Int)<=(l.length:Int)+1:=by omega);(have ew:IntKind.i64.wrap (b.toNat:Int)=b.toNat:=by simp[IntKind.wrap,IntKind.bits,IntKind.signed];omega);have E:=A1 H;have I:=A1 d;have aD:=A1 hK
  all_goals dsimp only
  all_goals try go_simp
  all_goals try with_reducible exact aD.o _ _ _ rfl (by simp[Act.put,hd]) (A3.I _ _) ⟨E.o,I.o⟩
  all_goals try
   (have hd4:y 4=.string ⟨l.toArray⟩:=by with_reducible exact hd);refine(LR L l (by omega)).mono ?_;rintro e w2⟨rfl,rfl⟩;exact aD.o _ _ _ rfl (by simp[Act.put,hd]) (A3.I _ _) ⟨E.o,I.o⟩
  all_goals try
   (have hd7:y 7=.string ⟨(l.drop 8).toArray⟩:=by with_reducible exact hd.1);refine(LR L (l.drop 8) (by rw[CP];omega)).mono ?_;rintro e w2⟨rfl,rfl⟩;exact aD.o _ _ _ rfl (by simp[Act.put,hd]) (A3.I _ _) ⟨E.o,I.o⟩
  ·refine aD.o _ _ _ ⟨L.heap.size,rfl,?_,BK L _⟩ (by simp[Act.put]) ((A3.I _ _).aj _) ⟨E.o.ak ((A3.I Aa _).aj _) (λh=>h),I.o.aj _⟩;exact E.o.lt
 ·intro y L hS O;obtain⟨H,d⟩:=hS;have h10:y 10=.agg #[A0 b.toNat,A0 (BH l),A0 (BH (l.drop 8))]:=O 10 (by omega);obtain⟨p,h11,aF,hp⟩:∃p,y 11=(A5 p)/\w.heap.size<p/\C5 L p 0 0 0:=O 11 (by omega);have c0:=hp.c0;have c1:=hp.c1;have c2:=hp.c2;have f0:=hp.fz 0;have f1:=hp.fz 1;have f2:=hp.fz 2;have h3:=hp.br b.toNat (BH l) (BH (l.drop 8));have cr:A3 (One p) L (((L.setCell (Ab p 0) (A0 b.toNat)).setCell (Ab p 1) (A0 (BH l))).setCell (Ab p 2) (A0 (BH (l.drop 8)))):=(((A3.I (One p) L).aq rfl _ _).aq rfl _ _).aq rfl _ _;have aB:=A1 h3;have aA:=A1 (H.ak cr (λh=>by have h':w.heap.size=p:=h;omega));have aK:Hid (A3 Aa w (((L.setCell (Ab p 0) (A0 b.toNat)).setCell (Ab p 1) (A0 (BH l))).setCell (Ab p 2) (A0 (BH (l.drop 8))))):=d.Av cr (λk hk hlt2=>by have h':k=p:=hk;omega);have aO:Hid (w.heap.size<p):=aF;go_wp2;generalize (((L.setCell (Ab p 0) (A0 b.toNat)).setCell (Ab p 1) (A0 (BH l))).setCell (Ab p 2) (A0 (BH (l.drop 8))))=w3 at aB aA aK ⊢;obtain⟨W,aI⟩:∃W,BH l=W:=⟨_,rfl⟩;obtain⟨Y,aG⟩:∃Y,BH (l.drop 8)=Y:=⟨_,rfl⟩;rw[aI,aG]at aB ⊢;have aJ:Hid (((b.toNat:Int)<8)=(b.toNat<8)):=by unfold Hid;simp;omega
  obtain⟨n,hn⟩:∃n:Nat,b.toNat=n:=⟨_,rfl⟩;have aE:Hid (b.toNat=n/\BH l=W/\BH (l.drop 8)=Y):=⟨hn,aI,aG⟩;rw[hn]at aB aJ ⊢;have q0:=aB.o.c0;have q1:=aB.o.c1;have q2:=aB.o.c2;have r0:=aA.o.c0;have r1:=aA.o.c1;have r2:=aA.o.c2;have z0:=aA.o.fz 0;have z1:=aA.o.fz 1;have z2:=aA.o.fz 2;go_wp2;refine H0 5 (λz=>{tmps:=#[.string ⟨(b::l).toArray⟩,undef,A5 w.heap.size,.bool false,A5 p,y 0,y 1,y 2,y 3,y 4,y 5,y 6,y 7,y 8,y 9,.agg #[A0 n,A0 W,A0 Y],z 0,z 1,z 2,z 3],defers:=[]}) (λ_=>undef)
   (λw'=>C5 w' p n W Y/\(∃a b c,C5 w' w.heap.size a b c)/\A3 Aa w w') (λw1 w2=>C5 w1 w.heap.size n W Y->C5 w2 w.heap.size n W Y)
   (λj x w'=>match j with
    | 0=>x=.agg #[A0 n,A0 W,A0 Y]
    | 1=>x=(A5 p)
    | 2=>x=A0 n
    | 3=>x=.bool (decide ((n:Int)<8))
    | 4=>C5 w' w.heap.size n W Y
    | _=>True)
   (by kernel_rfl) (by kernel_rfl) rfl ?_ ?_ ?_ ?_
  ·exact⟨aB.o.af,⟨_,_,_,aA.o.af⟩,aK.o.af⟩
  ·intro j x w1 w2 hR aN O;split at O
   case h_5=>exact hR O
   all_goals exact O
  ·clear aB aA aK;simp only[EX,EL,Fy,Hv]
   repeat' (with_reducible apply And.intro)
   all_goals refine⟨?_,(by intro y L _ _ h;exact Bool.noConfusion h),λy x=>rfl⟩
   all_goals
    intro z wz hS hd hw K hK;obtain⟨H,⟨a1,a2,a3,d⟩,aL⟩:=hS;simp[G8,Region.binds,F6,List.filter_cons]at hd;have q0:=H.c0;have q1:=H.c1;have q2:=H.c2;have r0:=d.c0;have r1:=d.c1;have r2:=d.c2;have z0:=d.fz 0;have z1:=d.fz 1;have z2:=d.fz 2;have E:=A1 H;have I:=A1 d;have aH:=A1 aL;have aD:=A1 hK
   all_goals dsimp only
   all_goals try go_simp
   all_goals try with_reducible exact aD.o _ _ _ rfl (by simp[Act.put,hd]) (λh=>h) ⟨E.o,⟨_,_,_,I.o⟩,aH.o⟩
   have st:=I.o.br n W Y;have cr:A3 (One w.heap.size) wz (((wz.setCell (Ab w.heap.size 0) (A0 n)).setCell (Ab w.heap.size 1) (A0 W)).setCell (Ab w.heap.size 2) (A0 Y)):=(((A3.I (One w.heap.size) wz).aq rfl _ _).aq rfl _ _).aq rfl _ _;refine aD.o undef _ _ st (by simp[Act.put,hd]) (λ_=>st) ⟨E.o.ak cr (λh=>by have h':p=w.heap.size:=h;have:=aO.o;omega),⟨_,_,_,st⟩,aH.o.Av cr (λk hk aF=>by have h':k=w.heap.size:=hk;omega)⟩
  ·intro z wz hS O;have h3:z 3=.bool (decide ((n:Int)<8)):=O 3 (by omega);have h4:C5 wz w.heap.size n W Y:=O 4 (by omega);have r0:=h4.c0;have r1:=h4.c1;have r2:=h4.c2;have aP:=A1 hS.2.2;have aM:decide ((n:Int)<8)=decide (n<8):=by
    by_cases h:n<8
    ·rw[Cv h,Cv (by omega)]
    ·rw[D4 h,D4 (by omega)]
   rw[aM]at h3;go_wp2;refine Mh (v:=.tuple #[.agg #[A0 n,A0 W,A0 Y],.bool (decide (n<8))]) (by simp[results,Tryz.results129,go_sem,r0,r1,r2]) rfl ?_;exact⟨by rw[aE.o.1,aE.o.2.1,aE.o.2.2],aP.o⟩
def Us(w:World)(s:Nat)(l:List UInt8)(h:s<4294967296)(d:l.length<=9223372036854775807):
 Ah 118 #[.int .u32 s,.string ⟨l.toArray⟩] w (Am (.int .u32 (AU s l)) λw'=>w=w'):=
 A2E w s ⟨l.toArray⟩ h d
def Bc(w:World)(d:Nat)(T:TypeId)(p:Value)(name:ByteArray)(s:Nat):Prop:=w.heap[d]?=some (.cells #[p,.string name,.int .u32 s] T (0,0))
def Bc.c0{w:World}{d:Nat}{T:TypeId}{p:Value}{name:ByteArray}{s:Nat}(h:Bc w d T p name s):A6 w d 0 p:=by unfold Bc at h;simp[A6,World.cell?,h]
def Bc.c1{w:World}{d:Nat}{T:TypeId}{p:Value}{name:ByteArray}{s:Nat}(h:Bc w d T p name s):A6 w d 1 (.string name):=by unfold Bc at h;simp[A6,World.cell?,h]
def Bc.c2{w:World}{d:Nat}{T:TypeId}{p:Value}{name:ByteArray}{s:Nat}(h:Bc w d T p name s):A6 w d 2 (.int .u32 s):=by unfold Bc at h;simp[A6,World.cell?,h]
def Bc.fz{w:World}{d:Nat}{T:TypeId}{p:Value}{name:ByteArray}{s:Nat}(h:Bc w d T p name s)(o:Nat):w.frozen? (Ab d o)=false:=by unfold Bc at h;simp[World.frozen?,h]
def Bc.lt{w:World}{d:Nat}{T:TypeId}{p:Value}{name:ByteArray}{s:Nat}(h:Bc w d T p name s):d<w.heap.size:=Bw h
def Bc.s2{w:World}{d:Nat}{T:TypeId}{p:Value}{name:ByteArray}{s:Nat}(h:Bc w d T p name s)(s':Nat):Bc (w.setCell (Ab d 2) (.int .u32 s')) d T p name s':=CH h
def Bc.ak{S:Nat->Prop}{w w':World}{d:Nat}{T:TypeId}{p:Value}{name:ByteArray}{s:Nat}(h:Bc w d T p name s)(z:A3 S w w')(E:¬S d):Bc w' d T p name s:=z.ak h E
def QB(w:World)(z:Nat)(T:TypeId)(p:Value)(name:ByteArray)(s:Nat)(l:List UInt8)(h:Bc w z T p name s)(L:s<4294967296)(hl:l.length<=9223372036854775803):
 Ah 169 #[A5 z,.string ⟨l.toArray⟩] w (Am (.string ⟨(l++Ca (AU s l)).toArray⟩) λw'=>Bc w' z T p name (AU s l)/\A3 (One z) w w'):=by
 have c2:=h.c2;have fz:=h.fz 2;have I:=h.s2 (AU s l);have E:=J8 s l L;obtain⟨s1,d⟩:∃s1,AU s l=s1:=⟨_,rfl⟩;have Y:=A1 d;rw[d]at I E ⊢;have c3:=I.c2;have W:A3 (One z) w (w.sC z 2 (.int .u32 s1)):=(A3.I _ w).aq (show One z z from rfl) 2 _;have ap:=JJ l (Ca s1);have hsb:=H3 s1;have aB:=A1 I;have aA:=A1 W;have H:l.length<=9223372036854775807:=by omega
 go_enter func169,ntmps169
 go_wp2_with (first|(go_at_call 118;refine(Us _ _ _ L H).mono ?_;rintro e w'⟨rfl,rfl⟩;rw[Y.o])|(go_at_call 205;refine(Wa _ _ E).mono ?_;rintro e w'⟨rfl,O⟩));go_ret;exact⟨rfl,aB.o.ak O (by simp),aA.o.Av O (by simp)⟩
def N5(w:World)(L:Nat)(T:TypeId)(p:Value)(name:ByteArray)(s:Nat)(l t:List UInt8)(h:Bc w L T p name s)(hs:s<4294967296)(ht:t.length=4)(hl:l.length<=9223372036854775803):
 Ah 120 #[A5 L,.string ⟨(l++t).toArray⟩] w (Am (.tuple #[.string ⟨l.toArray⟩,.bool (decide (Ca (AU s l)=t))]) λw'=>Bc w' L T p name (AU s l)/\A3 (One L) w w'):=by
 have d:(l++Ca (AU s l)==l++t)=decide (Ca (AU s l)=t):=by
  by_cases z:Ca (AU s l)=t
  ·rw[Cv z,z];exact Ua _
  ·rw[D4 z];exact Hc.2 λh=>z (V5 h)
 generalize hbb:decide (Ca (AU s l)=t)=bb at d ⊢;have O:=A1 d;have hlt0:((ByteArray.mk (l++t).toArray).size:Int)=(l.length:Int)+4:=by show (((l++t).length:Nat):Int)=_;simp[ht]
 have hn4:¬((l.length:Int)+4<4):=by omega
 go_enter func120,ntmps120
 go_wp2;refine H0 11 (λy=>{tmps:=#[A5 L,.string ⟨(l++t).toArray⟩,undef,undef,.string ⟨#[]⟩,.bool false,y 10,undef,.string ⟨(l++t).toArray⟩,A0 ((l.length:Int)+4),.bool false,y 0,y 1,y 2,y 3,y 4,y 5,y 6,y 7,y 8,y 9,undef,undef,undef,undef,undef,undef,undef,undef],defers:=[]}) (λ_=>undef)
  (λw'=>Bc w' L T p name s/\A3 Aa w w') (A3 Aa)
  (λj x w'=>match j with
   | 0=>x=.string ⟨(l++t).toArray⟩
   | 1=>x=.string ⟨(l++t).toArray⟩
   | 2=>x=A0 ((l.length:Int)+4)
   | 3=>x=A0 l.length
   | 4=>x=.string ⟨l.toArray⟩
   | 5=>x=.string ⟨(l++t).toArray⟩
   | 6=>x=.string ⟨(l++t).toArray⟩
   | 7=>x=A0 ((l.length:Int)+4)
   | 8=>x=A0 l.length
   | 9=>x=.string ⟨t.toArray⟩
   | 10=>x=.string ⟨l.toArray⟩
   | _=>True)
  (by kernel_rfl) (by kernel_rfl) rfl ?_ ?_ ?_ ?_
 ·exact⟨h,(A3.I _ _).af⟩
 ·intro j x w1 w2 hR hS' W;split at W<;>exact W
 ·simp only[EX,EL,Fy,Hv]
  repeat' (with_reducible apply And.intro)
  all_goals refine⟨?_,(by intro y wx _ _ h;exact Bool.noConfusion h),λy x=>rfl⟩
  all_goals
   intro y wx hS hd hw K hK;obtain⟨H,I⟩:=hS;simp[G8,Region.binds,F6,List.filter_cons]at hd;have e1:(ByteArray.mk (l++t).toArray).extract 0 l.length=⟨l.toArray⟩:=by
    rw[extract_mk];simp
   have e9:(ByteArray.mk (l++t).toArray).extract l.length (l.length+4)=⟨t.toArray⟩:=by
    rw[extract_mk,V0,show l.length+4-l.length=t.length by omega,C9]
   (have g1:(l.length:Int)<=(l.length:Int)+4:=by omega);(have ew:IntKind.i64.wrap (l.length:Int)=l.length:=by simp[IntKind.wrap,IntKind.bits,IntKind.signed];omega);have Y:=A1 H;have E:=A1 I;have aD:=A1 hK
  all_goals dsimp only
  all_goals try go_simp
  all_goals try with_reducible exact aD.o _ _ _ rfl (by simp[Act.put,hd]) (A3.I _ _) ⟨Y.o,E.o⟩
 ·intro y wx hS W;obtain⟨H,I⟩:=hS;have h10:y 10=.string ⟨l.toArray⟩:=W 10 (by omega);have h9:y 9=.string ⟨t.toArray⟩:=W 9 (by omega);have hk:=H;have E:=A1 I;have ap:=JJ l t;have hq:=O.o;have aE:=A1 (QB wx L T p name s l hk hs hl);have hlt:(ByteArray.mk (l++t).toArray).size=l.length+4:=by show (l++t).length=_;simp[ht]
  go_wp2_with (go_at_call 169;refine aE.m ?_;rintro e w'⟨rfl,hb,hc⟩;have aA:=A1 hb;have aB:=A1 hc);go_ret2;exact⟨rfl,aA.o,E.o.ad (λ_ _ h=>h.elim) |>.tr aB.o⟩
def VD(w:World)(z:Nat)(l:List UInt8)(hl:l.length<4):
 Ah 120 #[A5 z,.string ⟨l.toArray⟩] w (Am (.tuple #[.string ⟨#[]⟩,.bool false]) λw'=>w=w'):=by
 have h:(ByteArray.mk l.toArray).size=l.length:=by show l.toArray.size=_;simp
 have d:((ByteArray.mk l.toArray).size:Int)<4:=by rw[h];omega
 generalize htx:ByteArray.mk l.toArray=tx at d ⊢
 go_enter func120,ntmps120
 go_wp2;go_ret2;exact⟨rfl,rfl⟩
structure DS where
 A4:List AL
 AM:List AL
 As:List (List AL)
 n:DN
abbrev FC:=List UInt8×Int
def Dc(f:Nat)(es:List AL):Prop:=∃e∈es,e.2=f
def DS.Aq(D:DS)(f:Nat):Prop:=Dc f D.A4\/Dc f D.AM\/∃c∈D.As,Dc f c
structure BY (w:World) (b:Nat) (D:DS) (F:Nat->FC) (vd vs vc:Value) (aA:List Value) (VB:Nat->Value):Prop where
 Ag:AK w b vd vs vc D.n
 A4:CY w vd D.A4
 AM:CY w vs D.AM
 An:w.ownsRow 0 98 1 vc D.As.length aA
 D5:∀i (h:i<D.As.length),∃v,aA[i]?=some v/\CY w v (D.As[i]'h)
 BI:∀f,D.Aq f->CW w f (VB f) (F f).2/\Fz w (VB f) (F f).1
 G7:∀f f' g,D.Aq f->D.Aq f'->(VB f).ownBlock=some g->(VB f').ownBlock=some g->f=f'
def C6(b:Nat)(D:DS)(vd vs vc:Value)(aA:List Value)(VB:Nat->Value)(k:Nat):Prop:=
 k=b\/vd.ownBlock=some k\/vs.ownBlock=some k\/vc.ownBlock=some k\/(∃v∈aA,v.ownBlock=some k)\/D.Aq k\/∃f,D.Aq f/\(VB f).ownBlock=some k
section
variable {b:Nat} {D:DS} {vd vs vc:Value} {aA:List Value} {VB:Nat->Value}
def C6.Ag:C6 b D vd vs vc aA VB b:=.inl rfl
def C6.A4{k:Nat}(h:vd.ownBlock=some k):C6 b D vd vs vc aA VB k:=.inr (.inl h)
def C6.AM{k:Nat}(h:vs.ownBlock=some k):C6 b D vd vs vc aA VB k:=.inr (.inr (.inl h))
def C6.An{k:Nat}(h:vc.ownBlock=some k):C6 b D vd vs vc aA VB k:=.inr (.inr (.inr (.inl h)))
def C6.D5{k:Nat}{v:Value}(d:v∈aA)(h:v.ownBlock=some k):C6 b D vd vs vc aA VB k:=.inr (.inr (.inr (.inr (.inl ⟨v,d,h⟩))))
def C6.BI{f:Nat}(h:D.Aq f):C6 b D vd vs vc aA VB f:=.inr (.inr (.inr (.inr (.inr (.inl h)))))
def C6.bA{f k:Nat}(d:D.Aq f)(h:(VB f).ownBlock=some k):C6 b D vd vs vc aA VB k:=.inr (.inr (.inr (.inr (.inr (.inr ⟨f,d,h⟩)))))
def C6.bK{d:(k:Nat)->C6 b D vd vs vc aA VB k->Prop}(Ag:d b .Ag)(dir:∀ {k} (e:vd.ownBlock=some k),d k (.A4 e))(Ad:∀ {k} (e:vs.ownBlock=some k),d k (.AM e))(An:∀ {k} (e:vc.ownBlock=some k),d k (.An e))(D5:∀ {k v} (E:v∈aA) (e:v.ownBlock=some k),d k (.D5 E e))(BI:∀ {f} (h:D.Aq f),d f (.BI h))(byt:∀ {f k} (z:D.Aq f) (e:(VB f).ownBlock=some k),d k (.bA z e)){k:Nat}(t:C6 b D vd vs vc aA VB k):d k t:=by
 rcases t with rfl|e|e|e|⟨v,E,e⟩|h|⟨f,z,e⟩
 ·exact Ag
 ·exact dir e
 ·exact Ad e
 ·exact An e
 ·exact D5 E e
 ·exact BI h
 ·exact byt z e
end
def D6(w:World)(b:Nat)(D:DS)(F:Nat->FC)(Ft:Nat->Prop):Prop:=
 ∃vd vs vc aA VB,BY w b D F vd vs vc aA VB/\∀k,C6 b D vd vs vc aA VB k->Ft k
section
variable {w w':World} {b:Nat} {D:DS} {F:Nat->FC} {vd vs vc:Value} {aA:List Value} {VB:Nat->Value}
def BY.dq(h:BY w b D F vd vs vc aA VB):aA.length=D.As.length:=by have:=h.An.1;omega
def BY.lt(h:BY w b D F vd vs vc aA VB){k:Nat}(E:C6 b D vd vs vc aA VB k):k<w.heap.size:=by
 cases E using C6.bK with
 | Ag=>exact Bw h.Ag
 | dir e=>exact Az h.A4 e
 | Ad e=>exact Az h.AM e
 | An e=>exact Az h.An e
 | D5 hv e=>
  obtain⟨i,z⟩:=List.getElem?_of_mem hv;have H:i<D.As.length:=by rw[<-h.dq];exact(Hk.1 z).1
  obtain⟨v',d,I⟩:=h.D5 i H;rw[z]at d;cases d;exact Az I e
 | BI hf=>exact Bw (h.BI _ hf).1
 | byt hf e=>exact Az (h.BI _ hf).2 e
def BY.aP(h:BY w b D F vd vs vc aA VB)(z:FO (C6 b D vd vs vc aA VB) w w'):BY w' b D F vd vs vc aA VB:=by
 refine⟨?_,?_,?_,?_,?_,?_,h.G7⟩
 ·have:=h.Ag;unfold AK at this ⊢;rw[z b .Ag];exact this
 ·exact Ay h.A4 λg d=>z g (.A4 d)
 ·exact Ay h.AM λg d=>z g (.AM d)
 ·exact Ay h.An λg d=>z g (.An d)
 ·intro i L;obtain⟨v,E,I⟩:=h.D5 i L;exact⟨v,E,Ay I λg d=>z g (.D5 (Lc E) d)⟩
 ·intro f H;obtain⟨E,I⟩:=h.BI f H;refine⟨?_,Ay I λg d=>z g (.bA H d)⟩;unfold CW at E ⊢;rw[z f (.BI H)];exact E
def D6.aP{Ft:Nat->Prop}(h:D6 w b D F Ft)(E:FO Ft w w'):D6 w' b D F Ft:=by
 obtain⟨vd,vs,vc,aA,VB,z,d⟩:=h;exact⟨vd,vs,vc,aA,VB,z.aP (E.ad d),d⟩
def BR{w:World}{g k:Nat}{c I:Array Value}{e E:Nat}(h:w.heap[g]?=some (.cells c e (0,0)))(z:w.heap[k]?=some (.cells I E (0,0)))(d:e≠E):g≠k:=by
 intro H;subst H;rw[h]at z;cases z;exact d rfl
def BY.ag(h:BY w b D F vd vs vc aA VB){n:DN}(L:AK w' b vd vs vc n)(hc:A3 (One b) w w'):BY w' b {D with n:=n} F vd vs vc aA VB:=by
 have z:∀(k:Nat) (c:Array Value) (e:Nat),w.heap[k]?=some (Obj.cells c e (0,0))->e≠60->w'.heap[k]?=w.heap[k]?:=λk c e z Y=>
  hc.Al k (Bw z) (BR z h.Ag Y)
 refine⟨L,?_,?_,?_,?_,?_,h.G7⟩
 ·exact Ay h.A4 λg d=>by obtain⟨c,E⟩:=Bd h.A4 d;exact z g _ _ E (by decide)
 ·exact Ay h.AM λg d=>by obtain⟨c,E⟩:=Bd h.AM d;exact z g _ _ E (by decide)
 ·exact Ay h.An λg d=>by obtain⟨c,E⟩:=Bd h.An d;exact z g _ _ E (by decide)
 ·intro i W;obtain⟨v,I,H⟩:=h.D5 i W;exact⟨v,I,Ay H λg d=>by obtain⟨c,E⟩:=Bd H d;exact z g _ _ E (by decide)⟩
 ·intro f O;obtain⟨I,H⟩:=h.BI f O;refine⟨?_,Ay H λg d=>by obtain⟨c,E⟩:=Bd H d;exact z g _ _ E (by decide)⟩;unfold CW at I ⊢;rw[z f _ _ I (by decide)];exact I
end
def lookup:List AL->ByteArray->Option Nat
 | [],_=>none
 | e::r,name=>if e.1=name then some e.2 else lookup r name
def IH(es:List AL)(name:ByteArray):(B2 es name = -1/\lookup es name=none)\/∃k,∃d:k<es.length,B2 es name=(k:Int)/\lookup es name=some (es[k]'d).2/\(es[k]'d).1=name:=by
 induction es with
 | nil=>exact .inl ⟨rfl,rfl⟩
 | cons e r ih=>
  by_cases h:e.1=name
  ·exact .inr ⟨0,by simp,by simp[B2,h],by simp[lookup,h],by simpa using h⟩
  ·rcases ih with⟨E,z⟩|⟨k,d,E,z,H⟩
   ·exact .inl ⟨by simp[B2,h,E],by simp[lookup,h,z]⟩
   ·exact .inr ⟨k+1,by simpa using d,by simp only[B2,h,C4,E];rw[Ac (by omega)];omega,by simp[lookup,h,z],by simpa using H⟩
def BY.cf{w:World}{b:Nat}{D:DS}{F:Nat->FC}{vd vs vc:Value}{aA:List Value}{VB:Nat->Value}(h:BY w b D F vd vs vc aA VB)(k:Nat)(d:k<D.A4.length):
 CW w (D.A4[k]'d).2 (VB (D.A4[k]'d).2) (F (D.A4[k]'d).2).2/\Fz w (VB (D.A4[k]'d).2) (F (D.A4[k]'d).2).1:=h.BI _ (.inl ⟨_,BV d,rfl⟩)
def Fz.Cf{w:World}{v:Value}{bs:List UInt8}(h:Fz w v bs):∃a cap,v=.slice a bs.length cap/\bs.length<=cap/\cap<=maxLen:=by
 obtain⟨a,cap,z,d,E,_⟩:=B9 h;exact⟨a,cap,z,d,E⟩
def Dm(w:World)(Ft:Nat->Prop)(w':World)(b:Nat)(D':DS)(F':Nat->FC):Prop:=
 A3 Ft w w'/\∃d,D6 w' b D' F' d/\(∀k,d k->k<w'.heap.size)/\∀k,d k->Ft k\/w.heap.size<=k
def Dm.bx{w w':World}{Ft:Nat->Prop}{b:Nat}{D':DS}{F':Nat->FC}{vd vs vc:Value}{aA:List Value}{VB:Nat->Value}(E:A3 Ft w w')(h:BY w' b D' F' vd vs vc aA VB)(z:∀k,C6 b D' vd vs vc aA VB k->Ft k\/w.heap.size<=k):Dm w Ft w' b D' F':=
 ⟨E,_,⟨vd,vs,vc,aA,VB,h,λ_ d=>d⟩,λ_ d=>h.lt d,z⟩
def BY.cq{w w':World}{b:Nat}{D:DS}{F F':Nat->FC}{vd vs vc vl aD:Value}{aA:List Value}{VB VB':Nat->Value}{n:DN}{es:List AL}{S:Nat->Prop}(h:BY w b D F vd vs vc aA VB)(hb:AK w' b vl vs aD n)(aG:w'.ownsRow 0 98 1 aD (D.As.length+1) (aA++[vl]))(aE:CY w' vl es)(hc:A3 S w w')(hS:∀k,S k->k=b\/vc.ownBlock=some k)(hF:∀f,D.Aq f->F' f=F f/\VB' f=VB f)(O:∀f,Dc f es->D.Aq f\/(CW w' f (VB' f) (F' f).2/\Fz w' (VB' f) (F' f).1/\(VB' f).ownBlock=none)):
 BY w' b {D with A4:=es,As:=D.As++[es],n:=n} F' vl vs aD (aA++[vl]) VB':=by
 have I:∀(k:Nat) (c:Array Value) (e:Nat),w.heap[k]?=some (Obj.cells c e (0,0))->e≠60->e≠98->w'.heap[k]?=w.heap[k]?:=λk c e I he aH=>
  hc.Al k (Bw I) (λhs=>by
   rcases hS k hs with hs|hs
   ·exact BR I h.Ag he hs
   ·obtain⟨c',hh⟩:=Bd h.An hs
    exact BR I hh aH rfl)
 have H:∀f,({D with A4:=es,As:=D.As++[es],n:=n}:DS).Aq f->D.Aq f\/Dc f es:=by
  rintro f (d|d|⟨c,z,d⟩)
  ·exact .inr d
  ·exact .inl (.inr (.inl d))
  ·rcases AV.1 z with z|z
   ·exact .inl (.inr (.inr ⟨c,z,d⟩))
   ·simp at z;subst z;exact .inr d
 have L:∀f,D.Aq f->CW w' f (VB' f) (F' f).2/\Fz w' (VB' f) (F' f).1:=by
  intro f d;obtain⟨h1,Y⟩:=h.BI f d;rw[(hF f d).1,(hF f d).2];refine⟨?_,Ay Y λg E=>by obtain⟨c,hh⟩:=Bd Y E;exact I g _ _ hh (by decide) (by decide)⟩;unfold CW at h1 ⊢;rw[I f _ _ h1 (by decide) (by decide)];exact h1
 refine⟨hb,aE,?_,?_,?_,?_,?_⟩
 ·exact Ay h.AM λg E=>by obtain⟨c,hh⟩:=Bd h.AM E;exact I g _ _ hh (by decide) (by decide)
 ·simpa using aG
 ·intro i hi;by_cases W:i<D.As.length
  ·obtain⟨v,h1,Y⟩:=h.D5 i W;refine⟨v,by rw[Im (by rw[h.dq];exact W)];exact h1,?_⟩;simp only[EZ W];(exact Ay Y λg E=>by obtain⟨c,hh⟩:=Bd Y E;exact I g _ _ hh (by decide) (by decide))
  ·(obtain rfl:i=D.As.length:=by simp at hi;omega);refine⟨vl,by rw[<-h.dq];simp,?_⟩;simpa using aE
 ·intro f d;rcases H f d with d|d
  ·exact L f d
  ·rcases O f d with d|⟨h1,Y,_⟩
   ·exact L f d
   ·exact⟨h1,Y⟩
 ·intro f f' g d aF E aB;have key:∀f,({D with A4:=es,As:=D.As++[es],n:=n}:DS).Aq f->(VB' f).ownBlock=some g->D.Aq f:=by
   intro f d E;rcases H f d with d|d
   ·exact d
   ·rcases O f d with d|⟨_,_,h3⟩
    ·exact d
    ·rw[h3]at E;cases E
  have k1:=key f d E;have k2:=key f' aF aB;rw[(hF f k1).2]at E;rw[(hF f' k2).2]at aB;exact h.G7 f f' g k1 k2 E aB
end
section
open Go.RowKit
attribute [local go_sem ↓] Go.wp_at_zero Go.wp_at_succ
def Dt(w:World)(v:Value)(es:List AL)(name:ByteArray)(h:CY w v es):
 Ah 24 #[v,.string name] w (Am (A0 (B2 es name)) λw'=>w=w'):=by
 obtain⟨a,cap,rfl,hc1,aA,z⟩:=h.Cf;unfold maxLen at aA
 go_enter func24,ntmps24
 go_wp2;go_loop [5,8] (λj i=>∃k:Nat,k<=es.length/\i=A0 k/\Hid (∀m (O:m<k) (W:m<es.length),(es[m]'W).1≠name)) (λ_ i=>es.length-(intOf i).toNat)
 case atStart=>exact⟨0,Cz _,rfl,λm O=>absurd O (by omega)⟩
 case round=>
  obtain⟨k,hk,rfl,I⟩:=hrel;by_cases L:k<es.length
  ·obtain⟨g,rfl,hn,hp⟩:=z k L;by_cases H:(es[k]'L).1=name
   ·have ht:=(OY _ _).2 H;have hf:=Hid.o I;have d:=A0E es name k L H (λm O=>hf m O (by omega));have E:=A1 <| d;clear d;go_wp2;go_ret;exact⟨by rw[E.o];rfl,rfl⟩
   ·have ht:=(U4 _ _).2 H;have Y:=A1 <| H;go_wp2;go_round
    case rel=>exact⟨k+1,by omega,by go_num,λm O W=>by rcases EW m k with h|h;exact I m h W;(obtain rfl:m=k:=(by omega));exact Y.o⟩
    case measure=>simp[intOf];omega
  ·have d:=A0C es name (λm O=>Hid.o I m (by omega) O);have E:=A1 <| d;clear d z;go_wp2;go_ret;exact⟨by rw[E.o];rfl,rfl⟩
def bg(n:DN):Bool×Int×DN:=
 let c:=wrap64 (n.AP+1)
 if n.AS then (false,5,{n with AP:=c,B5:=wrap64 (n.B5+1)})
 else if c=n.BT then (true,5,{n with AP:=c,B5:=wrap64 (n.B5+1),AS:=true})
 else if c=n.BJ then (false,5,{n with AP:=c,B5:=wrap64 (n.B5+1)})
 else (true,0,{n with AP:=c})
def GH(w:World)(b:Nat)(vd O vc:Value)(n:DN)(h:AK w b vd O vc n):
 Ah 25 #[A5 b] w (Am (.tuple #[.bool (bg n).1,A0 (bg n).2.1]) λw'=>AK w' b vd O vc (bg n).2.2/\A3 (One b) w w'):=by
 have h4:=h.c4;have h5:=h.c5;have h6:=h.c6;have h8:=h.c8;have h10:=h.bZ;have hf:=h.fz;have e1:=(h.s4 (wrap64 (n.AP+1)));have Y:=e1.s8 (wrap64 (n.B5+1));have e3:=Y.eg true;have aA:=(A3.I (One b) w).aq rfl 4 (A0 (wrap64 (n.AP+1)));have I:=aA.aq rfl 8 (A0 (wrap64 (n.B5+1)));have aF:=I.aq rfl 10 (.bool true);have aG:=A1 e1;have W:=A1 Y;have aD:=A1 e3;have aB:=A1 aA;have L:=A1 I;have aE:=A1 aF;by_cases H:n.AS=true
 ·have q:Hid (bg n=(false,5,{n with AP:=wrap64 (n.AP+1),B5:=wrap64 (n.B5+1)})):=by unfold Hid;simp[bg,H]
  go_enter func25,ntmps25
  go_wp2;go_ret2;rw[q.o];exact⟨rfl,W.o,L.o⟩
 ·have d:n.AS=false:=by simpa using H
  by_cases hc:(wrap64 (n.AP+1)==n.BT)=true
  ·(have q:Hid (bg n=(true,5,{n with AP:=wrap64 (n.AP+1),B5:=wrap64 (n.B5+1),AS:=true})):=by unfold Hid;simp[bg,d,eq_of_beq hc])
   go_enter func25,ntmps25
   go_wp2;go_region_held3 (λw'=>w'.cell? ⟨b,4,none⟩=some (A0 (wrap64 (n.AP+1)))/\w'.cell? ⟨b,5,none⟩=some (A0 n.BT)) (refine⟨?_,?_⟩<;>go_simp) (fail);go_wp2;go_ret2;rw[q.o];exact⟨rfl,aD.o,aE.o.af⟩
  ·(have z:(wrap64 (n.AP+1)==n.BT)=false:=by simpa using hc);by_cases hl:(wrap64 (n.AP+1)==n.BJ)=true
   ·have q:Hid (bg n=(false,5,{n with AP:=wrap64 (n.AP+1),B5:=wrap64 (n.B5+1)})):=by
     have:=Se z;unfold Hid bg;dsimp only;rw[Ac (by rw[d];decide),Ac this,Af (eq_of_beq hl)]
    go_enter func25,ntmps25
    go_wp2;go_region_held3 (λw'=>w'.cell? ⟨b,4,none⟩=some (A0 (wrap64 (n.AP+1)))/\w'.cell? ⟨b,5,none⟩=some (A0 n.BT)) (refine⟨?_,?_⟩<;>go_simp) (fail);go_wp2;go_region_held3 (λw'=>w'.cell? ⟨b,4,none⟩=some (A0 (wrap64 (n.AP+1)))/\w'.cell? ⟨b,6,none⟩=some (A0 n.BJ)) (refine⟨?_,?_⟩<;>go_simp) (fail);go_wp2;go_ret2;rw[q.o];exact⟨rfl,W.o,L.o.af.af⟩
   ·(have E:(wrap64 (n.AP+1)==n.BJ)=false:=by simpa using hl);have q:Hid (bg n=(true,0,{n with AP:=wrap64 (n.AP+1)})):=by
     have:=Se z;have h2:=Se E;unfold Hid bg;dsimp only;rw[Ac (by rw[d];decide),Ac this,Ac h2]
    go_enter func25,ntmps25
    go_wp2;go_region_held3 (λw'=>w'.cell? ⟨b,4,none⟩=some (A0 (wrap64 (n.AP+1)))/\w'.cell? ⟨b,5,none⟩=some (A0 n.BT)) (refine⟨?_,?_⟩<;>go_simp) (fail);go_wp2;go_region_held3 (λw'=>w'.cell? ⟨b,4,none⟩=some (A0 (wrap64 (n.AP+1)))/\w'.cell? ⟨b,6,none⟩=some (A0 n.BJ)) (refine⟨?_,?_⟩<;>go_simp) (fail);go_wp2;go_ret2;rw[q.o];exact⟨rfl,aG.o,aB.o.af.af⟩
def Tryz.cO:(Tryz.prog.info? 70).map (λi=>(i.zero,i.size,i.bytes))=some (some (.agg #[.string ByteArray.empty,.pointer none]),2,24):=by kernel_rfl
def Tryz.dU:(Tryz.prog.info? 98).map (λi=>(i.zero,i.size,i.bytes))=some (some (.agg #[.slice none 0 0]),1,24):=by kernel_rfl
def Tryz.infoByte:(Tryz.prog.info? 5).map (λi=>(i.zero,i.size,i.bytes))=some (some (.int .u8 0),1,1):=by kernel_rfl
def Tryz.eN:(Tryz.prog.info? 9).map (λi=>(i.zero,i.size,i.bytes))=some (some (.string ByteArray.empty),1,16):=by kernel_rfl
def JG(room:Int):DN:=⟨room,0,0,0,0,0,0,false⟩
def Yx(room:Int)(w:World):
 Ah 6 #[A0 room] w (Am (A5 w.heap.size) λw'=>AK w' w.heap.size (.slice none 0 0) (.slice none 0 0) (.slice none 0 0) (JG room)/\w'.heap.size=w.heap.size+1/\A3 Aa w w'):=by
 go_enter func6,ntmps6
 go_wp2;go_ret;exact⟨rfl,BK w _,by simp,(A3.I _ w).aj _⟩
def A04(w:World)(b:Nat)(E z d:Value)(n:DN)(c:Int)(h:AK w b E z d n):
 Ah 45 #[A5 b,A0 c] w (Am (.tuple #[]) λw'=>AK w' b E z d {n with BT:=if c>0 then wrap64 (n.AP+c) else 0}/\A3 (One b) w w'):=by
 have h4:=h.c4;have h5:=h.c5;have hf:=h.fz;have L:=A1 (h.s5 0);have O:=A1 ((h.s5 0).s5 (wrap64 (n.AP+c)));have H:=A1 ((A3.I (One b) w).aq rfl 5 (A0 0));have I:=A1 (((A3.I (One b) w).aq rfl 5 (A0 0)).aq rfl 5 (A0 (wrap64 (n.AP+c))))
 go_enter func45,ntmps45
 go_wp2
 ·go_end0;exact⟨rfl,O.o,I.o⟩
 ·go_end0;exact⟨rfl,L.o,H.o⟩
def Dj(n:DN)(c p:Int):DN:={n with BJ:=if c>0 then wrap64 (n.AP+c) else 0,Bq:=if p<0 then wrap64 (-(wrap64 (p+1))) else p}
def A0F(w:World)(b:Nat)(I H E:Value)(n:DN)(c p:Int)(h:AK w b I H E n):
 Ah 17 #[A5 b,A0 c,A0 p] w (Am (.tuple #[]) λw'=>AK w' b I H E (Dj n c p)/\A3 (One b) w w'):=by
 have h4:=h.c4;have h6:=h.c6;have h7:=h.c7;have hf:=h.fz;have Q:=A1 <| h
 go_enter func17,ntmps17
 go_wp2
 ·have z:0<c:=by assumption
  have d:p<0:=by assumption
  go_end0;have q:Dj n c p = {n with BJ:=wrap64 (n.AP+c),Bq:=wrap64 (-(wrap64 (p+1)))}:=by simp[Dj,z,d]
  rw[q];exact⟨rfl,(((Q.o.s6 0).s6 _).s7 _).s7 _,((((A3.I (One b) w).aq rfl 6 _).aq rfl 6 _).aq rfl 7 _).aq rfl 7 _⟩
 ·have z:0<c:=by assumption
  have d:0<=p:=by assumption
  go_end0;have q:Dj n c p = {n with BJ:=wrap64 (n.AP+c),Bq:=p}:=by simp[Dj,z];omega
  rw[q];exact⟨rfl,((Q.o.s6 0).s6 _).s7 _,(((A3.I (One b) w).aq rfl 6 _).aq rfl 6 _).aq rfl 7 _⟩
 ·have z:c<=0:=by assumption
  have d:p<0:=by assumption
  go_end0;have q:Dj n c p = {n with BJ:=0,Bq:=wrap64 (-(wrap64 (p+1)))}:=by simp[Dj,d];omega
  rw[q];exact⟨rfl,((Q.o.s6 0).s7 _).s7 _,(((A3.I (One b) w).aq rfl 6 _).aq rfl 7 _).aq rfl 7 _⟩
 ·have z:c<=0:=by assumption
  have d:0<=p:=by assumption
  go_end0;have q:Dj n c p = {n with BJ:=0,Bq:=p}:=by simp[Dj];omega
  rw[q];exact⟨rfl,(Q.o.s6 0).s7 _,((A3.I (One b) w).aq rfl 6 _).aq rfl 7 _⟩
def A0W(w:World)(b:Nat)(E z d:Value)(n:DN)(h:AK w b E z d n):
 Ah 73 #[A5 b] w (Am (.bool n.AS) λw'=>w=w'):=by
 have h4:=h.bZ
 go_enter func73,ntmps73
 go_wp2;go_ret;exact⟨rfl,rfl⟩
def Xo(w:World)(b:Nat)(E z d:Value)(n:DN)(h:AK w b E z d n):
 Ah 21 #[A5 b] w (Am (A0 n.B5) λw'=>w=w'):=by
 have h4:=h.c8
 go_enter func21,ntmps21
 go_wp2;go_ret;exact⟨rfl,rfl⟩
def Cx(D:DS)(F:Nat->FC)(name:ByteArray):Int×Int:=match lookup D.A4 name with
 | some f=>(((F f).1.length:Nat),0)
 | none=>(0,8)
def Wt(w:World)(b:Nat)(D:DS)(F:Nat->FC)(vd vs vc:Value)(E:List Value)(aA:Nat->Value)(h:BY w b D F vd vs vc E aA)(name:ByteArray):
 Ah 167 #[A5 b,.string name] w (Am (.tuple #[A0 (Cx D F name).1,A0 (Cx D F name).2]) λw'=>w=w'):=by
 have hc:=h.Ag.c0;obtain⟨a,cap,rfl,hc1,O,d⟩:=h.A4.Cf;have W:=h.A4;unfold maxLen at O;rcases IH D.A4 name with⟨Y,I⟩|⟨k,L,Y,I,h3⟩
 ·have q:Hid (Cx D F name=(0,8)):=by unfold Hid Cx;rw[I]
  have hfi:B2 D.A4 name<0:=by omega
  go_enter func167,ntmps167
  go_wp2_with (go_at_call 24;refine(Dt _ _ _ _ W).mono ?_;rintro e w'⟨rfl,rfl⟩);go_ret2;rw[q.o];exact⟨rfl,rfl⟩
 ·have q:Hid (Cx D F name=((((F (D.A4[k]'L).2).1.length:Nat):Int),0)):=by unfold Hid Cx;rw[I]
  obtain⟨z,H⟩:=h.cf k L;obtain⟨a',cap',hv,_,_⟩:=H.Cf;rw[hv]at z;have hb0:=z.c0;obtain⟨g,rfl,hn,hp⟩:=d k L;have aB:=A1 <| Y
  go_enter func167,ntmps167
  go_wp2_with (go_at_call 24;refine(Dt _ _ _ _ W).mono ?_;rintro e w'⟨rfl,rfl⟩;rw[aB.o]);go_ret2;rw[q.o];exact⟨rfl,rfl⟩
def Lt(w:World)(b:Nat)(vd vs H:Value)(n:DN)(m:Nat)(d:List Value)(a:Option Addr)(len cap:Nat)(h:AK w b vd vs H n)(hc:w.ownsRow 0 98 1 H m d)(hm:m<1099511627776):
 Ah 26 #[A5 b,.slice a len cap] w (Am (.tuple #[]) λw'=>
  ∃E,AK w' b (.slice a len cap) vs E n/\w'.ownsRow 0 98 1 E (m+1) (d++[.slice a len cap])/\A3 (λk=>k=b\/H.ownBlock=some k) w w'/\(∀g,E.ownBlock=some g->H.ownBlock=some g\/w.heap.size<=g)):=by
 obtain⟨i0,hi,W,aA,aD⟩:=E4 Tryz.dU;have h2:=h.c2;have h0:=h.c0;have hf:=h.fz;have I:H.ownBlock≠some b:=by
  intro e;obtain⟨c,hh⟩:=Bd hc e;exact BR hh h (by decide) rfl
 have hs:=A1 (h.s0 (.slice a len cap));have Y:=A1 ((NO hc (a:=(Ab b 0)) I (.slice a len cap)).alloc (.cells #[.slice a len cap] 98));have O:=A1 (Src.bc (size:=1) underlying58 (w.sC b 0 (.slice a len cap)) #[.slice a len cap] 98 w.heap.size (by simp) 1 1 rfl (by simp[Value.oneCell']));have aE:=A1 (((A3.I (λk=>k=b\/H.oB k) w).aq (.inl rfl) 0 (.slice a len cap)).aj (.cells #[.slice a len cap] 98));have aB:=A1 <| I
 go_enter func26,ntmps26
 go_wp2_with (at_builtin;go_loud (refine D9 rfl (.tmp 12) (.tmp 15) 58 58 rfl 98 i0 _ 1 24 underlying58 hi W aA aD rfl (by decide) H m d (by rfl) Y.o _ 1 _ (by rfl) O.o (by omega) ?_);intro a2 cap2 w1 L;have z:=(hs.o.aj _).Ct L.Ct aB.o;have h21:=z.c2;have hf1:=z.fz);go_end0;refine⟨rfl,_,z.s2 _,?_,?_,?_⟩
 ·refine NO L.AF (a:=(Ab b 2)) ?_ _;intro e;obtain⟨c,hh⟩:=Bd L.AF e;exact BR hh z (by decide) rfl
 ·exact(aE.o.Ct L.Ct (λk hk _=>.inr hk)).aq (.inl rfl) 2 _
 ·intro g hg;rcases L.Cy with h|h
  ·exact .inl (h.symm.trans hg)
  ·right;rw[hg]at h;cases h;simp
def upd(F:Nat->FC)(f0:Nat)(c:FC):Nat->FC:=λf=>if f=f0 then c else F f
def CK(D:DS)(name:ByteArray)(f0:Nat):Int×DS:=
 if name=ByteArray.empty\/B2 D.A4 name≥0 then (8,D) else
  ((bg D.n).2.1,if (bg D.n).1 then {D with A4:=D.A4++[(name,f0)],As:=D.As++[D.A4++[(name,f0)]],n:=(bg D.n).2.2} else {D with n:=(bg D.n).2.2})
def isEmpty_iff(s:ByteArray):s.toList.isEmpty=true↔s=ByteArray.empty:=by
 rw[List.isEmpty_iff,JX];exact⟨λh=>A2L (by rw[h];rfl),λh=>by rw[h];rfl⟩
def BY.eu{w:World}{b:Nat}{D:DS}{F:Nat->FC}{L E z:Value}{d:List Value}{I:Nat->Value}(h:BY w b D F L E z d I){f0:Nat}(hf:w.heap.size<=f0)(c:FC):
 BY w b D (upd F f0 c) L E z d I:=
 ⟨h.Ag,h.A4,h.AM,h.An,h.D5,λf H=>by
  have:f≠f0:=by have:=h.lt (.BI H);omega
  simp only[upd,this,C4];exact h.BI f H,h.G7⟩
def C6.n{b:Nat}{D:DS}{n:DN}{I E z:Value}{d:List Value}{H:Nat->Value}{k:Nat}(h:C6 b {D with n:=n} I E z d H k):C6 b D I E z d H k:=by
 cases h using C6.bK with
 | Ag=>exact .Ag
 | dir e=>exact .A4 e
 | Ad e=>exact .AM e
 | An e=>exact .An e
 | D5 h e=>exact .D5 h e
 | BI h=>exact .BI h
 | byt h e=>exact .bA h e
def BY.bO{w w':World}{b:Nat}{D:DS}{F:Nat->FC}{I H L:Value}{d:List Value}{O:Nat->Value}{Ft:Nat->Prop}(h:BY w b D F I H L d O)(z:∀k,C6 b D I H L d O k->Ft k){n:DN}(Y:AK w' b I H L n)(W:A3 (One b) w w'):Dm w Ft w' b {D with n:=n} F:=
 Dm.bx (W.ad λk _ E=>by cases E;exact z b .Ag) (h.ag Y W) λk E=>.inl (z k E.n)
def App.An{w w':World}{e size n:Nat}{v z:Value}{xs:List Value}(h:App w w' e size v z n xs){S:Nat->Prop}(E:∀k,v.ownBlock=some k->S k):A3 S w w':=
 (A3.I S w).Ct h.Ct λk d _=>E k d
def CW.aI{w w':World}{f:Nat}{d:Value}{Ad:Int}(h:CW w f d Ad)(z:w'.heap[f]?=w.heap[f]?):CW w' f d Ad:=z.trans h
def A06{w w1 I w3 w5:World}{b:Nat}{D:DS}{F:Nat->FC}{vd vs vc aA aD:Value}{W:List Value}{aI:Nat->Value}{Ft:Nat->Prop}{n1:DN}{a3:Option Addr}{O:Nat}{name:ByteArray}(hr:BY w b D F vd vs vc W aI)(E:∀k,C6 b D vd vs vc W aI k->Ft k)(aL:AK w1 b vd vs vc n1)(aE:A3 (One b) w w1)(hA:App w1 I 70 2 (.slice none 0 0) aA D.A4.length (BX D.A4))(hB:App ((I.alloc (.cells #[.slice none 0 0,.int .i64 0] 68)).alloc (.cells #[.string name,.pointer (some ⟨I.heap.size,0,none⟩)] 70)) w3 70 2 aA (.slice a3 (D.A4.length+1) O) (D.A4.length+1) (BX D.A4++[.string name,.pointer (some ⟨I.heap.size,0,none⟩)]))(aJ:AK w5 b (.slice a3 (D.A4.length+1) O) vs aD n1)(aM:w5.ownsRow 0 98 1 aD (D.As.length+1) (W++[.slice a3 (D.A4.length+1) O]))(Y:A3 (λk=>k=b\/vc.ownBlock=some k) w3 w5)(hv:∀g,aD.ownBlock=some g->vc.ownBlock=some g\/w3.heap.size<=g):
 w.heap.size<=I.heap.size/\Dm w Ft w5 b {D with A4:=D.A4++[(name,I.heap.size)],As:=D.As++[D.A4++[(name,I.heap.size)]],n:=n1} (upd F I.heap.size ([],0)):=by
 have aB:∀k,aA.ownBlock=some k->k=w1.heap.size:=by
  intro k L;rcases hA.Cy with h|h
  ·rw[h]at L;cases L
  ·rw[h]at L;cases L;rfl
 have s1:=aE.Ak;have s2:=hA.Ct.size;have s3:=hB.Ct.size;simp only[Mn]at s3;have aG:=
  (((hA.An (S:=λ_=>False) (by intro k L;simp[Value.ownBlock]at L)).aj (.cells #[.slice none 0 0,.int .i64 0] 68)).aj (.cells #[.string name,.pointer (some ⟨I.heap.size,0,none⟩)] 70)).Ct hB.Ct
    (λk L hlt=>by have:=aB k L;omega)
 have r1:=hr.ag aL aE;have r3:=r1.aP λk L=>aG.Al k (r1.lt L) (λh=>h);have f0:CW ((I.alloc (.cells #[.slice none 0 0,.int .i64 0] 68)).alloc (.cells #[.string name,.pointer (some ⟨I.heap.size,0,none⟩)] 70)) I.heap.size (.slice none 0 0) 0:=by
  unfold CW;rw[D8 _ _ _ (by simp)];exact BK _ _
 have f3:=f0.aI (hB.Ct.block _ (by simp;omega) (λe=>by have:=Az hA.AF e.symm;omega))
 have f5:=f3.aI (Y.Al _ (by omega) (by
  rintro (e|e)
  ·exact BR f3 r3.Ag (by decide) e
  ·obtain⟨c,hh⟩:=Bd r3.An e
   exact BR f3 hh (by decide) rfl))
 have e3:CY w3 (.slice a3 (D.A4.length+1) O) (D.A4++[(name,I.heap.size)]):=by
  have:=hB.AF;unfold CY;rw[KG];simpa[BX] using this
 have e5:=Ay e3 λg hg=>Y.Al g (Az e3 hg) (by
  obtain⟨c,hh⟩:=Bd e3 hg;rintro (e|e)
  ·exact BR hh r3.Ag (by decide) e
  ·obtain⟨c',aK⟩:=Bd r3.An e
   exact BR hh aK (by decide) rfl)
 have aF:∀f,D.Aq f->f≠I.heap.size:=λf H=>by have:=hr.lt (.BI H);omega
 have r5:=r3.cq (F':=upd F I.heap.size ([],0)) (VB':=λf=>if f=I.heap.size then .slice none 0 0 else aI f) (es:=D.A4++[(name,I.heap.size)]) aJ aM e5 Y (λk L=>L)
  (λf H=>by have:=aF f H;simp[upd,this])
  (λf H=>by
   obtain⟨e,d,rfl⟩:=H;rcases AV.1 d with d|d
   ·exact .inl (.inl ⟨e,d,rfl⟩)
   ·simp at d;subst d;right;simp only[upd,Cg]
    exact⟨f5,CL _ _ _ _,rfl⟩)
 refine⟨by omega,Dm.bx ?_ r5 ?_⟩
 ·have a:=(aE.ad (S':=Ft) λk _ L=>by cases L;exact E b .Ag).Av aG (λx hx=>hx.elim);refine a.Av Y ?_;rintro x (e|e) _
  ·subst e;exact E x .Ag
  ·exact E x (.An e)
 ·intro k L;cases L using C6.bK with
  | Ag=>exact .inl (E b .Ag)
  | dir e=>
   rcases hB.Cy with h|h
   ·rw[h]at e;have:=aB _ e;right;omega
   ·rw[h]at e;cases e;right;simp;omega
  | Ad e=>exact .inl (E k (.AM e))
  | An e=>
   rcases hv k e with h|h
   ·exact .inl (E k (.An h))
   ·right;omega
  | D5 hm e=>
   rcases AV.1 hm with hm|hm
   ·exact .inl (E k (.D5 hm e))
   ·simp at hm;subst hm;rcases hB.Cy with h|h
    ·rw[h]at e;have:=aB _ e;right;omega
    ·rw[h]at e;cases e;right;simp;omega
  | BI H=>
   rcases H with⟨e,d,rfl⟩|H|⟨c,z,H⟩
   ·rcases AV.1 d with d|d
    ·exact .inl (E _ (.BI (.inl ⟨e,d,rfl⟩)))
    ·simp at d;subst d;right;simp;omega
   ·exact .inl (E _ (.BI (.inr (.inl H))))
   ·rcases AV.1 z with z|z
    ·exact .inl (E _ (.BI (.inr (.inr ⟨c,z,H⟩))))
    ·simp at z;subst z;obtain⟨e,d,rfl⟩:=H;rcases AV.1 d with d|d
     ·exact .inl (E _ (.BI (.inl ⟨e,d,rfl⟩)))
     ·simp at d;subst d;right;simp;omega
  | byt H e=>
   rename_i f;by_cases hx:f=I.heap.size
   ·simp[hx,Value.ownBlock]at e
   ·simp only[hx,C4]at e;have aH:D.Aq f:=by
     rcases H with⟨en,d,rfl⟩|H|⟨c,z,H⟩
     ·rcases AV.1 d with d|d
      ·exact .inl ⟨en,d,rfl⟩
      ·simp at d;subst d;exact absurd rfl hx
     ·exact .inr (.inl H)
     ·rcases AV.1 z with z|z
      ·exact .inr (.inr ⟨c,z,H⟩)
      ·simp at z;subst z;obtain⟨en,d,rfl⟩:=H;rcases AV.1 d with d|d
       ·exact .inl ⟨en,d,rfl⟩
       ·simp at d;subst d;exact absurd rfl hx
    exact .inl (E _ (.bA aH e))
def A05{I w2 O:World}{b:Nat}{D:DS}{F:Nat->FC}{vd W L E:Value}{d:List Value}{aB:Nat->Value}{n1:DN}{v3:Value}{n2:Nat}{xs:List Value}{o1 o2:Obj}(aA:AK I b vd W L n1)(r1:BY I b {D with n:=n1} F vd W L d aB)(hA:App I w2 70 2 (.slice none 0 0) E D.A4.length (BX D.A4))(hB:App ((w2.alloc o1).alloc o2) O 70 2 E v3 n2 xs):
 AK O b vd W L n1/\O.ownsRow 0 98 1 L D.As.length d:=by
 have Y:∀k,E.ownBlock=some k->k=I.heap.size:=by
  intro k z;rcases hA.Cy with h|h
  ·rw[h]at z;cases z
  ·rw[h]at z;cases z;rfl
 have H:=
  (((hA.An (S:=λ_=>False) (by intro k z;simp[Value.ownBlock]at z)).aj o1).aj o2).Ct hB.Ct (λk z hlt=>by have:=Y k z;omega)
 refine⟨aA.An H (λh=>h),Ay r1.An λg hg=>H.Al g (Az r1.An hg) (λh=>h)⟩
def A07(w:World)(b:Nat)(D:DS)(F:Nat->FC)(Ft:Nat->Prop)(h:D6 w b D F Ft)(name:ByteArray)(hs:D.A4.length<1099511627776/\D.As.length<1099511627776):
 Ah 7 #[A5 b,.string name] w λe w'=>∃f0,w.heap.size<=f0/\e=.returned (A0 (CK D name f0).1)/\Dm w Ft w' b (CK D name f0).2 (upd F f0 ([],0)):=by
 obtain⟨vd,vs,vc,O,aR,Y,aA⟩:=h;obtain⟨hs1,aK⟩:=hs;have hq:∀f0,w.heap.size<=f0->(CK D name f0).2=D->Dm w Ft w b (CK D name f0).2 (upd F f0 ([],0)):=λf0 hf e=>by
  rw[e];exact Dm.bx (A3.I _ _) (Y.eu hf _) λk hk=>.inl (aA k hk)
 have aQ:=A1 hq;have aO:=A1 Y;have c0:=Y.Ag.c0;have hd:=A1 Y.A4;have aH:=A1 Y.Ag;obtain⟨ad,cap,aN,_⟩:=Y.A4.Cf;clear Y aN;by_cases hn:name.toList.isEmpty=true
 ·have q:Hid (CK D name w.heap.size=(8,D)):=by unfold Hid CK;rw[Af (.inl ((isEmpty_iff _).1 hn))]
  go_enter func7,ntmps7
  go_wp2;go_ret;exact⟨_,Au _,by rw[q.o];rfl,aQ.o _ (Au _) (by rw[q.o])⟩
 ·have hn':name.toList.isEmpty=false:=by simpa using hn
  have aI:Hid (name≠ByteArray.empty):=λe=>hn ((isEmpty_iff _).2 e);clear hn;by_cases hx:(0:Int)<=B2 D.A4 name
  ·(have q:Hid (CK D name w.heap.size=(8,D)):=by unfold Hid CK;rw[Af (.inr hx)])
   go_enter func7,ntmps7
   go_wp2_with (go_at_call 24;refine(Dt _ _ _ _ hd.o).mono ?_;rintro e w'⟨rfl,rfl⟩);go_ret;exact⟨_,Au _,by rw[q.o];rfl,aQ.o _ (Au _) (by rw[q.o])⟩
  ·have q:Hid (∀f0,CK D name f0=((bg D.n).2.1,if (bg D.n).1 then {D with A4:=D.A4++[(name,f0)],As:=D.As++[D.A4++[(name,f0)]],n:=(bg D.n).2.2} else {D with n:=(bg D.n).2.2})):=by
    intro f0;unfold CK;rw[Ac (by rintro (h|h);exact aI h;exact hx h)]
   (have hx':B2 D.A4 name<0:=by omega);by_cases aB:(bg D.n).1=true
   ·obtain⟨i0,hi,aD,aG,aF⟩:=E4 Tryz.cO
    have fin:Hid (∀(H z w3 w5:World) (W E:Value) (a3:Option Addr) (d:Nat),AK H b vd vs vc (bg D.n).2.2->A3 (One b) w H->App H z 70 2 (.slice none 0 0) W D.A4.length (BX D.A4)->
     App ((z.alloc (.cells #[.slice none 0 0,A0 0] 68)).alloc (.cells #[.string name,A5 z.heap.size] 70)) w3 70 2 W (.slice a3 (D.A4.length+1) d) (D.A4.length+1) (BX D.A4++[.string name,A5 z.heap.size])->
     AK w5 b (.slice a3 (D.A4.length+1) d) vs E (bg D.n).2.2->w5.ownsRow 0 98 1 E (D.As.length+1) (O++[.slice a3 (D.A4.length+1) d])->A3 (λk=>k=b\/vc.ownBlock=some k) w3 w5->(∀g,E.ownBlock=some g->vc.ownBlock=some g\/w3.heap.size<=g)->
     w.heap.size<=z.heap.size/\Dm w Ft w5 b {D with A4:=D.A4++[(name,z.heap.size)],As:=D.As++[D.A4++[(name,z.heap.size)]],n:=(bg D.n).2.2} (upd F z.heap.size ([],0))):=
     λH z w3 w5 W E a3 d h1 h2 h3 h4 h5 h6 h7 h8=>A06 aO.o aA h1 h2 h3 h4 h5 h6 h7 h8
    have aL:Hid (∀H,AK H b vd vs vc (bg D.n).2.2->A3 (One b) w H->BY H b {D with n:=(bg D.n).2.2} F vd vs vc O aR):=λH h1 h2=>aO.o.ag h1 h2
    go_enter func7,ntmps7
    go_wp2_with (first
     | (go_at_call 24;refine(Dt _ _ _ _ hd.o).mono ?_;rintro e w'⟨rfl,rfl⟩)
     | (go_at_call 25;refine(GH _ _ _ _ _ _ aH.o).mono ?_;rintro e H⟨rfl,I,L⟩;have c01:=I.c0;have aP:=A1 (aL.o H I L))
     | (at_builtin;refine D9 rfl (.const (.slice none 0 0)) (.tmp 28) 57 57 rfl 70 i0 _ 2 24 underlying57 hi aD aG aF rfl (by decide) (.slice none 0 0) 0 [] (by rfl) (CL _ 0 70 2) vd D.A4.length (BX D.A4) (by rfl) (Src.bN underlying57 aP.o.A4 (OC _)) (by omega) ?_;intro a2 cap2 z hA;simp only[Gx,EY]at hA;have aJ:=A1 ((hA.AF.alloc (.cells #[.slice none 0 0,A0 0] 68)).alloc (.cells #[.string name,A5 z.heap.size] 70));have aM:=A1 (Src.bc (size:=2) underlying57 (z.alloc (.cells #[.slice none 0 0,A0 0] 68)) #[.string name,A5 z.heap.size] 70 (z.heap.size+1) (by simp) 1 1 rfl (by simp[Value.oneCell'])))
     | (at_builtin;refine D9 rfl (.tmp 31) (.tmp 36) 57 57 rfl 70 i0 _ 2 24 underlying57 hi aD aG aF rfl (by decide) _ D.A4.length (BX D.A4) (by rfl) aJ.o _ 1 _ (by rfl) aM.o (by omega) ?_;intro a3 d w3 hB;have hm:=A1 (A05 I aP.o hA hB))
     | (go_at_call 26;refine(Lt _ b vd vs vc _ _ _ _ _ _ hm.o.1 hm.o.2 aK).mono ?_;rintro e w5⟨rfl,E,k1,k2,k3,k4⟩))
    go_ret;obtain⟨g1,g2⟩:=fin.o H z w3 w5 _ E a3 d I L hA hB k1 k2 k3 k4;refine⟨z.heap.size,g1,by rw[q.o];rfl,?_⟩;rw[q.o,aB];exact g2
   ·(have aE:(bg D.n).1=false:=by simpa using aB)
    go_enter func7,ntmps7
    go_wp2_with (first|(go_at_call 24;refine(Dt _ _ _ _ hd.o).mono ?_;rintro e w'⟨rfl,rfl⟩)|(go_at_call 25;refine(GH _ _ _ _ _ _ aH.o).mono ?_;rintro e H⟨rfl,I,L⟩));go_ret;refine⟨w.heap.size,Au _,by rw[q.o];rfl,?_⟩;rw[q.o,aE];exact(aO.o.eu (Au _) _).bO aA I L
def DC(D:DS):Int×DS:=
 ((bg D.n).2.1,if (bg D.n).2.1=0 then {D with AM:=D.A4,As:=[],n:=(bg D.n).2.2} else {D with n:=(bg D.n).2.2})
def BY.aK{w w':World}{b:Nat}{D:DS}{F:Nat->FC}{I vs vc:Value}{H:List Value}{aA:Nat->Value}(h:BY w b D F I vs vc H aA)(hb:AK w' b I I (.slice none 0 0) D.n)(hc:A3 (One b) w w'):BY w' b {D with AM:=D.A4,As:=[]} F I I (.slice none 0 0) [] aA:=by
 have E:∀(k:Nat) (c:Array Value) (e:Nat),w.heap[k]?=some (Obj.cells c e (0,0))->e≠60->w'.heap[k]?=w.heap[k]?:=λk c e E he=>
  hc.Al k (Bw E) (BR E h.Ag he)
 have hd:=Ay h.A4 λg L=>by obtain⟨c,Y⟩:=Bd h.A4 L;exact E g _ _ Y (by decide)
 have d:∀f,({D with AM:=D.A4,As:=[]}:DS).Aq f->D.Aq f:=by
  rintro f (z|z|⟨c,hcm,z⟩)
  ·exact .inl z
  ·exact .inl z
  ·cases hcm
 refine⟨hb,hd,hd,CL _ _ _ _,λi hi=>by simp at hi,λf z=>?_,λf f' g z W=>h.G7 f f' g (d f z) (d f' W)⟩;obtain⟨O,h2⟩:=h.BI f (d f z);refine⟨?_,Ay h2 λg L=>by obtain⟨c,Y⟩:=Bd h2 L;exact E g _ _ Y (by decide)⟩;unfold CW at O ⊢;rw[E f _ _ O (by decide)];exact O
def VN(w:World)(b:Nat)(D:DS)(F:Nat->FC)(Ft:Nat->Prop)(h:D6 w b D F Ft):
 Ah 71 #[A5 b] w (Am (A0 (DC D).1) λw'=>Dm w Ft w' b (DC D).2 F):=by
 obtain⟨vd,vs,vc,vals,VB,hr,d⟩:=h;obtain⟨ad,cap,rfl,_⟩:=hr.A4.Cf;have aA:=A1 hr;have Y:=A1 hr.Ag;by_cases E:(bg D.n).2.1=0
 ·have q:Hid (DC D=(0,{D with AM:=D.A4,As:=[],n:=(bg D.n).2.2})):=by unfold Hid DC;rw[Af E,E]
  have O:((bg D.n).2.1==0)=true:=by simpa using E
  have W:=A1 <| E;clear E
  go_enter func71,ntmps71
  go_wp2_with (go_at_call 25;refine(GH _ _ _ _ _ _ Y.o).mono ?_;rintro e w1⟨rfl,z,I⟩;have c01:=z.c0;have c11:=z.c1;have c21:=z.c2;have hf1:=z.fz);go_ret;refine⟨by rw[q.o];simp[W.o],?_⟩;rw[q.o];have r1:=aA.o.ag z I;have r2:=r1.aK ((z.s1 _).s2 (.slice none 0 0)) (((A3.I (One b) w1).aq rfl 1 _).aq rfl 2 (.slice none 0 0));refine Dm.bx ?_ r2 ?_
  ·exact(((I.ad (S':=Ft) λk _ hk=>by cases hk;exact d b .Ag)).aq (d b .Ag) 1 _).aq (d b .Ag) 2 _
  ·intro k hk;left;cases hk using C6.bK with
   | Ag=>exact d _ .Ag
   | dir e=>exact d _ (.A4 e)
   | Ad e=>exact d _ (.A4 e)
   | An e=>simp[Value.ownBlock]at e
   | D5 hm e=>cases hm
   | BI H=>
    rcases H with H|H|⟨c,L,_⟩
    ·exact d _ (.BI (.inl H))
    ·exact d _ (.BI (.inl H))
    ·cases L
   | byt H e=>
    rcases H with H|H|⟨c,L,_⟩
    ·exact d _ (.bA (.inl H) e)
    ·exact d _ (.bA (.inl H) e)
    ·cases L
 ·have q:Hid (DC D=((bg D.n).2.1,{D with n:=(bg D.n).2.2})):=by unfold Hid DC;rw[Ac E]
  have O:((bg D.n).2.1==0)=false:=by simpa using E
  go_enter func71,ntmps71
  go_wp2_with (go_at_call 25;refine(GH _ _ _ _ _ _ Y.o).mono ?_;rintro e w1⟨rfl,z,I⟩);go_ret;refine⟨by rw[q.o];rfl,?_⟩;rw[q.o];exact aA.o.bO d z I
def B4(F:Nat->FC):List AL->Nat
 | []=>0
 | e::r=>(F e.2).1.length+B4 F r
def K9(F:Nat->FC)(a c:List AL):B4 F (a++c)=B4 F a+B4 F c:=by
 induction a with
 | nil=>simp[B4]
 | cons e r ih=>simp[B4,ih];omega
def Q3(F:Nat->FC)(es:List AL)(k:Nat)(d:k<es.length):B4 F (es.take (k+1))=B4 F (es.take k)+(F (es[k]'d).2).1.length:=by
 rw[Dl d,K9];simp[B4]
def VA(F:Nat->FC)(es:List AL)(k:Nat):B4 F (es.take k)<=B4 F es:=by
 conv=>rhs;rw[<-DO k es]
 rw[K9];omega
def K8(w:World)(b:Nat)(D:DS)(F:Nat->FC)(Ft:Nat->Prop)(h:D6 w b D F Ft)(hu:B4 F D.A4<=4611686018427387904):
 Ah 27 #[A5 b] w (Am (A0 (B4 F D.A4)) λw'=>A3 Aa w w'):=by
 obtain⟨vd,vs,vc,vals,VB,hr,hft⟩:=h;have c0:=hr.Ag.c0;obtain⟨a,cap,rfl,hc1,aB,H⟩:=hr.A4.Cf;unfold maxLen at aB;have aE:=A1 hr
 go_enter func27,ntmps27
 go_wp2;go_loopw [3,11] (λt i wr=>∃k:Nat,k<=D.A4.length/\i=A0 k/\t=A0 (B4 F (D.A4.take k))/\A3 Aa w wr) (λ_ i _=>D.A4.length-(intOf i).toNat)
 case atStart=>exact⟨0,Cz _,rfl,by simp[B4],A3.I _ _⟩
 case round=>
  obtain⟨k,hk,rfl,rfl,z⟩:=hrel;by_cases d:k<D.A4.length
  ·obtain⟨g,rfl,hn,hp⟩:=H k d;obtain⟨E,Y⟩:=aE.o.cf k d;obtain⟨a',I,hv,_,_⟩:=Y.Cf;rw[hv]at E;have W:g<w.heap.size:=Hd w _ hn;have aA:=Bw E;have hn':A6 wr g (k*2) (.string (D.A4[k]'d).1):=(DL (z.Al g W (λh=>h))).trans hn;have hp':A6 wr g (k*2+1) (A5 ((D.A4[k]'d).2)):=(DL (z.Al g W (λh=>h))).trans hp;have hb0:A6 wr ((D.A4[k]'d).2) 0 (.slice a' (F (D.A4[k]'d).2).1.length I):=(DL (z.Al _ aA (λh=>h))).trans E.c0;have hsz:=z.Ak;(have hflr:(D.A4[k]'d).2<wr.heap.size:=by omega);have ht:=A1 (Q3 F D.A4 k d);have aD:=VA F D.A4 (k+1);rw[Q3 F D.A4 k d]at aD;go_wp2;go_roundw
   case rel=>exact⟨k+1,by omega,by go_num,by rw[ht.o];go_num,z.aj _⟩
   case measure=>simp[intOf];omega
  ·have O:D.A4.take k=D.A4:=Em (by omega);have L:=A1 O;go_wp2;go_ret;exact⟨by rw[L.o];rfl,z⟩
def EU(D:DS)(F:Nat->FC)(name:ByteArray)(at_ n:Int):List UInt8×Int:=match lookup D.A4 name with
 | some f=>if at_<0\/n<0\/at_>(F f).1.length\/n>(F f).1.length-at_ then ([],9) else (((F f).1.drop at_.toNat).take n.toNat,0)
 | none=>([],8)
end
end Go.Proofs.YtodcnkbblippnabGreatDoor
