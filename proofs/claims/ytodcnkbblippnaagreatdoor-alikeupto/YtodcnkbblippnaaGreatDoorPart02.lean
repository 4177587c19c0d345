/- Part 2 of a proof: walks of the program. -/
import Derived.Handy
import Derived.Deep.RegionHeld3
import Derived.Deep.LoopGhost
import Derived.Deep.DrawnRows
import Derived.Test.YtodcnkbblippnaaGreatDoorPart01
namespace Go.Proofs.YtodcnkbblippnaaGreatDoor
set_option maxRecDepth 100000
set_option maxHeartbeats 32000000
set_option linter.defProp false
open Go.Proofs.Tryz
section
open Go
def UZ{α:Type}{l:List α}{i:Nat}{a:α}:l.toArray.setIfInBounds i a=(l.set i a).toArray:=A3x _ _ _
def UY{α:Type}{x a:α}{xs:List α}:(x::xs).set 0 a=a::xs:=rfl
def UX{α:Type}{x a:α}{xs:List α}{n:Nat}:(x::xs).set (n+1) a=x::xs.set n a:=rfl
def UW{α:Type}{l:List α}{i:Nat}(h:i<l.toArray.size):l.toArray[i]=l[i]'(by simpa using h):=rfl
def UU{α:Type}{a:α}{l:List α}(h:0<(a::l).length):(a::l)[0]=a:=rfl
def Pt6{α:Type}{a:α}{l:List α}{i:Nat}(h:i+1<(a::l).length):(a::l)[i+1]=l[i]'(A3q h):=rfl
def BI{α:Type}{a:α}{l:List α}{n:Nat}:(a::l).drop (n+1)=l.drop n:=rfl
def BH{α:Type}{l:List α}:l.drop 0=l:=rfl
section
variable {P:Program} {ops:Array Oper} {md:Region.Mode} {Q:Exit->Act->World->Prop} {S:World->Prop}
def Kr(P:Program)(md:Region.Mode)(ops:Array Oper)(Q:Exit->Act->World->Prop)(S:World->Prop)(n:Nat)(L:Array Bool->Act->World->Prop):Nat->Array Bool->Act->World->Prop
 | 0,listed,a,w=>L listed a w
 | f+1,listed,a,w=>Region.ready md ops listed≠[]/\∀i∈Region.ready md ops listed,i<n/\wpOp P ops Q i (λa' w'=>S w'/\Kr P md ops Q S n L f (listed.setIfInBounds i true) a' w') a w
def Qc{n g:Nat}{L:Array Bool->Act->World->Prop}(d:∀listed a w,L listed a w->wpAny P md ops Q g listed a w):
 ∀(f:Nat) (listed:Array Bool) (a:Act) (w:World),Kr P md ops Q S n L f listed a w->wpAny P md ops Q (f+g) listed a w
 | 0,listed,a,w,h=>by rw[GO];exact d _ _ _ h
 | f+1,listed,a,w,h=>by
  rw[show f+1+g=(f+g)+1 from by omega];exact⟨λH=>absurd H h.1,λi E=>Kq (λa' w' z=>Qc d f _ a' w' z.2) (h.2 i E).2⟩
def VP{n i:Nat}{oi:Oper}{v:Value}{L:Array Bool->Act->World->Prop}(hi:ops[i]?=some oi)(Y:∀(j:Nat) (o:Oper) cs b,ops[j]?=some o->o.op≠.select cs b)(hQ:∀c a w,Q (.panic c) (a.put oi.dst v) w->Q (.panic c) a w)(hs:Region.sinkB md ops n=true)(hc:Region.chainB md ops n=true)(hn:n<ops.size)(aF:i<n)(aB:∀listed a w,L listed a w->∀j∈Region.ready md ops listed,n<=j):
 ∀(f:Nat) (listed:Array Bool) (a:Act) (w:World),HeadInv md ops n listed->
  (∀j oj,ops[j]?=some oj->j≠i->listed.getD j true=false->(∀e∈oj.after,Region.binds md e=true->e.on≠i)->oi.apart ops oj=true)->
  i∈Region.ready md ops listed->YieldsIf P ops S oi v a->S w->
  Kr P md ops Q S n L f (listed.setIfInBounds i true) (a.put oi.dst v) w->Kr P md ops Q S n L (f+1) listed a w:=by
 intro f
 induction f with
 | zero=>
  intro listed a w O _ hr hy hS H;have z:=(I9.1 hr).1;refine⟨λh=>(by rw[h]at hr;cases hr),λj hj=>?_⟩;have W:j<n:=by
   rcases F7 j n with h|h
   ·exact h
   ·exact absurd hj (LP hs hc hn O _ i rfl aF z j h)
  refine⟨W,?_⟩;by_cases d:j=i
  ·subst d;exact hy.wpOp hi hS ⟨hS,H⟩
  ·have:=aB _ _ _ H j (KF hj d);omega
 | succ f ih=>
  intro listed a w O E hr hy hS H;have z:=(I9.1 hr).1;refine⟨λh=>(by rw[h]at hr;cases hr),λj hj=>?_⟩;have W:j<n:=by
   rcases F7 j n with h|h
   ·exact h
   ·exact absurd hj (LP hs hc hn O _ i rfl aF z j h)
  refine⟨W,?_⟩;by_cases d:j=i
  ·subst d;exact hy.wpOp hi hS ⟨hS,H⟩
  ·have h1:=(H.2 j (KF hj d)).2;obtain⟨X,oj,aA,hall⟩:=I9.1 hj;have aE:∀e∈oj.after,Region.binds md e=true->e.on≠i:=λe he hb aI=>by
    have h1:=hall e he hb;rw[aI,getD_both z]at h1;cases h1
   have h2:=wpOp_putIf aA (E j oj aA d X aE) (λcs b=>Y i oi cs b hi) (λcs b=>Y j oj cs b aA) hQ hy h1;have I:∀k ok,ops[k]?=some ok->k≠i->(listed.setIfInBounds j true).getD k true=false->
    (∀e∈ok.after,Region.binds md e=true->e.on≠i)->oi.apart ops ok=true:=λk ok hk aH z aG=>by
    refine E k ok hk aH ?_ aG;by_cases aD:j=k
    ·subst aD;exact X
    ·rw[Mj true aD]at z;exact z
   refine Kq (λa' w' h3=>⟨h3.2.1,ih (listed.setIfInBounds j true) a' w' (O.set hj W) I (KF hr (Pz d)) h3.1 h3.2.1 ?_⟩) h2;rw[VC _ _ d];exact h3.2.2
def Ff(P:Program)(ops:Array Oper)(Q:Exit->Act->World->Prop)(S:World->Prop)(T:Act->World->Prop):List (Nat×Bool)->Act->World->Prop
 | [],a,w=>T a w
 | (i,true):: r,a,w=>∃o v,ops[i]?=some o/\YieldsIf P ops S o v a/\Ff P ops Q S T r (a.put o.dst v) w
 | (i,false):: r,a,w=>wpOp P ops Q i (λa' w'=>S w'/\Ff P ops Q S T r a' w') a w
def Kz(md:Region.Mode)(ops:Array Oper)(n:Nat):List (Nat×Bool)->Array Bool->Bool
 | [],listed=>Region.seqB md ops (ops.size-n) n listed
 | (i,t):: r,listed=>decide (i<n)&&(if t then (Region.ready md ops listed).contains i&&Region.free md ops listed i else decide (Region.ready md ops listed=[i]))&&Kz md ops n r (listed.setIfInBounds i true)
def LV(ops:Array Oper)(n:Nat)(d:List (Nat×Bool)):Bool:=
 Region.noSelect ops&&decide (n<ops.size)&&decide (d.length=n)&&Region.sinkB .any ops n&&Region.chainB .any ops n&&Kz .any ops n d (Array.replicate ops.size false)
def No{n:Nat}{T:Act->World->Prop}(z:Region.noSelect ops=true)(Y:Region.sinkB md ops n=true)(hc:Region.chainB md ops n=true)(hn:n<ops.size)(W:∀c a t v w,Q (.panic c) (Act.put a (some t) v) w->Q (.panic c) a w):
 ∀(L:List (Nat×Bool)) (listed:Array Bool) (a:Act) (w:World),HeadInv md ops n listed->Kz md ops n L listed=true->S w->Ff P ops Q S T L a w->
 Kr P md ops Q S n (λd a' w'=>Region.seqB md ops (ops.size-n) n d=true/\T a' w') L.length listed a w
 | [],listed,a,w,_,hB,_,h=>⟨hB,h⟩
 | (i,true):: r,listed,a,w,inv,hB,hS,h=>by
  simp only[Kz,FH,DG,Cg]at hB;obtain⟨⟨E,O,hf⟩,I⟩:=hB;obtain⟨o,v,h0,hy,hK⟩:=h;have H:i∈Region.ready md ops listed:=by simpa using O
  exact VP h0 (UR z) (λc a w=>by cases o.dst with|none=>exact id|some t=>exact W c a t v w) Y hc hn E (λd a' w' hL=>QV hL.1) r.length listed a w inv (US h0 hf) H hy hS
   (No z Y hc hn W r _ _ w (inv.set H E) I hS hK)
 | (i,false):: r,listed,a,w,inv,hB,hS,h=>by
  simp only[Kz,FH,DG,Q2,C4]at hB;obtain⟨⟨E,O⟩,I⟩:=hB;refine⟨by rw[O];simp,λj hj=>?_⟩;have H:i∈Region.ready md ops listed:=by rw[O];simp
  rw[O]at hj;have:j=i:=by simpa using hj
  subst this;exact⟨E,Kq (λa' w' X=>⟨X.1,No z Y hc hn W r _ a' w' (inv.set H E) I X.1 X.2⟩) h⟩
def FJ{id:Nat}{a:Act}{w:World}{l:List Oper}(S:World->Prop)(n:Nat)(d:List (Nat×Bool))(Y:P.follows .mixedOrders=true)(O:LV l.toArray n d=true)(X:∀c a t v w,Q (.panic c) (Act.put a (some t) v) w->Q (.panic c) a w)(hS:S w.drew)(h:Ff P l.toArray Q S (λa w=>wpList P l.toArray Q (l.drop n) a w) d a w.drew):(Code.region id l.toArray true).wp P Q a w:=by
 simp only[LV,FH,DG]at O;obtain⟨⟨⟨⟨⟨hsel,hn⟩,hsl⟩,hs⟩,hc⟩,hgo⟩:=O;have E:(l.drop n).length=l.toArray.size-n:=by simp
 have z:HeadInv .any l.toArray n (Array.replicate l.toArray.size false):=
  ⟨by simp,λj oj _ L=>(by rw[JX]at L;cases L),λt _ W=>getD_in (by simpa using W) (JX _ _)⟩
 have H:=No (md:=.any) (T:=λa w=>wpList P l.toArray Q (l.drop n) a w) hsel hs hc hn X d _ a w.drew z hgo hS h;refine Qa Y ?_
 have:=Qc (Q:=Q) (g:=l.toArray.size-n) (λlisted a' w' I=>by
  have:=Qb (md:=.any) (Q':=Q) (l.drop n) n listed a' w' (λj=>by simp[List.getElem?_drop]) (by rw[E];exact I.1) I.2
  rwa [E]at this) _ _ _ _ H
 rw[hsl,show n+(l.toArray.size-n)=l.toArray.size from by omega]at this;exact this
def E8{i:Nat}{o:Oper}{v:Value}{r:List (Nat×Bool)}{a:Act}{w:World}{T:Act->World->Prop}(z:ops[i]?=some o)(d:Region.wanted o (yielded ops a.tmps)=true)(E:∀w,S w->(execOp a.eval o).run P w=.ok (.value v) w)(h:Ff P ops Q S T r (a.put o.dst v) w):Ff P ops Q S T ((i,true):: r) a w:=
 ⟨o,v,z,.inl ⟨d,E⟩,h⟩
def VL{i:Nat}{o:Oper}{r:List (Nat×Bool)}{a:Act}{w:World}{T:Act->World->Prop}(z:ops[i]?=some o)(d:Region.wanted o (yielded ops a.tmps)=false)(h:Ff P ops Q S T r (a.put o.dst undef) w):Ff P ops Q S T ((i,true):: r) a w:=
 ⟨o,_,z,.inr ⟨d,rfl⟩,h⟩
def Bl{a:Act}{w:World}{T:Act->World->Prop}(h:T a w):Ff P ops Q S T [] a w:=h
def DW{i:Nat}{o:Oper}{r:List (Nat×Bool)}{a:Act}{w:World}{T:Act->World->Prop}(H:ops[i]?=some o)(z:Region.wanted o (yielded ops a.tmps)=true)(h:∀K:Act->World->Prop,(∀a w,S w->(S w->Ff P ops Q S T r a w)->K a w)->o.wp P a w K Q):Ff P ops Q S T ((i,false):: r) a w:=by
 show wpOp P ops Q i _ a w;unfold wpOp;simp only[H,z,Cg];exact .inl (h _ λa w d E=>⟨d,E d⟩)
def Bg{i:Nat}{o:Oper}{v:Value}{r:List (Nat×Bool)}{a:Act}{w:World}{T:Act->World->Prop}(h:Ff P ops Q S T r (a.put o.dst v) w)(z:ops[i]?=some o:=by rfl)(d:Region.wanted o (yielded ops a.tmps)=true:=by rfl)(E:∀w,S w->(execOp a.eval o).run P w=.ok (.value v) w:=by intro w' H;(try dsimp only at H);go_simp;try with_reducible rfl):Ff P ops Q S T ((i,true):: r) a w:=E8 z d E h
def Bw{i:Nat}{o:Oper}{r:List (Nat×Bool)}{a:Act}{w:World}{T:Act->World->Prop}(h:∀K:Act->World->Prop,(∀a w,S w->(S w->Ff P ops Q S T r a w)->K a w)->o.wp P a w K Q)(z:ops[i]?=some o:=by rfl)(d:Region.wanted o (yielded ops a.tmps)=true:=by rfl):Ff P ops Q S T ((i,false):: r) a w:=DW z d h
def BP{id:Nat}{a:Act}{w:World}{l:List Oper}(S:World->Prop)(n:Nat)(d:List (Nat×Bool))(E:S w.drew)(h:Ff P l.toArray Q S (λa w=>wpList P l.toArray Q (l.drop n) a w) d a w.drew)(z:P.follows .mixedOrders=true:=by kernel_rfl)(H:LV l.toArray n d=true:=by kernel_rfl)(I:∀c a t v w,Q (.panic c) (Act.put a (some t) v) w->Q (.panic c) a w:=by exact λ_ _ _ _ _ h=>h):(Code.region id l.toArray true).wp P Q a w:=FJ S n d z H I E h
end
def MQ(Q:Exit->Act->World->Prop):Exit->Act->World->Prop
 | .panic _,_,_=>False
 | e,a,w=>Q e a w
def CE(Q:Exit->Act->World->Prop)(a:Act)(w:World):MQ Q .normal a w=Q .normal a w:=rfl
def A3n{Q:Exit->Act->World->Prop}{e:Exit}{a:Act}{w:World}(h:MQ Q e a w):Q e a w:=by
 cases e with
 | panic _=>exact h.elim
 | _=>exact h
def Nn{P:Program}{Q:Exit->Act->World->Prop}{id:Nat}{a:Act}{w:World}{l:List Oper}(S:World->Prop)(n:Nat)(d:List (Nat×Bool))(z:P.follows .mixedOrders=true)(H:LV l.toArray n d=true)(E:S w.drew)(h:Ff P l.toArray (MQ Q) S (λa w=>wpList P l.toArray (MQ Q) (l.drop n) a w) d a w.drew):(Code.region id l.toArray true).wp P Q a w:=
 Code.wp_mono (λ_ _ _ h=>A3n h) (FJ S n d z H (λ_ _ _ _ _ h=>h) E h)
end
section
open Go.RowKit
def BL(l:List UInt8):Int:=wrap64 (EK (l.take 8):Nat)
def Mg(w:World)(l:List UInt8)(d:8<=l.length/\l.length<=9223372036854775807):
 Ag 168 #[.string ⟨l.toArray⟩] w (Al (A0 (BL l)) λw'=>w=w'):=
 A0e w ⟨l.toArray⟩ d
def Mh(n:Int)(h : -9223372036854775808<=n/\n<=9223372036854775807)(r:List UInt8):BL (AQ n++r)=n:=by
 unfold BL;rw[GP (by rw[CL];omega),Er (by rw[CL];omega)];exact VJ n h
def C5(w:World)(p:Nat)(s t v:Int):Prop:=w.heap[p]?=some (.cells #[.int .i64 s,.int .i64 t,.int .i64 v] 113 (0,0))
def C5.c0{w:World}{p:Nat}{s t v:Int}(h:C5 w p s t v):A7 w p 0 (A0 s):=by unfold C5 at h;simp[A7,World.cell?,h]
def C5.c1{w:World}{p:Nat}{s t v:Int}(h:C5 w p s t v):A7 w p 1 (A0 t):=by unfold C5 at h;simp[A7,World.cell?,h]
def C5.c2{w:World}{p:Nat}{s t v:Int}(h:C5 w p s t v):A7 w p 2 (A0 v):=by unfold C5 at h;simp[A7,World.cell?,h]
def C5.fz{w:World}{p:Nat}{s t v:Int}(h:C5 w p s t v)(o:Nat):w.frozen? (Aa p o)=false:=by unfold C5 at h;simp[World.frozen?,h]
def C5.lt{w:World}{p:Nat}{s t v:Int}(h:C5 w p s t v):p<w.heap.size:=By h
def C5.aj{S:Nat->Prop}{w w':World}{p:Nat}{s t v:Int}(h:C5 w p s t v)(d:A3 S w w')(z:¬S p):C5 w' p s t v:=d.aj h z
def C5.af{w:World}{p:Nat}{s t v:Int}(h:C5 w p s t v):C5 w.drew p s t v:=by unfold C5 at h ⊢;exact h
def C5.bh{w:World}{p:Nat}{s t v:Int}(h:C5 w p s t v)(s' t' d:Int):C5 (((w.setCell (Aa p 0) (A0 s')).setCell (Aa p 1) (A0 t')).setCell (Aa p 2) (A0 d)) p s' t' d:=
 Cq (o:=2) (v:=A0 d) (Cq (o:=1) (v:=A0 t') (Cq (o:=0) (v:=A0 s') h))
def RN(w:World)(b:UInt8)(l:List UInt8)(hl:16<=l.length/\l.length<9223372036854775807):
 Ag 176 #[.string ⟨(b::l).toArray⟩] w (Al (.tuple #[.agg #[A0 b.toNat,A0 (BL l),A0 (BL (l.drop 8))],.bool (decide (b.toNat<8))]) λw'=>A3 Ab w w'):=by
 obtain⟨hl1,hl2⟩:=hl;have hb:=b.toNat_lt
 go_enter func176,ntmps176
 go_wp2;refine Hc 12 (λy=>{tmps:=#[.string ⟨(b::l).toArray⟩,undef,A5 w.heap.size,.bool false,y 11,y 0,y 1,y 2,y 3,y 4,y 5,y 6,y 7,y 8,y 9,y 10,undef,undef,undef,undef],defers:=[]}) (λ_=>undef)
  (λw'=>C5 w' w.heap.size 0 0 0/\A3 Ab w w') (A3 Ab)
  (λj x w'=>match j with
   | 0=>x=.string ⟨(b::l).toArray⟩
   | 1=>x=.int .u8 b.toNat
   | 2=>x=A0 b.toNat
   | 3=>x=.string ⟨(b::l).toArray⟩
   | 4=>x=.string ⟨l.toArray⟩
   | 5=>x=A0 (BL l)
   | 6=>x=.string ⟨(b::l).toArray⟩
   | 7=>x=.string ⟨(l.drop 8).toArray⟩
   | 8=>x=A0 (BL (l.drop 8))
   | 9=>x=.agg #[A0 (BL l),A0 (BL (l.drop 8))]
   | 10=>x=.agg #[A0 b.toNat,A0 (BL l),A0 (BL (l.drop 8))]
   | 11=>∃p,x=(A5 p)/\w.heap.size<p/\C5 w' p 0 0 0
   | _=>True)
  (by kernel_rfl) (by kernel_rfl) rfl ?_ ?_ ?_ ?_
 ·exact⟨(by show (w.heap.push _)[w.heap.size]?=_;rw[IG]),((A3.I _ _).ak _).af⟩
 ·intro j x w1 w2 hR aN O;split at O
  case h_12=>
   obtain⟨p,h1,h2,h3⟩:=O;exact⟨p,h1,h2,h3.aj hR (λh=>h)⟩
  all_goals exact O
 ·simp only[F8,ET,FG,HJ]
  repeat' (with_reducible apply And.intro)
  all_goals refine⟨?_,(by intro y L _ _ h;exact Bool.noConfusion h),λy x=>rfl⟩
  all_goals
   intro y L hS Y hw K hK;obtain⟨H,d⟩:=hS;simp[Gd,Region.binds,Fc,List.filter_cons]at Y;have e0:(ByteArray.mk (b::l).toArray)[0]'(by show 0<l.length+1;omega)=b:=rfl;have e1:(ByteArray.mk (b::l).toArray).extract 1 (l.length+1)=⟨l.toArray⟩:=by
    rw[extract_mk];simp
   have e9:(ByteArray.mk (b::l).toArray).extract 9 (l.length+1)=⟨(l.drop 8).toArray⟩:=by
    rw[extract_mk,DE,Er (by simp)]
   (have g1:(1:Int)<=(l.length:Int)+1:=by omega);(have g9:(9:Int)<=(l.length:Int)+1:=by omega);(have ew:IntKind.i64.wrap (b.toNat:Int)=b.toNat:=by simp[IntKind.wrap,IntKind.bits,IntKind.signed];omega);have E:=A1 H;have I:=A1 d;have aD:=A1 hK
  all_goals dsimp only
  all_goals try go_simp
  all_goals try with_reducible exact aD.o _ _ _ rfl (by simp[Act.put,Y]) (A3.I _ _) ⟨E.o,I.o⟩
  all_goals try
   (have hd4:y 4=.string ⟨l.toArray⟩:=by with_reducible exact Y);refine(Mg L l (by omega)).mono ?_;rintro e w2⟨rfl,rfl⟩;exact aD.o _ _ _ rfl (by simp[Act.put,Y]) (A3.I _ _) ⟨E.o,I.o⟩
  all_goals try
   (have hd7:y 7=.string ⟨(l.drop 8).toArray⟩:=by with_reducible exact Y.1);refine(Mg L (l.drop 8) (by rw[Cu];omega)).mono ?_;rintro e w2⟨rfl,rfl⟩;exact aD.o _ _ _ rfl (by simp[Act.put,Y]) (A3.I _ _) ⟨E.o,I.o⟩
  ·refine aD.o _ _ _ ⟨L.heap.size,rfl,?_,BN L _⟩ (by simp[Act.put]) ((A3.I _ _).ak _) ⟨E.o.aj ((A3.I Ab _).ak _) (λh=>h),I.o.ak _⟩;exact E.o.lt
 ·intro y L hS O;obtain⟨H,d⟩:=hS;have h10:y 10=.agg #[A0 b.toNat,A0 (BL l),A0 (BL (l.drop 8))]:=O 10 (by omega);obtain⟨p,h11,aF,hp⟩:∃p,y 11=(A5 p)/\w.heap.size<p/\C5 L p 0 0 0:=O 11 (by omega);have c0:=hp.c0;have c1:=hp.c1;have c2:=hp.c2;have f0:=hp.fz 0;have f1:=hp.fz 1;have f2:=hp.fz 2;have h3:=hp.bh b.toNat (BL l) (BL (l.drop 8));have cr:A3 (One p) L (((L.setCell (Aa p 0) (A0 b.toNat)).setCell (Aa p 1) (A0 (BL l))).setCell (Aa p 2) (A0 (BL (l.drop 8)))):=(((A3.I (One p) L).ao rfl _ _).ao rfl _ _).ao rfl _ _;have aB:=A1 h3;have aA:=A1 (H.aj cr (λh=>by have h':w.heap.size=p:=h;omega));have aK:Hid (A3 Ab w (((L.setCell (Aa p 0) (A0 b.toNat)).setCell (Aa p 1) (A0 (BL l))).setCell (Aa p 2) (A0 (BL (l.drop 8))))):=d.Ap cr (λk hk hlt2=>by have h':k=p:=hk;omega);have aO:Hid (w.heap.size<p):=aF;go_wp2;generalize (((L.setCell (Aa p 0) (A0 b.toNat)).setCell (Aa p 1) (A0 (BL l))).setCell (Aa p 2) (A0 (BL (l.drop 8))))=w3 at aB aA aK ⊢;obtain⟨W,aI⟩:∃W,BL l=W:=⟨_,rfl⟩;obtain⟨X,aG⟩:∃X,BL (l.drop 8)=X:=⟨_,rfl⟩;rw[aI,aG]at aB ⊢;have aJ:Hid (((b.toNat:Int)<8)=(b.toNat<8)):=by unfold Hid;simp;omega
  obtain⟨n,hn⟩:∃n:Nat,b.toNat=n:=⟨_,rfl⟩;have aE:Hid (b.toNat=n/\BL l=W/\BL (l.drop 8)=X):=⟨hn,aI,aG⟩;rw[hn]at aB aJ ⊢;have q0:=aB.o.c0;have q1:=aB.o.c1;have q2:=aB.o.c2;have r0:=aA.o.c0;have r1:=aA.o.c1;have r2:=aA.o.c2;have z0:=aA.o.fz 0;have z1:=aA.o.fz 1;have z2:=aA.o.fz 2;go_wp2;refine Hc 5 (λz=>{tmps:=#[.string ⟨(b::l).toArray⟩,undef,A5 w.heap.size,.bool false,A5 p,y 0,y 1,y 2,y 3,y 4,y 5,y 6,y 7,y 8,y 9,.agg #[A0 n,A0 W,A0 X],z 0,z 1,z 2,z 3],defers:=[]}) (λ_=>undef)
   (λw'=>C5 w' p n W X/\(∃a b c,C5 w' w.heap.size a b c)/\A3 Ab w w') (λw1 w2=>C5 w1 w.heap.size n W X->C5 w2 w.heap.size n W X)
   (λj x w'=>match j with
    | 0=>x=.agg #[A0 n,A0 W,A0 X]
    | 1=>x=(A5 p)
    | 2=>x=A0 n
    | 3=>x=.bool (decide ((n:Int)<8))
    | 4=>C5 w' w.heap.size n W X
    | _=>True)
   (by kernel_rfl) (by kernel_rfl) rfl ?_ ?_ ?_ ?_
  ·exact⟨aB.o.af,⟨_,_,_,aA.o.af⟩,aK.o.af⟩
  ·intro j x w1 w2 hR aN O;split at O
   case h_5=>exact hR O
   all_goals exact O
  ·clear aB aA aK;simp only[F8,ET,FG,HJ]
   repeat' (with_reducible apply And.intro)
   all_goals refine⟨?_,(by intro y L _ _ h;exact Bool.noConfusion h),λy x=>rfl⟩
   all_goals
    intro z wz hS Y hw K hK;obtain⟨H,⟨a1,a2,a3,d⟩,aL⟩:=hS;simp[Gd,Region.binds,Fc,List.filter_cons]at Y;have q0:=H.c0;have q1:=H.c1;have q2:=H.c2;have r0:=d.c0;have r1:=d.c1;have r2:=d.c2;have z0:=d.fz 0;have z1:=d.fz 1;have z2:=d.fz 2;have E:=A1 H;have I:=A1 d;have aH:=A1 aL;have aD:=A1 hK
   all_goals dsimp only
   all_goals try go_simp
   all_goals try with_reducible exact aD.o _ _ _ rfl (by simp[Act.put,Y]) (λh=>h) ⟨E.o,⟨_,_,_,I.o⟩,aH.o⟩
   have st:=I.o.bh n W X;have cr:A3 (One w.heap.size) wz (((wz.setCell (Aa w.heap.size 0) (A0 n)).setCell (Aa w.heap.size 1) (A0 W)).setCell (Aa w.heap.size 2) (A0 X)):=(((A3.I (One w.heap.size) wz).ao rfl _ _).ao rfl _ _).ao rfl _ _;refine aD.o undef _ _ st (by simp[Act.put,Y]) (λ_=>st) ⟨E.o.aj cr (λh=>by have h':p=w.heap.size:=h;have:=aO.o;omega),⟨_,_,_,st⟩,aH.o.Ap cr (λk hk aF=>by have h':k=w.heap.size:=hk;omega)⟩
  ·intro z wz hS O;have h3:z 3=.bool (decide ((n:Int)<8)):=O 3 (by omega);have h4:C5 wz w.heap.size n W X:=O 4 (by omega);have r0:=h4.c0;have r1:=h4.c1;have r2:=h4.c2;have aP:=A1 hS.2.2;have aM:decide ((n:Int)<8)=decide (n<8):=by
    by_cases h:n<8
    ·rw[CH h,CH (by omega)]
    ·rw[CZ h,CZ (by omega)]
   rw[aM]at h3;go_wp2;refine ME (v:=.tuple #[.agg #[A0 n,A0 W,A0 X],.bool (decide (n<8))]) (by simp[results,Tryz.results176,go_sem,r0,r1,r2]) rfl ?_;exact⟨by rw[aE.o.1,aE.o.2.1,aE.o.2.2],aP.o⟩
def UM(w:World)(s:Nat)(l:List UInt8)(h:s<4294967296)(d:l.length<=9223372036854775807):
 Ag 165 #[.int .u32 s,.string ⟨l.toArray⟩] w (Al (.int .u32 (AT s l)) λw'=>w=w'):=
 A3e w s ⟨l.toArray⟩ h d
def Bd(w:World)(d:Nat)(T:TypeId)(p:Value)(name:ByteArray)(s:Nat):Prop:=w.heap[d]?=some (.cells #[p,.string name,.int .u32 s] T (0,0))
def Bd.c0{w:World}{d:Nat}{T:TypeId}{p:Value}{name:ByteArray}{s:Nat}(h:Bd w d T p name s):A7 w d 0 p:=by unfold Bd at h;simp[A7,World.cell?,h]
def Bd.c1{w:World}{d:Nat}{T:TypeId}{p:Value}{name:ByteArray}{s:Nat}(h:Bd w d T p name s):A7 w d 1 (.string name):=by unfold Bd at h;simp[A7,World.cell?,h]
def Bd.c2{w:World}{d:Nat}{T:TypeId}{p:Value}{name:ByteArray}{s:Nat}(h:Bd w d T p name s):A7 w d 2 (.int .u32 s):=by unfold Bd at h;simp[A7,World.cell?,h]
def Bd.fz{w:World}{d:Nat}{T:TypeId}{p:Value}{name:ByteArray}{s:Nat}(h:Bd w d T p name s)(o:Nat):w.frozen? (Aa d o)=false:=by unfold Bd at h;simp[World.frozen?,h]
def Bd.lt{w:World}{d:Nat}{T:TypeId}{p:Value}{name:ByteArray}{s:Nat}(h:Bd w d T p name s):d<w.heap.size:=By h
def Bd.s2{w:World}{d:Nat}{T:TypeId}{p:Value}{name:ByteArray}{s:Nat}(h:Bd w d T p name s)(s':Nat):Bd (w.setCell (Aa d 2) (.int .u32 s')) d T p name s':=Cq h
def Bd.aj{S:Nat->Prop}{w w':World}{d:Nat}{T:TypeId}{p:Value}{name:ByteArray}{s:Nat}(h:Bd w d T p name s)(z:A3 S w w')(E:¬S d):Bd w' d T p name s:=z.aj h E
def R0(w:World)(z:Nat)(T:TypeId)(p:Value)(name:ByteArray)(s:Nat)(l:List UInt8)(h:Bd w z T p name s)(L:s<4294967296)(hl:l.length<=9223372036854775803):
 Ag 214 #[A5 z,.string ⟨l.toArray⟩] w (Al (.string ⟨(l++Ca (AT s l)).toArray⟩) λw'=>Bd w' z T p name (AT s l)/\A3 (One z) w w'):=by
 have c2:=h.c2;have fz:=h.fz 2;have I:=h.s2 (AT s l);have E:=Ju s l L;obtain⟨s1,d⟩:∃s1,AT s l=s1:=⟨_,rfl⟩;have X:=A1 d;rw[d]at I E ⊢;have c3:=I.c2;have W:A3 (One z) w (w.sC z 2 (.int .u32 s1)):=(A3.I _ w).ao (show One z z from rfl) 2 _;have ap:=K7 l (Ca s1);have hsb:=Hd s1;have aA:=A1 I;have Y:=A1 W;have H:l.length<=9223372036854775807:=by omega
 go_enter func214,ntmps214
 go_wp2_with (first|(go_at_call 165;refine(UM _ _ _ L H).mono ?_;rintro e w'⟨rfl,rfl⟩;rw[X.o])|(go_at_call 250;refine(WA _ _ E).mono ?_;rintro e w'⟨rfl,O⟩));go_ret;exact⟨rfl,aA.o.aj O (by simp),Y.o.Ap O (by simp)⟩
def Nv(w:World)(L:Nat)(T:TypeId)(p:Value)(name:ByteArray)(s:Nat)(l t:List UInt8)(h:Bd w L T p name s)(hs:s<4294967296)(ht:t.length=4)(hl:l.length<=9223372036854775803):
 Ag 167 #[A5 L,.string ⟨(l++t).toArray⟩] w (Al (.tuple #[.string ⟨l.toArray⟩,.bool (decide (Ca (AT s l)=t))]) λw'=>Bd w' L T p name (AT s l)/\A3 (One L) w w'):=by
 have d:(l++Ca (AT s l)==l++t)=decide (Ca (AT s l)=t):=by
  by_cases z:Ca (AT s l)=t
  ·rw[CH z,z];exact Ur _
  ·rw[CZ z];exact GA.2 λh=>z (Vs h)
 generalize hbb:decide (Ca (AT s l)=t)=bb at d ⊢;have O:=A1 d;have hlt0:((ByteArray.mk (l++t).toArray).size:Int)=(l.length:Int)+4:=by show (((l++t).length:Nat):Int)=_;simp[ht]
 have hn4:¬((l.length:Int)+4<4):=by omega
 go_enter func167,ntmps167
 go_wp2;refine Hc 11 (λy=>{tmps:=#[A5 L,.string ⟨(l++t).toArray⟩,undef,undef,.string ⟨#[]⟩,.bool false,y 10,undef,.string ⟨(l++t).toArray⟩,A0 ((l.length:Int)+4),.bool false,y 0,y 1,y 2,y 3,y 4,y 5,y 6,y 7,y 8,y 9,undef,undef,undef,undef,undef,undef,undef,undef],defers:=[]}) (λ_=>undef)
  (λw'=>Bd w' L T p name s/\A3 Ab w w') (A3 Ab)
  (λj x w'=>match j with
   | 0=>x=.string ⟨(l++t).toArray⟩
   | 1=>x=.string ⟨(l++t).toArray⟩
   | 2=>x=A0 ((l.length:Int)+4)
   | 3=>x=A0 l.length
   | 4=>x=.string ⟨l.toArray⟩
   | 5=>x=.string ⟨(l++t).toArray⟩
   | 6=>x=.string ⟨(l++t).toArray⟩
   | 7=>x=A0 ((l.length:Int)+4)
   | 8=>x=A0 l.length
   | 9=>x=.string ⟨t.toArray⟩
   | 10=>x=.string ⟨l.toArray⟩
   | _=>True)
  (by kernel_rfl) (by kernel_rfl) rfl ?_ ?_ ?_ ?_
 ·exact⟨h,(A3.I _ _).af⟩
 ·intro j x w1 w2 hR hS' W;split at W<;>exact W
 ·simp only[F8,ET,FG,HJ]
  repeat' (with_reducible apply And.intro)
  all_goals refine⟨?_,(by intro y Y _ _ h;exact Bool.noConfusion h),λy x=>rfl⟩
  all_goals
   intro y Y hS hd hw K hK;obtain⟨H,I⟩:=hS;simp[Gd,Region.binds,Fc,List.filter_cons]at hd;have e1:(ByteArray.mk (l++t).toArray).extract 0 l.length=⟨l.toArray⟩:=by
    rw[extract_mk];simp
   have e9:(ByteArray.mk (l++t).toArray).extract l.length (l.length+4)=⟨t.toArray⟩:=by
    rw[extract_mk,Vp,show l.length+4-l.length=t.length by omega,C6]
   (have g1:(l.length:Int)<=(l.length:Int)+4:=by omega);(have ew:IntKind.i64.wrap (l.length:Int)=l.length:=by simp[IntKind.wrap,IntKind.bits,IntKind.signed];omega);have X:=A1 H;have E:=A1 I;have aD:=A1 hK
  all_goals dsimp only
  all_goals try go_simp
  all_goals try with_reducible exact aD.o _ _ _ rfl (by simp[Act.put,hd]) (A3.I _ _) ⟨X.o,E.o⟩
 ·intro y Y hS W;obtain⟨H,I⟩:=hS;have h10:y 10=.string ⟨l.toArray⟩:=W 10 (by omega);have h9:y 9=.string ⟨t.toArray⟩:=W 9 (by omega);have hk:=H;have E:=A1 I;have ap:=K7 l t;have hq:=O.o;have aE:=A1 (R0 Y L T p name s l hk hs hl);have hlt:(ByteArray.mk (l++t).toArray).size=l.length+4:=by show (l++t).length=_;simp[ht]
  go_wp2_with (go_at_call 214;refine aE.m ?_;rintro e w'⟨rfl,hb,hc⟩;have aA:=A1 hb;have aB:=A1 hc);go_ret2;exact⟨rfl,aA.o,E.o.aa (λ_ _ h=>h.elim) |>.tr aB.o⟩
def W2(w:World)(z:Nat)(l:List UInt8)(hl:l.length<4):
 Ag 167 #[A5 z,.string ⟨l.toArray⟩] w (Al (.tuple #[.string ⟨#[]⟩,.bool false]) λw'=>w=w'):=by
 have h:(ByteArray.mk l.toArray).size=l.length:=by show l.toArray.size=_;simp
 have d:((ByteArray.mk l.toArray).size:Int)<4:=by rw[h];omega
 generalize htx:ByteArray.mk l.toArray=tx at d ⊢
 go_enter func167,ntmps167
 go_wp2;go_ret2;exact⟨rfl,rfl⟩
structure DS where
 A4:List AL
 AO:List AL
 Av:List (List AL)
 n:DN
abbrev FC:=List UInt8×Int
def Df(f:Nat)(es:List AL):Prop:=∃e∈es,e.2=f
def DS.Au(D:DS)(f:Nat):Prop:=Df f D.A4\/Df f D.AO\/∃c∈D.Av,Df f c
structure BY (w:World) (b:Nat) (D:DS) (F:Nat->FC) (vd vs vc:Value) (aA:List Value) (VB:Nat->Value):Prop where
 Af:AK w b vd vs vc D.n
 A4:D2 w vd D.A4
 AO:D2 w vs D.AO
 Aj:w.ownsRow 0 120 1 vc D.Av.length aA
 D8:∀i (h:i<D.Av.length),∃v,aA[i]?=some v/\D2 w v (D.Av[i]'h)
 BM:∀f,D.Au f->CY w f (VB f) (F f).2/\FI w (VB f) (F f).1
 Gc:∀f f' g,D.Au f->D.Au f'->(VB f).ownBlock=some g->(VB f').ownBlock=some g->f=f'
def C7(b:Nat)(D:DS)(vd vs vc:Value)(aA:List Value)(VB:Nat->Value)(k:Nat):Prop:=
 k=b\/vd.ownBlock=some k\/vs.ownBlock=some k\/vc.ownBlock=some k\/(∃v∈aA,v.ownBlock=some k)\/D.Au k\/∃f,D.Au f/\(VB f).ownBlock=some k
section
variable {b:Nat} {D:DS} {vd vs vc:Value} {aA:List Value} {VB:Nat->Value}
def C7.Af:C7 b D vd vs vc aA VB b:=.inl rfl
def C7.A4{k:Nat}(h:vd.ownBlock=some k):C7 b D vd vs vc aA VB k:=.inr (.inl h)
def C7.AO{k:Nat}(h:vs.ownBlock=some k):C7 b D vd vs vc aA VB k:=.inr (.inr (.inl h))
def C7.Aj{k:Nat}(h:vc.ownBlock=some k):C7 b D vd vs vc aA VB k:=.inr (.inr (.inr (.inl h)))
def C7.D8{k:Nat}{v:Value}(d:v∈aA)(h:v.ownBlock=some k):C7 b D vd vs vc aA VB k:=.inr (.inr (.inr (.inr (.inl ⟨v,d,h⟩))))
def C7.BM{f:Nat}(h:D.Au f):C7 b D vd vs vc aA VB f:=.inr (.inr (.inr (.inr (.inr (.inl h)))))
def C7.bB{f k:Nat}(d:D.Au f)(h:(VB f).ownBlock=some k):C7 b D vd vs vc aA VB k:=.inr (.inr (.inr (.inr (.inr (.inr ⟨f,d,h⟩)))))
def C7.bL{d:(k:Nat)->C7 b D vd vs vc aA VB k->Prop}(Af:d b .Af)(dir:∀ {k} (e:vd.ownBlock=some k),d k (.A4 e))(Ac:∀ {k} (e:vs.ownBlock=some k),d k (.AO e))(Aj:∀ {k} (e:vc.ownBlock=some k),d k (.Aj e))(D8:∀ {k v} (E:v∈aA) (e:v.ownBlock=some k),d k (.D8 E e))(BM:∀ {f} (h:D.Au f),d f (.BM h))(byt:∀ {f k} (z:D.Au f) (e:(VB f).ownBlock=some k),d k (.bB z e)){k:Nat}(t:C7 b D vd vs vc aA VB k):d k t:=by
 rcases t with rfl|e|e|e|⟨v,E,e⟩|h|⟨f,z,e⟩
 ·exact Af
 ·exact dir e
 ·exact Ac e
 ·exact Aj e
 ·exact D8 E e
 ·exact BM h
 ·exact byt z e
end
def Da(w:World)(b:Nat)(D:DS)(F:Nat->FC)(Ft:Nat->Prop):Prop:=
 ∃vd vs vc aA VB,BY w b D F vd vs vc aA VB/\∀k,C7 b D vd vs vc aA VB k->Ft k
section
variable {w w':World} {b:Nat} {D:DS} {F:Nat->FC} {vd vs vc:Value} {aA:List Value} {VB:Nat->Value}
def BY.dz(h:BY w b D F vd vs vc aA VB):aA.length=D.Av.length:=by have:=h.Aj.1;omega
def BY.lt(h:BY w b D F vd vs vc aA VB){k:Nat}(E:C7 b D vd vs vc aA VB k):k<w.heap.size:=by
 cases E using C7.bL with
 | Af=>exact By h.Af
 | dir e=>exact AB h.A4 e
 | Ac e=>exact AB h.AO e
 | Aj e=>exact AB h.Aj e
 | D8 hv e=>
  obtain⟨i,z⟩:=List.getElem?_of_mem hv;have H:i<D.Av.length:=by rw[<-h.dz];exact(Hr.1 z).1
  obtain⟨v',d,I⟩:=h.D8 i H;rw[z]at d;cases d;exact AB I e
 | BM hf=>exact By (h.BM _ hf).1
 | byt hf e=>exact AB (h.BM _ hf).2 e
def BY.aP(h:BY w b D F vd vs vc aA VB)(z:FW (C7 b D vd vs vc aA VB) w w'):BY w' b D F vd vs vc aA VB:=by
 refine⟨?_,?_,?_,?_,?_,?_,h.Gc⟩
 ·have:=h.Af;unfold AK at this ⊢;rw[z b .Af];exact this
 ·exact Ay h.A4 λg d=>z g (.A4 d)
 ·exact Ay h.AO λg d=>z g (.AO d)
 ·exact Ay h.Aj λg d=>z g (.Aj d)
 ·intro i L;obtain⟨v,E,I⟩:=h.D8 i L;exact⟨v,E,Ay I λg d=>z g (.D8 (Lv E) d)⟩
 ·intro f H;obtain⟨E,I⟩:=h.BM f H;refine⟨?_,Ay I λg d=>z g (.bB H d)⟩;unfold CY at E ⊢;rw[z f (.BM H)];exact E
def Da.aP{Ft:Nat->Prop}(h:Da w b D F Ft)(E:FW Ft w w'):Da w' b D F Ft:=by
 obtain⟨vd,vs,vc,aA,VB,z,d⟩:=h;exact⟨vd,vs,vc,aA,VB,z.aP (E.aa d),d⟩
def BS{w:World}{g k:Nat}{c I:Array Value}{e E:Nat}(h:w.heap[g]?=some (.cells c e (0,0)))(z:w.heap[k]?=some (.cells I E (0,0)))(d:e≠E):g≠k:=by
 intro H;subst H;rw[h]at z;cases z;exact d rfl
def BY.ag(h:BY w b D F vd vs vc aA VB){n:DN}(L:AK w' b vd vs vc n)(Y:A3 (One b) w w'):BY w' b {D with n:=n} F vd vs vc aA VB:=by
 have z:∀(k:Nat) (c:Array Value) (e:Nat),w.heap[k]?=some (Obj.cells c e (0,0))->e≠95->w'.heap[k]?=w.heap[k]?:=λk c e z X=>
  Y.Ao k (By z) (BS z h.Af X)
 refine⟨L,?_,?_,?_,?_,?_,h.Gc⟩
 ·exact Ay h.A4 λg d=>by obtain⟨c,E⟩:=Be h.A4 d;exact z g _ _ E (by decide)
 ·exact Ay h.AO λg d=>by obtain⟨c,E⟩:=Be h.AO d;exact z g _ _ E (by decide)
 ·exact Ay h.Aj λg d=>by obtain⟨c,E⟩:=Be h.Aj d;exact z g _ _ E (by decide)
 ·intro i W;obtain⟨v,I,H⟩:=h.D8 i W;exact⟨v,I,Ay H λg d=>by obtain⟨c,E⟩:=Be H d;exact z g _ _ E (by decide)⟩
 ·intro f O;obtain⟨I,H⟩:=h.BM f O;refine⟨?_,Ay H λg d=>by obtain⟨c,E⟩:=Be H d;exact z g _ _ E (by decide)⟩;unfold CY at I ⊢;rw[z f _ _ I (by decide)];exact I
end
def lookup:List AL->ByteArray->Option Nat
 | [],_=>none
 | e::r,name=>if e.1=name then some e.2 else lookup r name
def J1(es:List AL)(name:ByteArray):(B2 es name = -1/\lookup es name=none)\/∃k,∃d:k<es.length,B2 es name=(k:Int)/\lookup es name=some (es[k]'d).2/\(es[k]'d).1=name:=by
 induction es with
 | nil=>exact .inl ⟨rfl,rfl⟩
 | cons e r ih=>
  by_cases h:e.1=name
  ·exact .inr ⟨0,by simp,by simp[B2,h],by simp[lookup,h],by simpa using h⟩
  ·rcases ih with⟨E,z⟩|⟨k,d,E,z,H⟩
   ·exact .inl ⟨by simp[B2,h,E],by simp[lookup,h,z]⟩
   ·exact .inr ⟨k+1,by simpa using d,by simp only[B2,h,C4,E];rw[Ad (by omega)];omega,by simp[lookup,h,z],by simpa using H⟩
def BY.cp{w:World}{b:Nat}{D:DS}{F:Nat->FC}{vd vs vc:Value}{aA:List Value}{VB:Nat->Value}(h:BY w b D F vd vs vc aA VB)(k:Nat)(d:k<D.A4.length):
 CY w (D.A4[k]'d).2 (VB (D.A4[k]'d).2) (F (D.A4[k]'d).2).2/\FI w (VB (D.A4[k]'d).2) (F (D.A4[k]'d).2).1:=h.BM _ (.inl ⟨_,BV d,rfl⟩)
def FI.Ce{w:World}{v:Value}{bs:List UInt8}(h:FI w v bs):∃a cap,v=.slice a bs.length cap/\bs.length<=cap/\cap<=maxLen:=by
 obtain⟨a,cap,z,d,E,_⟩:=B8 h;exact⟨a,cap,z,d,E⟩
def Dq(w:World)(Ft:Nat->Prop)(w':World)(b:Nat)(D':DS)(F':Nat->FC):Prop:=
 A3 Ft w w'/\∃d,Da w' b D' F' d/\(∀k,d k->k<w'.heap.size)/\∀k,d k->Ft k\/w.heap.size<=k
def Dq.bx{w w':World}{Ft:Nat->Prop}{b:Nat}{D':DS}{F':Nat->FC}{vd vs vc:Value}{aA:List Value}{VB:Nat->Value}(E:A3 Ft w w')(h:BY w' b D' F' vd vs vc aA VB)(z:∀k,C7 b D' vd vs vc aA VB k->Ft k\/w.heap.size<=k):Dq w Ft w' b D' F':=
 ⟨E,_,⟨vd,vs,vc,aA,VB,h,λ_ d=>d⟩,λ_ d=>h.lt d,z⟩
def BY.cx{w w':World}{b:Nat}{D:DS}{F F':Nat->FC}{vd vs vc vl aB:Value}{aA:List Value}{VB VB':Nat->Value}{n:DN}{es:List AL}{S:Nat->Prop}(h:BY w b D F vd vs vc aA VB)(hb:AK w' b vl vs aB n)(aF:w'.ownsRow 0 120 1 aB (D.Av.length+1) (aA++[vl]))(aD:D2 w' vl es)(hc:A3 S w w')(hS:∀k,S k->k=b\/vc.ownBlock=some k)(hF:∀f,D.Au f->F' f=F f/\VB' f=VB f)(O:∀f,Df f es->D.Au f\/(CY w' f (VB' f) (F' f).2/\FI w' (VB' f) (F' f).1/\(VB' f).ownBlock=none)):
 BY w' b {D with A4:=es,Av:=D.Av++[es],n:=n} F' vl vs aB (aA++[vl]) VB':=by
 have I:∀(k:Nat) (c:Array Value) (e:Nat),w.heap[k]?=some (Obj.cells c e (0,0))->e≠95->e≠120->w'.heap[k]?=w.heap[k]?:=λk c e I he aG=>
  hc.Ao k (By I) (λhs=>by
   rcases hS k hs with hs|hs
   ·exact BS I h.Af he hs
   ·obtain⟨c',hh⟩:=Be h.Aj hs
    exact BS I hh aG rfl)
 have H:∀f,({D with A4:=es,Av:=D.Av++[es],n:=n}:DS).Au f->D.Au f\/Df f es:=by
  rintro f (d|d|⟨c,z,d⟩)
  ·exact .inr d
  ·exact .inl (.inr (.inl d))
  ·rcases AU.1 z with z|z
   ·exact .inl (.inr (.inr ⟨c,z,d⟩))
   ·simp at z;subst z;exact .inr d
 have L:∀f,D.Au f->CY w' f (VB' f) (F' f).2/\FI w' (VB' f) (F' f).1:=by
  intro f d;obtain⟨h1,X⟩:=h.BM f d;rw[(hF f d).1,(hF f d).2];refine⟨?_,Ay X λg E=>by obtain⟨c,hh⟩:=Be X E;exact I g _ _ hh (by decide) (by decide)⟩;unfold CY at h1 ⊢;rw[I f _ _ h1 (by decide) (by decide)];exact h1
 refine⟨hb,aD,?_,?_,?_,?_,?_⟩
 ·exact Ay h.AO λg E=>by obtain⟨c,hh⟩:=Be h.AO E;exact I g _ _ hh (by decide) (by decide)
 ·simpa using aF
 ·intro i hi;by_cases W:i<D.Av.length
  ·obtain⟨v,h1,X⟩:=h.D8 i W;refine⟨v,by rw[IE (by rw[h.dz];exact W)];exact h1,?_⟩;simp only[Fa W];(exact Ay X λg E=>by obtain⟨c,hh⟩:=Be X E;exact I g _ _ hh (by decide) (by decide))
  ·(obtain rfl:i=D.Av.length:=by simp at hi;omega);refine⟨vl,by rw[<-h.dz];simp,?_⟩;simpa using aD
 ·intro f d;rcases H f d with d|d
  ·exact L f d
  ·rcases O f d with d|⟨h1,X,_⟩
   ·exact L f d
   ·exact⟨h1,X⟩
 ·intro f f' g d aE E Y;have key:∀f,({D with A4:=es,Av:=D.Av++[es],n:=n}:DS).Au f->(VB' f).ownBlock=some g->D.Au f:=by
   intro f d E;rcases H f d with d|d
   ·exact d
   ·rcases O f d with d|⟨_,_,h3⟩
    ·exact d
    ·rw[h3]at E;cases E
  have k1:=key f d E;have k2:=key f' aE Y;rw[(hF f k1).2]at E;rw[(hF f' k2).2]at Y;exact h.Gc f f' g k1 k2 E Y
end
section
open Go.RowKit
attribute [local go_sem ↓] Go.wp_at_zero Go.wp_at_succ
def Du(w:World)(v:Value)(es:List AL)(name:ByteArray)(h:D2 w v es):
 Ag 77 #[v,.string name] w (Al (A0 (B2 es name)) λw'=>w=w'):=by
 obtain⟨a,cap,rfl,hc1,Y,z⟩:=h.Ce;unfold maxLen at Y
 go_enter func77,ntmps77
 go_wp2;go_loop [5,8] (λj i=>∃k:Nat,k<=es.length/\i=A0 k/\Hid (∀m (O:m<k) (W:m<es.length),(es[m]'W).1≠name)) (λ_ i=>es.length-(intOf i).toNat)
 case atStart=>exact⟨0,Cf _,rfl,λm O=>absurd O (by omega)⟩
 case round=>
  obtain⟨k,hk,rfl,I⟩:=hrel;by_cases L:k<es.length
  ·obtain⟨g,rfl,hn,hp⟩:=z k L;by_cases H:(es[k]'L).1=name
   ·have ht:=(Ph _ _).2 H;have hf:=Hid.o I;have d:=A0V es name k L H (λm O=>hf m O (by omega));have E:=A1 <| d;clear d;go_wp2;go_ret;exact⟨by rw[E.o];rfl,rfl⟩
   ·have ht:=(Ul _ _).2 H;have X:=A1 <| H;go_wp2;go_round
    case rel=>exact⟨k+1,by omega,by go_num,λm O W=>by rcases F7 m k with h|h;exact I m h W;(obtain rfl:m=k:=(by omega));exact X.o⟩
    case measure=>simp[intOf];omega
  ·have d:=A0T es name (λm O=>Hid.o I m (by omega) O);have E:=A1 <| d;clear d z;go_wp2;go_ret;exact⟨by rw[E.o];rfl,rfl⟩
def bg(n:DN):Bool×Int×DN:=
 let c:=wrap64 (n.AZ+1)
 if n.AX then (false,5,{n with AZ:=c,Bt:=wrap64 (n.Bt+1)})
 else if c=n.Cb then (true,5,{n with AZ:=c,Bt:=wrap64 (n.Bt+1),AX:=true})
 else if c=n.Cr then (false,5,{n with AZ:=c,Bt:=wrap64 (n.Bt+1)})
 else (true,0,{n with AZ:=c})
def GM(w:World)(b:Nat)(vd O vc:Value)(n:DN)(h:AK w b vd O vc n):
 Ag 121 #[A5 b] w (Al (.tuple #[.bool (bg n).1,A0 (bg n).2.1]) λw'=>AK w' b vd O vc (bg n).2.2/\A3 (One b) w w'):=by
 have h4:=h.c4;have h5:=h.c5;have h6:=h.c6;have h8:=h.c8;have h10:=h.bY;have hf:=h.fz;have e1:=(h.s4 (wrap64 (n.AZ+1)));have X:=e1.s8 (wrap64 (n.Bt+1));have e3:=X.ep true;have aA:=(A3.I (One b) w).ao rfl 4 (A0 (wrap64 (n.AZ+1)));have I:=aA.ao rfl 8 (A0 (wrap64 (n.Bt+1)));have aF:=I.ao rfl 10 (.bool true);have aG:=A1 e1;have W:=A1 X;have aD:=A1 e3;have aB:=A1 aA;have L:=A1 I;have aE:=A1 aF;by_cases H:n.AX=true
 ·have q:Hid (bg n=(false,5,{n with AZ:=wrap64 (n.AZ+1),Bt:=wrap64 (n.Bt+1)})):=by unfold Hid;simp[bg,H]
  go_enter func121,ntmps121
  go_wp2;go_ret2;rw[q.o];exact⟨rfl,W.o,L.o⟩
 ·have d:n.AX=false:=by simpa using H
  by_cases hc:(wrap64 (n.AZ+1)==n.Cb)=true
  ·(have q:Hid (bg n=(true,5,{n with AZ:=wrap64 (n.AZ+1),Bt:=wrap64 (n.Bt+1),AX:=true})):=by unfold Hid;simp[bg,d,eq_of_beq hc])
   go_enter func121,ntmps121
   go_wp2;go_region_held3 (λw'=>w'.cell? ⟨b,4,none⟩=some (A0 (wrap64 (n.AZ+1)))/\w'.cell? ⟨b,5,none⟩=some (A0 n.Cb)) (refine⟨?_,?_⟩<;>go_simp) (fail);go_wp2;go_ret2;rw[q.o];exact⟨rfl,aD.o,aE.o.af⟩
  ·(have z:(wrap64 (n.AZ+1)==n.Cb)=false:=by simpa using hc);by_cases Y:(wrap64 (n.AZ+1)==n.Cr)=true
   ·have q:Hid (bg n=(false,5,{n with AZ:=wrap64 (n.AZ+1),Bt:=wrap64 (n.Bt+1)})):=by
     have:=SD z;unfold Hid bg;dsimp only;rw[Ad (by rw[d];decide),Ad this,Ah (eq_of_beq Y)]
    go_enter func121,ntmps121
    go_wp2;go_region_held3 (λw'=>w'.cell? ⟨b,4,none⟩=some (A0 (wrap64 (n.AZ+1)))/\w'.cell? ⟨b,5,none⟩=some (A0 n.Cb)) (refine⟨?_,?_⟩<;>go_simp) (fail);go_wp2;go_region_held3 (λw'=>w'.cell? ⟨b,4,none⟩=some (A0 (wrap64 (n.AZ+1)))/\w'.cell? ⟨b,6,none⟩=some (A0 n.Cr)) (refine⟨?_,?_⟩<;>go_simp) (fail);go_wp2;go_ret2;rw[q.o];exact⟨rfl,W.o,L.o.af.af⟩
   ·(have E:(wrap64 (n.AZ+1)==n.Cr)=false:=by simpa using Y);have q:Hid (bg n=(true,0,{n with AZ:=wrap64 (n.AZ+1)})):=by
     have:=SD z;have h2:=SD E;unfold Hid bg;dsimp only;rw[Ad (by rw[d];decide),Ad this,Ad h2]
    go_enter func121,ntmps121
    go_wp2;go_region_held3 (λw'=>w'.cell? ⟨b,4,none⟩=some (A0 (wrap64 (n.AZ+1)))/\w'.cell? ⟨b,5,none⟩=some (A0 n.Cb)) (refine⟨?_,?_⟩<;>go_simp) (fail);go_wp2;go_region_held3 (λw'=>w'.cell? ⟨b,4,none⟩=some (A0 (wrap64 (n.AZ+1)))/\w'.cell? ⟨b,6,none⟩=some (A0 n.Cr)) (refine⟨?_,?_⟩<;>go_simp) (fail);go_wp2;go_ret2;rw[q.o];exact⟨rfl,aG.o,aB.o.af.af⟩
def Tryz.cV:(Tryz.prog.info? 125).map (λi=>(i.zero,i.size,i.bytes))=some (some (.agg #[.string ByteArray.empty,.pointer none]),2,24):=by kernel_rfl
def Tryz.ed:(Tryz.prog.info? 120).map (λi=>(i.zero,i.size,i.bytes))=some (some (.agg #[.slice none 0 0]),1,24):=by kernel_rfl
def Tryz.infoByte:(Tryz.prog.info? 5).map (λi=>(i.zero,i.size,i.bytes))=some (some (.int .u8 0),1,1):=by kernel_rfl
def Tryz.eU:(Tryz.prog.info? 9).map (λi=>(i.zero,i.size,i.bytes))=some (some (.string ByteArray.empty),1,16):=by kernel_rfl
def K4(room:Int):DN:=⟨room,0,0,0,0,0,0,false⟩
def YX(room:Int)(w:World):
 Ag 21 #[A0 room] w (Al (A5 w.heap.size) λw'=>AK w' w.heap.size (.slice none 0 0) (.slice none 0 0) (.slice none 0 0) (K4 room)/\w'.heap.size=w.heap.size+1/\A3 Ab w w'):=by
 go_enter func21,ntmps21
 go_wp2;go_ret;exact⟨rfl,BN w _,by simp,(A3.I _ w).ak _⟩
def A1k(w:World)(b:Nat)(E z d:Value)(n:DN)(c:Int)(h:AK w b E z d n):
 Ag 35 #[A5 b,A0 c] w (Al (.tuple #[]) λw'=>AK w' b E z d {n with Cb:=if c>0 then wrap64 (n.AZ+c) else 0}/\A3 (One b) w w'):=by
 have h4:=h.c4;have h5:=h.c5;have hf:=h.fz;have L:=A1 (h.s5 0);have O:=A1 ((h.s5 0).s5 (wrap64 (n.AZ+c)));have H:=A1 ((A3.I (One b) w).ao rfl 5 (A0 0));have I:=A1 (((A3.I (One b) w).ao rfl 5 (A0 0)).ao rfl 5 (A0 (wrap64 (n.AZ+c))))
 go_enter func35,ntmps35
 go_wp2
 ·go_end0;exact⟨rfl,O.o,I.o⟩
 ·go_end0;exact⟨rfl,L.o,H.o⟩
def Eh(n:DN)(c p:Int):DN:={n with Cr:=if c>0 then wrap64 (n.AZ+c) else 0,BJ:=if p<0 then wrap64 (-(wrap64 (p+1))) else p}
def A0W(w:World)(b:Nat)(I H E:Value)(n:DN)(c p:Int)(h:AK w b I H E n):
 Ag 78 #[A5 b,A0 c,A0 p] w (Al (.tuple #[]) λw'=>AK w' b I H E (Eh n c p)/\A3 (One b) w w'):=by
 have h4:=h.c4;have h6:=h.c6;have h7:=h.c7;have hf:=h.fz;have Q:=A1 <| h
 go_enter func78,ntmps78
 go_wp2
 ·have z:0<c:=by assumption
  have d:p<0:=by assumption
  go_end0;have q:Eh n c p = {n with Cr:=wrap64 (n.AZ+c),BJ:=wrap64 (-(wrap64 (p+1)))}:=by simp[Eh,z,d]
  rw[q];exact⟨rfl,(((Q.o.s6 0).s6 _).s7 _).s7 _,((((A3.I (One b) w).ao rfl 6 _).ao rfl 6 _).ao rfl 7 _).ao rfl 7 _⟩
 ·have z:0<c:=by assumption
  have d:0<=p:=by assumption
  go_end0;have q:Eh n c p = {n with Cr:=wrap64 (n.AZ+c),BJ:=p}:=by simp[Eh,z];omega
  rw[q];exact⟨rfl,((Q.o.s6 0).s6 _).s7 _,(((A3.I (One b) w).ao rfl 6 _).ao rfl 6 _).ao rfl 7 _⟩
 ·have z:c<=0:=by assumption
  have d:p<0:=by assumption
  go_end0;have q:Eh n c p = {n with Cr:=0,BJ:=wrap64 (-(wrap64 (p+1)))}:=by simp[Eh,d];omega
  rw[q];exact⟨rfl,((Q.o.s6 0).s7 _).s7 _,(((A3.I (One b) w).ao rfl 6 _).ao rfl 7 _).ao rfl 7 _⟩
 ·have z:c<=0:=by assumption
  have d:0<=p:=by assumption
  go_end0;have q:Eh n c p = {n with Cr:=0,BJ:=p}:=by simp[Eh];omega
  rw[q];exact⟨rfl,(Q.o.s6 0).s7 _,((A3.I (One b) w).ao rfl 6 _).ao rfl 7 _⟩
def A1c(w:World)(b:Nat)(E z d:Value)(n:DN)(h:AK w b E z d n):
 Ag 36 #[A5 b] w (Al (.bool n.AX) λw'=>w=w'):=by
 have h4:=h.bY
 go_enter func36,ntmps36
 go_wp2;go_ret;exact⟨rfl,rfl⟩
def XO(w:World)(b:Nat)(E z d:Value)(n:DN)(h:AK w b E z d n):
 Ag 50 #[A5 b] w (Al (A0 n.Bt) λw'=>w=w'):=by
 have h4:=h.c8
 go_enter func50,ntmps50
 go_wp2;go_ret;exact⟨rfl,rfl⟩
def CC(D:DS)(F:Nat->FC)(name:ByteArray):Int×Int:=match lookup D.A4 name with
 | some f=>(((F f).1.length:Nat),0)
 | none=>(0,8)
def WX(w:World)(b:Nat)(D:DS)(F:Nat->FC)(vd Y vc:Value)(E:List Value)(aA:Nat->Value)(h:BY w b D F vd Y vc E aA)(name:ByteArray):
 Ag 81 #[A5 b,.string name] w (Al (.tuple #[A0 (CC D F name).1,A0 (CC D F name).2]) λw'=>w=w'):=by
 have hc:=h.Af.c0;obtain⟨a,cap,rfl,hc1,O,d⟩:=h.A4.Ce;have W:=h.A4;unfold maxLen at O;rcases J1 D.A4 name with⟨X,I⟩|⟨k,L,X,I,h3⟩
 ·have q:Hid (CC D F name=(0,8)):=by unfold Hid CC;rw[I]
  have hfi:B2 D.A4 name<0:=by omega
  go_enter func81,ntmps81
  go_wp2_with (go_at_call 77;refine(Du _ _ _ _ W).mono ?_;rintro e w'⟨rfl,rfl⟩);go_ret2;rw[q.o];exact⟨rfl,rfl⟩
 ·have q:Hid (CC D F name=((((F (D.A4[k]'L).2).1.length:Nat):Int),0)):=by unfold Hid CC;rw[I]
  obtain⟨z,H⟩:=h.cp k L;obtain⟨a',cap',hv,_,_⟩:=H.Ce;rw[hv]at z;have hb0:=z.c0;obtain⟨g,rfl,hn,hp⟩:=d k L;have aB:=A1 <| X
  go_enter func81,ntmps81
  go_wp2_with (go_at_call 77;refine(Du _ _ _ _ W).mono ?_;rintro e w'⟨rfl,rfl⟩;rw[aB.o]);go_ret2;rw[q.o];exact⟨rfl,rfl⟩
def LO(w:World)(b:Nat)(vd vs H:Value)(n:DN)(m:Nat)(d:List Value)(a:Option Addr)(len cap:Nat)(h:AK w b vd vs H n)(hc:w.ownsRow 0 120 1 H m d)(hm:m<1099511627776):
 Ag 122 #[A5 b,.slice a len cap] w (Al (.tuple #[]) λw'=>
  ∃E,AK w' b (.slice a len cap) vs E n/\w'.ownsRow 0 120 1 E (m+1) (d++[.slice a len cap])/\A3 (λk=>k=b\/H.ownBlock=some k) w w'/\(∀g,E.ownBlock=some g->H.ownBlock=some g\/w.heap.size<=g)):=by
 obtain⟨i0,hi,W,Y,aB⟩:=E7 Tryz.ed;have h2:=h.c2;have h0:=h.c0;have hf:=h.fz;have I:H.ownBlock≠some b:=by
  intro e;obtain⟨c,hh⟩:=Be hc e;exact BS hh h (by decide) rfl
 have hs:=A1 (h.s0 (.slice a len cap));have X:=A1 ((O8 hc (a:=(Aa b 0)) I (.slice a len cap)).alloc (.cells #[.slice a len cap] 120));have O:=A1 (Src.bb (size:=1) underlying93 (w.sC b 0 (.slice a len cap)) #[.slice a len cap] 120 w.heap.size (by simp) 1 1 rfl (by simp[Value.oneCell']));have aD:=A1 (((A3.I (λk=>k=b\/H.oB k) w).ao (.inl rfl) 0 (.slice a len cap)).ak (.cells #[.slice a len cap] 120));have aA:=A1 <| I
 go_enter func122,ntmps122
 go_wp2_with (at_builtin;go_loud (refine D4 rfl (.tmp 12) (.tmp 15) 93 93 rfl 120 i0 _ 1 24 underlying93 hi W Y aB rfl (by decide) H m d (by rfl) X.o _ 1 _ (by rfl) O.o (by omega) ?_);intro a2 cap2 w1 L;have z:=(hs.o.ak _).Cy L.Cy aA.o;have h21:=z.c2;have hf1:=z.fz);go_end0;refine⟨rfl,_,z.s2 _,?_,?_,?_⟩
 ·refine O8 L.AA (a:=(Aa b 2)) ?_ _;intro e;obtain⟨c,hh⟩:=Be L.AA e;exact BS hh z (by decide) rfl
 ·exact(aD.o.Cy L.Cy (λk hk _=>.inr hk)).ao (.inl rfl) 2 _
 ·intro g hg;rcases L.Cj with h|h
  ·exact .inl (h.symm.trans hg)
  ·right;rw[hg]at h;cases h;simp
def upd(F:Nat->FC)(f0:Nat)(c:FC):Nat->FC:=λf=>if f=f0 then c else F f
def CM(D:DS)(name:ByteArray)(f0:Nat):Int×DS:=
 if name=ByteArray.empty\/B2 D.A4 name≥0 then (8,D) else
  ((bg D.n).2.1,if (bg D.n).1 then {D with A4:=D.A4++[(name,f0)],Av:=D.Av++[D.A4++[(name,f0)]],n:=(bg D.n).2.2} else {D with n:=(bg D.n).2.2})
def isEmpty_iff(s:ByteArray):s.toList.isEmpty=true↔s=ByteArray.empty:=by
 rw[List.isEmpty_iff,Kk];exact⟨λh=>A3l (by rw[h];rfl),λh=>by rw[h];rfl⟩
def BY.eD{w:World}{b:Nat}{D:DS}{F:Nat->FC}{L E z:Value}{d:List Value}{I:Nat->Value}(h:BY w b D F L E z d I){f0:Nat}(hf:w.heap.size<=f0)(c:FC):
 BY w b D (upd F f0 c) L E z d I:=
 ⟨h.Af,h.A4,h.AO,h.Aj,h.D8,λf H=>by
  have:f≠f0:=by have:=h.lt (.BM H);omega
  simp only[upd,this,C4];exact h.BM f H,h.Gc⟩
def C7.n{b:Nat}{D:DS}{n:DN}{I E z:Value}{d:List Value}{H:Nat->Value}{k:Nat}(h:C7 b {D with n:=n} I E z d H k):C7 b D I E z d H k:=by
 cases h using C7.bL with
 | Af=>exact .Af
 | dir e=>exact .A4 e
 | Ac e=>exact .AO e
 | Aj e=>exact .Aj e
 | D8 h e=>exact .D8 h e
 | BM h=>exact .BM h
 | byt h e=>exact .bB h e
def BY.bP{w w':World}{b:Nat}{D:DS}{F:Nat->FC}{I H L:Value}{d:List Value}{O:Nat->Value}{Ft:Nat->Prop}(h:BY w b D F I H L d O)(z:∀k,C7 b D I H L d O k->Ft k){n:DN}(X:AK w' b I H L n)(W:A3 (One b) w w'):Dq w Ft w' b {D with n:=n} F:=
 Dq.bx (W.aa λk _ E=>by cases E;exact z b .Af) (h.ag X W) λk E=>.inl (z k E.n)
def App.Aj{w w':World}{e size n:Nat}{v z:Value}{xs:List Value}(h:App w w' e size v z n xs){S:Nat->Prop}(E:∀k,v.ownBlock=some k->S k):A3 S w w':=
 (A3.I S w).Cy h.Cy λk d _=>E k d
def CY.aH{w w':World}{f:Nat}{d:Value}{Ac:Int}(h:CY w f d Ac)(z:w'.heap[f]?=w.heap[f]?):CY w' f d Ac:=z.trans h
def A1m{w w1 I w3 w5:World}{b:Nat}{D:DS}{F:Nat->FC}{vd vs vc Y aB:Value}{W:List Value}{aH:Nat->Value}{Ft:Nat->Prop}{n1:DN}{a3:Option Addr}{O:Nat}{name:ByteArray}(hr:BY w b D F vd vs vc W aH)(E:∀k,C7 b D vd vs vc W aH k->Ft k)(aK:AK w1 b vd vs vc n1)(aD:A3 (One b) w w1)(hA:App w1 I 125 2 (.slice none 0 0) Y D.A4.length (BX D.A4))(hB:App ((I.alloc (.cells #[.slice none 0 0,.int .i64 0] 129)).alloc (.cells #[.string name,.pointer (some ⟨I.heap.size,0,none⟩)] 125)) w3 125 2 Y (.slice a3 (D.A4.length+1) O) (D.A4.length+1) (BX D.A4++[.string name,.pointer (some ⟨I.heap.size,0,none⟩)]))(aI:AK w5 b (.slice a3 (D.A4.length+1) O) vs aB n1)(aL:w5.ownsRow 0 120 1 aB (D.Av.length+1) (W++[.slice a3 (D.A4.length+1) O]))(X:A3 (λk=>k=b\/vc.ownBlock=some k) w3 w5)(hv:∀g,aB.ownBlock=some g->vc.ownBlock=some g\/w3.heap.size<=g):
 w.heap.size<=I.heap.size/\Dq w Ft w5 b {D with A4:=D.A4++[(name,I.heap.size)],Av:=D.Av++[D.A4++[(name,I.heap.size)]],n:=n1} (upd F I.heap.size ([],0)):=by
 have aA:∀k,Y.ownBlock=some k->k=w1.heap.size:=by
  intro k L;rcases hA.Cj with h|h
  ·rw[h]at L;cases L
  ·rw[h]at L;cases L;rfl
 have s1:=aD.Ak;have s2:=hA.Cy.size;have s3:=hB.Cy.size;simp only[ML]at s3;have aF:=
  (((hA.Aj (S:=λ_=>False) (by intro k L;simp[Value.ownBlock]at L)).ak (.cells #[.slice none 0 0,.int .i64 0] 129)).ak (.cells #[.string name,.pointer (some ⟨I.heap.size,0,none⟩)] 125)).Cy hB.Cy
    (λk L hlt=>by have:=aA k L;omega)
 have r1:=hr.ag aK aD;have r3:=r1.aP λk L=>aF.Ao k (r1.lt L) (λh=>h);have f0:CY ((I.alloc (.cells #[.slice none 0 0,.int .i64 0] 129)).alloc (.cells #[.string name,.pointer (some ⟨I.heap.size,0,none⟩)] 125)) I.heap.size (.slice none 0 0) 0:=by
  unfold CY;rw[Dc _ _ _ (by simp)];exact BN _ _
 have f3:=f0.aH (hB.Cy.block _ (by simp;omega) (λe=>by have:=AB hA.AA e.symm;omega))
 have f5:=f3.aH (X.Ao _ (by omega) (by
  rintro (e|e)
  ·exact BS f3 r3.Af (by decide) e
  ·obtain⟨c,hh⟩:=Be r3.Aj e
   exact BS f3 hh (by decide) rfl))
 have e3:D2 w3 (.slice a3 (D.A4.length+1) O) (D.A4++[(name,I.heap.size)]):=by
  have:=hB.AA;unfold D2;rw[L6];simpa[BX] using this
 have e5:=Ay e3 λg hg=>X.Ao g (AB e3 hg) (by
  obtain⟨c,hh⟩:=Be e3 hg;rintro (e|e)
  ·exact BS hh r3.Af (by decide) e
  ·obtain⟨c',aJ⟩:=Be r3.Aj e
   exact BS hh aJ (by decide) rfl)
 have aE:∀f,D.Au f->f≠I.heap.size:=λf H=>by have:=hr.lt (.BM H);omega
 have r5:=r3.cx (F':=upd F I.heap.size ([],0)) (VB':=λf=>if f=I.heap.size then .slice none 0 0 else aH f) (es:=D.A4++[(name,I.heap.size)]) aI aL e5 X (λk L=>L)
  (λf H=>by have:=aE f H;simp[upd,this])
  (λf H=>by
   obtain⟨e,d,rfl⟩:=H;rcases AU.1 d with d|d
   ·exact .inl (.inl ⟨e,d,rfl⟩)
   ·simp at d;subst d;right;simp only[upd,Cg]
    exact⟨f5,CD _ _ _ _,rfl⟩)
 refine⟨by omega,Dq.bx ?_ r5 ?_⟩
 ·have a:=(aD.aa (S':=Ft) λk _ L=>by cases L;exact E b .Af).Ap aF (λx hx=>hx.elim);refine a.Ap X ?_;rintro x (e|e) _
  ·subst e;exact E x .Af
  ·exact E x (.Aj e)
 ·intro k L;cases L using C7.bL with
  | Af=>exact .inl (E b .Af)
  | dir e=>
   rcases hB.Cj with h|h
   ·rw[h]at e;have:=aA _ e;right;omega
   ·rw[h]at e;cases e;right;simp;omega
  | Ac e=>exact .inl (E k (.AO e))
  | Aj e=>
   rcases hv k e with h|h
   ·exact .inl (E k (.Aj h))
   ·right;omega
  | D8 hm e=>
   rcases AU.1 hm with hm|hm
   ·exact .inl (E k (.D8 hm e))
   ·simp at hm;subst hm;rcases hB.Cj with h|h
    ·rw[h]at e;have:=aA _ e;right;omega
    ·rw[h]at e;cases e;right;simp;omega
  | BM H=>
   rcases H with⟨e,d,rfl⟩|H|⟨c,z,H⟩
   ·rcases AU.1 d with d|d
    ·exact .inl (E _ (.BM (.inl ⟨e,d,rfl⟩)))
    ·simp at d;subst d;right;simp;omega
   ·exact .inl (E _ (.BM (.inr (.inl H))))
   ·rcases AU.1 z with z|z
    ·exact .inl (E _ (.BM (.inr (.inr ⟨c,z,H⟩))))
    ·simp at z;subst z;obtain⟨e,d,rfl⟩:=H;rcases AU.1 d with d|d
     ·exact .inl (E _ (.BM (.inl ⟨e,d,rfl⟩)))
     ·simp at d;subst d;right;simp;omega
  | byt H e=>
   rename_i f;by_cases hx:f=I.heap.size
   ·simp[hx,Value.ownBlock]at e
   ·simp only[hx,C4]at e;have aG:D.Au f:=by
     rcases H with⟨en,d,rfl⟩|H|⟨c,z,H⟩
     ·rcases AU.1 d with d|d
      ·exact .inl ⟨en,d,rfl⟩
      ·simp at d;subst d;exact absurd rfl hx
     ·exact .inr (.inl H)
     ·rcases AU.1 z with z|z
      ·exact .inr (.inr ⟨c,z,H⟩)
      ·simp at z;subst z;obtain⟨en,d,rfl⟩:=H;rcases AU.1 d with d|d
       ·exact .inl ⟨en,d,rfl⟩
       ·simp at d;subst d;exact absurd rfl hx
    exact .inl (E _ (.bB aG e))
def A1l{I w2 O:World}{b:Nat}{D:DS}{F:Nat->FC}{Y W L E:Value}{d:List Value}{aB:Nat->Value}{n1:DN}{v3:Value}{n2:Nat}{xs:List Value}{o1 o2:Obj}(aA:AK I b Y W L n1)(r1:BY I b {D with n:=n1} F Y W L d aB)(hA:App I w2 125 2 (.slice none 0 0) E D.A4.length (BX D.A4))(hB:App ((w2.alloc o1).alloc o2) O 125 2 E v3 n2 xs):
 AK O b Y W L n1/\O.ownsRow 0 120 1 L D.Av.length d:=by
 have X:∀k,E.ownBlock=some k->k=I.heap.size:=by
  intro k z;rcases hA.Cj with h|h
  ·rw[h]at z;cases z
  ·rw[h]at z;cases z;rfl
 have H:=
  (((hA.Aj (S:=λ_=>False) (by intro k z;simp[Value.ownBlock]at z)).ak o1).ak o2).Cy hB.Cy (λk z hlt=>by have:=X k z;omega)
 refine⟨aA.Aj H (λh=>h),Ay r1.Aj λg hg=>H.Ao g (AB r1.Aj hg) (λh=>h)⟩
def A1n(w:World)(b:Nat)(D:DS)(F:Nat->FC)(Ft:Nat->Prop)(h:Da w b D F Ft)(name:ByteArray)(hs:D.A4.length<1099511627776/\D.Av.length<1099511627776):
 Ag 83 #[A5 b,.string name] w λe w'=>∃f0,w.heap.size<=f0/\e=.returned (A0 (CM D name f0).1)/\Dq w Ft w' b (CM D name f0).2 (upd F f0 ([],0)):=by
 obtain⟨vd,vs,vc,O,aQ,X,Y⟩:=h;obtain⟨hs1,aJ⟩:=hs;have hq:∀f0,w.heap.size<=f0->(CM D name f0).2=D->Dq w Ft w b (CM D name f0).2 (upd F f0 ([],0)):=λf0 hf e=>by
  rw[e];exact Dq.bx (A3.I _ _) (X.eD hf _) λk hk=>.inl (Y k hk)
 have aP:=A1 hq;have aN:=A1 X;have c0:=X.Af.c0;have hd:=A1 X.A4;have aG:=A1 X.Af;obtain⟨ad,cap,aM,_⟩:=X.A4.Ce;clear X aM;by_cases hn:name.toList.isEmpty=true
 ·have q:Hid (CM D name w.heap.size=(8,D)):=by unfold Hid CM;rw[Ah (.inl ((isEmpty_iff _).1 hn))]
  go_enter func83,ntmps83
  go_wp2;go_ret;exact⟨_,As _,by rw[q.o];rfl,aP.o _ (As _) (by rw[q.o])⟩
 ·have hn':name.toList.isEmpty=false:=by simpa using hn
  have aH:Hid (name≠ByteArray.empty):=λe=>hn ((isEmpty_iff _).2 e);clear hn;by_cases hx:(0:Int)<=B2 D.A4 name
  ·(have q:Hid (CM D name w.heap.size=(8,D)):=by unfold Hid CM;rw[Ah (.inr hx)])
   go_enter func83,ntmps83
   go_wp2_with (go_at_call 77;refine(Du _ _ _ _ hd.o).mono ?_;rintro e w'⟨rfl,rfl⟩);go_ret;exact⟨_,As _,by rw[q.o];rfl,aP.o _ (As _) (by rw[q.o])⟩
  ·have q:Hid (∀f0,CM D name f0=((bg D.n).2.1,if (bg D.n).1 then {D with A4:=D.A4++[(name,f0)],Av:=D.Av++[D.A4++[(name,f0)]],n:=(bg D.n).2.2} else {D with n:=(bg D.n).2.2})):=by
    intro f0;unfold CM;rw[Ad (by rintro (h|h);exact aH h;exact hx h)]
   (have hx':B2 D.A4 name<0:=by omega);by_cases aA:(bg D.n).1=true
   ·obtain⟨i0,hi,aB,aF,aE⟩:=E7 Tryz.cV
    have fin:Hid (∀(H z w3 w5:World) (W E:Value) (a3:Option Addr) (d:Nat),AK H b vd vs vc (bg D.n).2.2->A3 (One b) w H->App H z 125 2 (.slice none 0 0) W D.A4.length (BX D.A4)->
     App ((z.alloc (.cells #[.slice none 0 0,A0 0] 129)).alloc (.cells #[.string name,A5 z.heap.size] 125)) w3 125 2 W (.slice a3 (D.A4.length+1) d) (D.A4.length+1) (BX D.A4++[.string name,A5 z.heap.size])->
     AK w5 b (.slice a3 (D.A4.length+1) d) vs E (bg D.n).2.2->w5.ownsRow 0 120 1 E (D.Av.length+1) (O++[.slice a3 (D.A4.length+1) d])->A3 (λk=>k=b\/vc.ownBlock=some k) w3 w5->(∀g,E.ownBlock=some g->vc.ownBlock=some g\/w3.heap.size<=g)->
     w.heap.size<=z.heap.size/\Dq w Ft w5 b {D with A4:=D.A4++[(name,z.heap.size)],Av:=D.Av++[D.A4++[(name,z.heap.size)]],n:=(bg D.n).2.2} (upd F z.heap.size ([],0))):=
     λH z w3 w5 W E a3 d h1 h2 h3 h4 h5 h6 h7 h8=>A1m aN.o Y h1 h2 h3 h4 h5 h6 h7 h8
    have aK:Hid (∀H,AK H b vd vs vc (bg D.n).2.2->A3 (One b) w H->BY H b {D with n:=(bg D.n).2.2} F vd vs vc O aQ):=λH h1 h2=>aN.o.ag h1 h2
    go_enter func83,ntmps83
    go_wp2_with (first
     | (go_at_call 77;refine(Du _ _ _ _ hd.o).mono ?_;rintro e w'⟨rfl,rfl⟩)
     | (go_at_call 121;refine(GM _ _ _ _ _ _ aG.o).mono ?_;rintro e H⟨rfl,I,L⟩;have c01:=I.c0;have aO:=A1 (aK.o H I L))
     | (at_builtin;refine D4 rfl (.const (.slice none 0 0)) (.tmp 28) 92 92 rfl 125 i0 _ 2 24 underlying92 hi aB aF aE rfl (by decide) (.slice none 0 0) 0 [] (by rfl) (CD _ 0 125 2) vd D.A4.length (BX D.A4) (by rfl) (Src.bO underlying92 aO.o.A4 (OT _)) (by omega) ?_;intro a2 cap2 z hA;simp only[GO,Es]at hA;have aI:=A1 ((hA.AA.alloc (.cells #[.slice none 0 0,A0 0] 129)).alloc (.cells #[.string name,A5 z.heap.size] 125));have aL:=A1 (Src.bb (size:=2) underlying92 (z.alloc (.cells #[.slice none 0 0,A0 0] 129)) #[.string name,A5 z.heap.size] 125 (z.heap.size+1) (by simp) 1 1 rfl (by simp[Value.oneCell'])))
     | (at_builtin;refine D4 rfl (.tmp 31) (.tmp 36) 92 92 rfl 125 i0 _ 2 24 underlying92 hi aB aF aE rfl (by decide) _ D.A4.length (BX D.A4) (by rfl) aI.o _ 1 _ (by rfl) aL.o (by omega) ?_;intro a3 d w3 hB;have hm:=A1 (A1l I aO.o hA hB))
     | (go_at_call 122;refine(LO _ b vd vs vc _ _ _ _ _ _ hm.o.1 hm.o.2 aJ).mono ?_;rintro e w5⟨rfl,E,k1,k2,k3,k4⟩))
    go_ret;obtain⟨g1,g2⟩:=fin.o H z w3 w5 _ E a3 d I L hA hB k1 k2 k3 k4;refine⟨z.heap.size,g1,by rw[q.o];rfl,?_⟩;rw[q.o,aA];exact g2
   ·(have aD:(bg D.n).1=false:=by simpa using aA)
    go_enter func83,ntmps83
    go_wp2_with (first|(go_at_call 77;refine(Du _ _ _ _ hd.o).mono ?_;rintro e w'⟨rfl,rfl⟩)|(go_at_call 121;refine(GM _ _ _ _ _ _ aG.o).mono ?_;rintro e H⟨rfl,I,L⟩));go_ret;refine⟨w.heap.size,As _,by rw[q.o];rfl,?_⟩;rw[q.o,aD];exact(aN.o.eD (As _) _).bP Y I L
def DH(D:DS):Int×DS:=
 ((bg D.n).2.1,if (bg D.n).2.1=0 then {D with AO:=D.A4,Av:=[],n:=(bg D.n).2.2} else {D with n:=(bg D.n).2.2})
def BY.aJ{w w':World}{b:Nat}{D:DS}{F:Nat->FC}{I vs vc:Value}{H:List Value}{aA:Nat->Value}(h:BY w b D F I vs vc H aA)(hb:AK w' b I I (.slice none 0 0) D.n)(hc:A3 (One b) w w'):BY w' b {D with AO:=D.A4,Av:=[]} F I I (.slice none 0 0) [] aA:=by
 have E:∀(k:Nat) (c:Array Value) (e:Nat),w.heap[k]?=some (Obj.cells c e (0,0))->e≠95->w'.heap[k]?=w.heap[k]?:=λk c e E he=>
  hc.Ao k (By E) (BS E h.Af he)
 have Y:=Ay h.A4 λg L=>by obtain⟨c,X⟩:=Be h.A4 L;exact E g _ _ X (by decide)
 have d:∀f,({D with AO:=D.A4,Av:=[]}:DS).Au f->D.Au f:=by
  rintro f (z|z|⟨c,hcm,z⟩)
  ·exact .inl z
  ·exact .inl z
  ·cases hcm
 refine⟨hb,Y,Y,CD _ _ _ _,λi hi=>by simp at hi,λf z=>?_,λf f' g z W=>h.Gc f f' g (d f z) (d f' W)⟩;obtain⟨O,h2⟩:=h.BM f (d f z);refine⟨?_,Ay h2 λg L=>by obtain⟨c,X⟩:=Be h2 L;exact E g _ _ X (by decide)⟩;unfold CY at O ⊢;rw[E f _ _ O (by decide)];exact O
def Wh(w:World)(b:Nat)(D:DS)(F:Nat->FC)(Ft:Nat->Prop)(h:Da w b D F Ft):
 Ag 86 #[A5 b] w (Al (A0 (DH D).1) λw'=>Dq w Ft w' b (DH D).2 F):=by
 obtain⟨vd,vs,vc,vals,VB,hr,d⟩:=h;obtain⟨ad,cap,rfl,_⟩:=hr.A4.Ce;have aA:=A1 hr;have X:=A1 hr.Af;by_cases E:(bg D.n).2.1=0
 ·have q:Hid (DH D=(0,{D with AO:=D.A4,Av:=[],n:=(bg D.n).2.2})):=by unfold Hid DH;rw[Ah E,E]
  have O:((bg D.n).2.1==0)=true:=by simpa using E
  have W:=A1 <| E;clear E
  go_enter func86,ntmps86
  go_wp2_with (go_at_call 121;refine(GM _ _ _ _ _ _ X.o).mono ?_;rintro e w1⟨rfl,z,I⟩;have c01:=z.c0;have c11:=z.c1;have c21:=z.c2;have hf1:=z.fz);go_ret;refine⟨by rw[q.o];simp[W.o],?_⟩;rw[q.o];have r1:=aA.o.ag z I;have r2:=r1.aJ ((z.s1 _).s2 (.slice none 0 0)) (((A3.I (One b) w1).ao rfl 1 _).ao rfl 2 (.slice none 0 0));refine Dq.bx ?_ r2 ?_
  ·exact(((I.aa (S':=Ft) λk _ Y=>by cases Y;exact d b .Af)).ao (d b .Af) 1 _).ao (d b .Af) 2 _
  ·intro k Y;left;cases Y using C7.bL with
   | Af=>exact d _ .Af
   | dir e=>exact d _ (.A4 e)
   | Ac e=>exact d _ (.A4 e)
   | Aj e=>simp[Value.ownBlock]at e
   | D8 hm e=>cases hm
   | BM H=>
    rcases H with H|H|⟨c,L,_⟩
    ·exact d _ (.BM (.inl H))
    ·exact d _ (.BM (.inl H))
    ·cases L
   | byt H e=>
    rcases H with H|H|⟨c,L,_⟩
    ·exact d _ (.bB (.inl H) e)
    ·exact d _ (.bB (.inl H) e)
    ·cases L
 ·have q:Hid (DH D=((bg D.n).2.1,{D with n:=(bg D.n).2.2})):=by unfold Hid DH;rw[Ad E]
  have O:((bg D.n).2.1==0)=false:=by simpa using E
  go_enter func86,ntmps86
  go_wp2_with (go_at_call 121;refine(GM _ _ _ _ _ _ X.o).mono ?_;rintro e w1⟨rfl,z,I⟩);go_ret;refine⟨by rw[q.o];rfl,?_⟩;rw[q.o];exact aA.o.bP d z I
def B4(F:Nat->FC):List AL->Nat
 | []=>0
 | e::r=>(F e.2).1.length+B4 F r
def Kw(F:Nat->FC)(a c:List AL):B4 F (a++c)=B4 F a+B4 F c:=by
 induction a with
 | nil=>simp[B4]
 | cons e r ih=>simp[B4,ih];omega
def Qq(F:Nat->FC)(es:List AL)(k:Nat)(d:k<es.length):B4 F (es.take (k+1))=B4 F (es.take k)+(F (es[k]'d).2).1.length:=by
 rw[Dn d,Kw];simp[B4]
def VZ(F:Nat->FC)(es:List AL)(k:Nat):B4 F (es.take k)<=B4 F es:=by
 conv=>rhs;rw[<-DK k es]
 rw[Kw];omega
def Kv(w:World)(b:Nat)(D:DS)(F:Nat->FC)(Ft:Nat->Prop)(h:Da w b D F Ft)(hu:B4 F D.A4<=4611686018427387904):
 Ag 90 #[A5 b] w (Al (A0 (B4 F D.A4)) λw'=>A3 Ab w w'):=by
 obtain⟨vd,vs,vc,vals,VB,hr,hft⟩:=h;have c0:=hr.Af.c0;obtain⟨a,cap,rfl,hc1,aA,H⟩:=hr.A4.Ce;unfold maxLen at aA;have aD:=A1 hr
 go_enter func90,ntmps90
 go_wp2;go_loopw [3,11] (λt i wr=>∃k:Nat,k<=D.A4.length/\i=A0 k/\t=A0 (B4 F (D.A4.take k))/\A3 Ab w wr) (λ_ i _=>D.A4.length-(intOf i).toNat)
 case atStart=>exact⟨0,Cf _,rfl,by simp[B4],A3.I _ _⟩
 case round=>
  obtain⟨k,hk,rfl,rfl,z⟩:=hrel;by_cases d:k<D.A4.length
  ·obtain⟨g,rfl,hn,hp⟩:=H k d;obtain⟨E,X⟩:=aD.o.cp k d;obtain⟨a',I,hv,_,_⟩:=X.Ce;rw[hv]at E;have W:g<w.heap.size:=GN w _ hn;have Y:=By E;have hn':A7 wr g (k*2) (.string (D.A4[k]'d).1):=(DR (z.Ao g W (λh=>h))).trans hn;have hp':A7 wr g (k*2+1) (A5 ((D.A4[k]'d).2)):=(DR (z.Ao g W (λh=>h))).trans hp;have hb0:A7 wr ((D.A4[k]'d).2) 0 (.slice a' (F (D.A4[k]'d).2).1.length I):=(DR (z.Ao _ Y (λh=>h))).trans E.c0;have hsz:=z.Ak;(have hflr:(D.A4[k]'d).2<wr.heap.size:=by omega);have ht:=A1 (Qq F D.A4 k d);have aB:=VZ F D.A4 (k+1);rw[Qq F D.A4 k d]at aB;go_wp2;go_roundw
   case rel=>exact⟨k+1,by omega,by go_num,by rw[ht.o];go_num,z.ak _⟩
   case measure=>simp[intOf];omega
  ·have O:D.A4.take k=D.A4:=Er (by omega);have L:=A1 O;go_wp2;go_ret;exact⟨by rw[L.o];rfl,z⟩
def F4(D:DS)(F:Nat->FC)(name:ByteArray)(at_ n:Int):List UInt8×Int:=match lookup D.A4 name with
 | some f=>if at_<0\/n<0\/at_>(F f).1.length\/n>(F f).1.length-at_ then ([],9) else (((F f).1.drop at_.toNat).take n.toNat,0)
 | none=>([],8)
end
end Go.Proofs.YtodcnkbblippnaaGreatDoor
