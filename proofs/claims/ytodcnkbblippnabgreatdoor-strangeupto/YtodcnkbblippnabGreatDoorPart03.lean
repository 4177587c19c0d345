/- Part 3 of a proof: walks of the program. -/
import Derived.RegionTactic
import Derived.Test.YtodcnkbblippnabGreatDoorPart02
namespace Go.Proofs.YtodcnkbblippnabGreatDoor
set_option maxRecDepth 100000
set_option maxHeartbeats 32000000
set_option linter.defProp false
open Go.Proofs.Tryz
section
open Go
section
variable{P:Program}{ops:Array Oper}{md:Region.Mode}{Q:Exit->Act->World->Prop}
def SB(aA:Nat)(S:World->Prop)(listed:Array Bool)(w:World):Prop:=listed.getD aA false=true\/S w
def SB.bp{aA i:Nat}{S:World->Prop}{listed:Array Bool}{w:World}(h:i≠aA):SB aA S (listed.setIfInBounds i true) w↔SB aA S listed w:=by
 unfold SB;have:(listed.setIfInBounds i true).getD aA false=listed.getD aA false:=by simp[Array.getD_eq_getD_getElem?,Array.getElem?_setIfInBounds_ne h]
 rw[this]
def wpAnyL(P:Program)(md:Region.Mode)(ops:Array Oper)(Q:Exit->Act->World->Prop)(S:Array Bool->World->Prop)(n:Nat)(L:Array Bool->Act->World->Prop):Nat->Array Bool->Act->World->Prop
 | 0,listed,a,w=>L listed a w
 | f+1,listed,a,w=>Region.ready md ops listed≠[]/\∀i∈Region.ready md ops listed,i<n/\wpOp P ops Q i (λa' w'=>S (listed.setIfInBounds i true) w'/\wpAnyL P md ops Q S n L f (listed.setIfInBounds i true) a' w') a w
def PU{S:Array Bool->World->Prop}{n g:Nat}{L:Array Bool->Act->World->Prop}(z:∀listed a w,L listed a w->wpAny P md ops Q g listed a w):
 ∀(f:Nat) (listed:Array Bool) (a:Act) (w:World),wpAnyL P md ops Q S n L f listed a w->wpAny P md ops Q (f+g) listed a w
 | 0,listed,a,w,h=>by rw[GC];exact z _ _ _ h
 | f+1,listed,a,w,h=>by
  rw[show f+1+g=(f+g)+1 from by omega];exact⟨λO=>absurd O h.1,λi I=>Kj (λa' w' H=>PU z f _ a' w' H.2) (h.2 i I).2⟩
def wpAnyL_first{aK:World->Prop}{aO:World->Prop}{aA n i:Nat}{oi:Oper}{v:Value}{L:Array Bool->Act->World->Prop}(aE:i≠aA)(hi:ops[i]?=some oi)(aD:∀(j:Nat) (o:Oper) cs b,ops[j]?=some o->o.op≠.select cs b)(hQ:∀c a w,Q (.panic c) (a.put oi.dst v) w->Q (.panic c) a w)(hs:Region.sinkB md ops n=true)(hc:Region.chainB md ops n=true)(hn:n<ops.size)(aJ:i<n)(aG:∀listed w,HeadInv md ops n listed->i∈Region.ready md ops listed->SB aA aK listed w->aO w)(aF:∀listed a w,L listed a w->∀j∈Region.ready md ops listed,n<=j):
 ∀(f:Nat) (listed:Array Bool) (a:Act) (w:World),HeadInv md ops n listed->
  (∀j oj,ops[j]?=some oj->j≠i->listed.getD j true=false->(∀e∈oj.after,Region.binds md e=true->e.on≠i)->oi.apart ops oj=true)->
  i∈Region.ready md ops listed->YieldsIf P ops aO oi v a->SB aA aK listed w->
  wpAnyL P md ops Q (SB aA aK) n L f (listed.setIfInBounds i true) (a.put oi.dst v) w->wpAnyL P md ops Q (SB aA aK) n L (f+1) listed a w:=by
 intro f
 induction f with
 | zero=>
  intro listed a w O _ X hy hS H;have I:=(Ib.1 X).1;refine⟨λh=>(by rw[h]at X;cases X),λj hj=>?_⟩;have aB:j<n:=by
   rcases F6 j n with h|h
   ·exact h
   ·exact absurd hj (LA hs hc hn O _ i rfl aJ I j h)
  refine⟨aB,?_⟩;by_cases z:j=i
  ·subst z;exact hy.wpOp hi (aG _ _ O X hS) ⟨(SB.bp aE).2 hS,H⟩
  ·have:=aF _ _ _ H j (Kx hj z);omega
 | succ f ih=>
  intro listed a w O W X hy hS H;have I:=(Ib.1 X).1;refine⟨λh=>(by rw[h]at X;cases X),λj hj=>?_⟩;have aB:j<n:=by
   rcases F6 j n with h|h
   ·exact h
   ·exact absurd hj (LA hs hc hn O _ i rfl aJ I j h)
  refine⟨aB,?_⟩;by_cases z:j=i
  ·subst z;exact hy.wpOp hi (aG _ _ O X hS) ⟨(SB.bp aE).2 hS,H⟩
  ·have h1:=(H.2 j (Kx hj z)).2;have⟨hjun,oj,hoj,hall⟩:=Ib.1 hj;have aI:∀e∈oj.after,Region.binds md e=true->e.on≠i:=λe he hb aN=>by
    have h1:=hall e he hb;rw[aN,getD_both I]at h1;cases h1
   have h2:=wpOp_putIf hoj (W j oj hoj z hjun aI) (λcs b=>aD i oi cs b hi) (λcs b=>aD j oj cs b hoj) hQ hy h1;have Y:∀k ok,ops[k]?=some ok->k≠i->(listed.setIfInBounds j true).getD k true=false->
    (∀e∈ok.after,Region.binds md e=true->e.on≠i)->oi.apart ops ok=true:=λk ok hk aM I aL=>by
    refine W k ok hk aM ?_ aL;by_cases aH:j=k
    ·subst aH;exact hjun
    ·rw[Mf true aH]at I;exact I
   refine Kj (λa' w' h3=>?_) h2;have h4:=h3.2.1;rw[Vm _ _ (P9 z)]at h4;have h5:=(SB.bp aE).1 h4;refine⟨h5,ih (listed.setIfInBounds j true) a' w' (O.set hj aB) Y (Kx X (P9 z)) h3.1 h5 ?_⟩;rw[Vm _ _ z];exact h3.2.2
def EM(P:Program)(ops:Array Oper)(Q:Exit->Act->World->Prop)(aA:Nat)(S:World->Prop)(T:Act->World->Prop):List (Nat×Nat)->Act->World->Prop
 | [],a,w=>T a w
 | (i,0):: r,a,w=>wpOp P ops Q i (λa' w'=>(i=aA\/S w')/\EM P ops Q aA S T r a' w') a w
 | (i,1):: r,a,w=>∃o v,ops[i]?=some o/\YieldsIf P ops S o v a/\EM P ops Q aA S T r (a.put o.dst v) w
 | (i,_+2):: r,a,w=>∃o v,ops[i]?=some o/\YieldsIf P ops (λ_=>True) o v a/\EM P ops Q aA S T r (a.put o.dst v) w
def N8(md:Region.Mode)(ops:Array Oper)(aA i:Nat):Bool:=match ops[aA]? with
 | some o=>o.after.any λe=>Region.binds md e&&decide (e.on=i)
 | none=>false
def I4(md:Region.Mode)(ops:Array Oper)(aA n:Nat):List (Nat×Nat)->Array Bool->Bool
 | [],listed=>Region.seqB md ops (ops.size-n) n listed
 | (i,0):: r,listed=>decide (i<n)&&decide (Region.ready md ops listed=[i])&&I4 md ops aA n r (listed.setIfInBounds i true)
 | (i,1):: r,listed=>decide (i<n)&&((Region.ready md ops listed).contains i&&Region.free md ops listed i)&&(decide (i≠aA)&&N8 md ops aA i)&&I4 md ops aA n r (listed.setIfInBounds i true)
 | (i,_+2):: r,listed=>decide (i<n)&&((Region.ready md ops listed).contains i&&Region.free md ops listed i)&&decide (i≠aA)&&I4 md ops aA n r (listed.setIfInBounds i true)
def Nr(ops:Array Oper)(aA n:Nat)(h:List (Nat×Nat)):Bool:=
 Region.noSelect ops&&decide (n<ops.size)&&decide (h.length=n)&&Region.sinkB .any ops n&&Region.chainB .any ops n&&I4 .any ops aA n h (Array.replicate ops.size false)
def VE{aA i n:Nat}{S:World->Prop}{listed:Array Bool}{w:World}(h:N8 md ops aA i=true)(H:HeadInv md ops n listed)(I:i∈Region.ready md ops listed)(z:SB aA S listed w):S w:=by
 rcases z with O|z
 ·unfold N8 at h;cases ho:ops[aA]? with
  | none=>rw[ho]at h;cases h
  | some o=>
   rw[ho]at h;have⟨e,he,h2⟩:=Array.any_eq_true'.1 h;simp only[Gp,DT]at h2;have:=H.closed aA o ho O e he h2.1;rw[h2.2,getD_both (Ib.1 I).1]at this;cases this
 ·exact z
def Lw{aA n:Nat}{S:World->Prop}{T:Act->World->Prop}(I:Region.noSelect ops=true)(hs:Region.sinkB md ops n=true)(hc:Region.chainB md ops n=true)(hn:n<ops.size)(hQ:∀c a t v w,Q (.panic c) (Act.put a (some t) v) w->Q (.panic c) a w):
 ∀(aB:List (Nat×Nat)) (listed:Array Bool) (a:Act) (w:World),HeadInv md ops n listed->I4 md ops aA n aB listed=true->SB aA S listed w->EM P ops Q aA S T aB a w->
 wpAnyL P md ops Q (SB aA S) n (λz a' w'=>Region.seqB md ops (ops.size-n) n z=true/\T a' w') aB.length listed a w
 | [],listed,a,w,_,hB,_,h=>⟨hB,h⟩
 | (i,0):: r,listed,a,w,H,hB,hS,h=>by
  simp only[I4,Gp,DT]at hB;obtain⟨⟨O,hr⟩,Y⟩:=hB;refine⟨by rw[hr];simp,λj hj=>?_⟩;have W:i∈Region.ready md ops listed:=by rw[hr];simp
  rw[hr]at hj;have:j=i:=by simpa using hj
  subst this;refine⟨O,Kj (λa' w' h'=>?_) h⟩;have aD:SB aA S (listed.setIfInBounds j true) w':=by
   rcases h'.1 with rfl|h1
   ·refine .inl ?_;(have:j<listed.size:=by rw[H.size];omega);simp[this]
   ·exact .inr h1
  exact⟨aD,Lw I hs hc hn hQ r _ a' w' (H.set W O) Y aD h'.2⟩
 | (i,1):: r,listed,a,w,H,hB,hS,h=>by
  simp only[I4,Gp,DT]at hB;obtain⟨⟨⟨O,hr,hf⟩,X,aE⟩,Y⟩:=hB;obtain⟨o,v,h0,hy,hK⟩:=h;have W:i∈Region.ready md ops listed:=by simpa using hr
  exact wpAnyL_first X h0 (UK I) (λc a w=>by cases o.dst with|none=>exact id|some t=>exact hQ c a t v w) hs hc hn O (λl w H hr hS=>VE aE H hr hS) (λz a' w' hL=>QE hL.1) r.length listed a w H (UL h0 hf) W hy hS
   (Lw I hs hc hn hQ r _ _ w (H.set W O) Y ((SB.bp X).2 hS) hK)
 | (i,k+2):: r,listed,a,w,H,hB,hS,h=>by
  simp only[I4,Gp,DT]at hB;obtain⟨⟨⟨O,hr,hf⟩,X⟩,Y⟩:=hB;obtain⟨o,v,h0,hy,hK⟩:=h;have W:i∈Region.ready md ops listed:=by simpa using hr
  exact wpAnyL_first X h0 (UK I) (λc a w=>by cases o.dst with|none=>exact id|some t=>exact hQ c a t v w) hs hc hn O (λ_ _ _ _ _=>trivial) (λz a' w' hL=>QE hL.1) r.length listed a w H (UL h0 hf) W hy hS
   (Lw I hs hc hn hQ r _ _ w (H.set W O) Y ((SB.bp X).2 hS) hK)
end
section
variable{P:Program}{ops:Array Oper}{Q:Exit->Act->World->Prop}{aA:Nat}{S:World->Prop}{T:Act->World->Prop}
def Vr{id:Nat}{a:Act}{w:World}{l:List Oper}(aA:Nat)(S:World->Prop)(n:Nat)(z:List (Nat×Nat))(hm:P.follows .mixedOrders=true)(Y:Nr l.toArray aA n z=true)(hQ:∀c a t v w,Q (.panic c) (Act.put a (some t) v) w->Q (.panic c) a w)(hS:S w.drew)(h:EM P l.toArray Q aA S (λa w=>wpList P l.toArray Q (l.drop n) a w) z a w.drew):(Code.region id l.toArray true).wp P Q a w:=by
 simp only[Nr,Gp,DT]at Y;obtain⟨⟨⟨⟨⟨hsel,hn⟩,hsl⟩,hs⟩,hc⟩,hgo⟩:=Y;have O:(l.drop n).length=l.toArray.size-n:=by simp
 have I:HeadInv .any l.toArray n (Array.replicate l.toArray.size false):=
  ⟨by simp,λj oj _ X=>(by rw[JN]at X;cases X),λt _ ht=>getD_in (by simpa using ht) (JN _ _)⟩
 have H:=Lw (md:=.any) (T:=λa w=>wpList P l.toArray Q (l.drop n) a w) hsel hs hc hn hQ z _ a w.drew I hgo (.inr hS) h;refine PQ hm ?_
 have:=PU (Q:=Q) (g:=l.toArray.size-n) (λlisted a' w' W=>by
  have:=PR (md:=.any) (Q':=Q) (l.drop n) n listed a' w' (λj=>by simp[List.getElem?_drop]) (by rw[O];exact W.1) W.2
  rwa [O]at this) _ _ _ _ H
 rw[hsl,show n+(l.toArray.size-n)=l.toArray.size from by omega]at this;exact this
def Vs{i:Nat}{o:Oper}{v:Value}{r:List (Nat×Nat)}{a:Act}{w:World}(H:ops[i]?=some o)(z:Region.wanted o (yielded ops a.tmps)=true)(I:∀w,S w->(execOp a.eval o).run P w=.ok (.value v) w)(h:EM P ops Q aA S T r (a.put o.dst v) w):EM P ops Q aA S T ((i,1):: r) a w:=
 ⟨o,v,H,.inl ⟨z,I⟩,h⟩
def Vt{i:Nat}{o:Oper}{v:Value}{r:List (Nat×Nat)}{a:Act}{w:World}(H:ops[i]?=some o)(z:Region.wanted o (yielded ops a.tmps)=true)(I:∀w,(execOp a.eval o).run P w=.ok (.value v) w)(h:EM P ops Q aA S T r (a.put o.dst v) w):EM P ops Q aA S T ((i,2):: r) a w:=
 ⟨o,v,H,.inl ⟨z,λw _=>I w⟩,h⟩
def Vu{o:Oper}{r:List (Nat×Nat)}{a:Act}{w:World}(I:ops[aA]?=some o)(z:Region.wanted o (yielded ops a.tmps)=true)(h:∀K:Act->World->Prop,(∀a w,EM P ops Q aA S T r a w->K a w)->o.wp P a w K Q):EM P ops Q aA S T ((aA,0):: r) a w:=by
 show wpOp P ops Q aA _ a w;unfold wpOp;simp only[I,z,Cn];exact .inl (h _ λa w H=>⟨by simp,H⟩)
def I0{i:Nat}{o:Oper}{v:Value}{r:List (Nat×Nat)}{a z:Act}{w:World}(h:EM P ops Q aA S T r z w)(I:ops[i]?=some o:=by rfl)(H:Region.wanted o (yielded ops a.tmps)=true:=by rfl)(O:∀w,S w->(execOp a.eval o).run P w=.ok (.value v) w:=by intro w' X;(try dsimp only at X);go_simp;try with_reducible rfl)(W:a.put o.dst v=z:=by simp only[BQ];rfl):EM P ops Q aA S T ((i,1):: r) a w:=Vs I H O (W ▸ h)
def I1{i:Nat}{o:Oper}{v:Value}{r:List (Nat×Nat)}{a z:Act}{w:World}(h:EM P ops Q aA S T r z w)(I:ops[i]?=some o:=by rfl)(H:Region.wanted o (yielded ops a.tmps)=true:=by rfl)(O:∀w,(execOp a.eval o).run P w=.ok (.value v) w:=by intro w';go_simp;try with_reducible rfl)(W:a.put o.dst v=z:=by simp only[BQ];rfl):EM P ops Q aA S T ((i,2):: r) a w:=Vt I H O (W ▸ h)
def Lu{o:Oper}{r:List (Nat×Nat)}{a:Act}{w:World}(h:∀K:Act->World->Prop,(∀a w,EM P ops Q aA S T r a w->K a w)->o.wp P a w K Q)(H:ops[aA]?=some o:=by rfl)(z:Region.wanted o (yielded ops a.tmps)=true:=by rfl):
 EM P ops Q aA S T ((aA,0):: r) a w:=Vu H z h
def Lt{a:Act}{w:World}{l z:List Oper}{n:Nat}(h:wpList P l.toArray Q z a w)(H:l.drop n=z:=by simp only[UO,UN];rfl):EM P l.toArray Q aA S (λa w=>wpList P l.toArray Q (l.drop n) a w) [] a w:=by subst H;exact h
def Ls{id:Nat}{a:Act}{w:World}{l:List Oper}(aA:Nat)(S:World->Prop)(n:Nat)(z:List (Nat×Nat))(I:S w.drew)(h:EM P l.toArray Q aA S (λa w=>wpList P l.toArray Q (l.drop n) a w) z a w.drew)(H:P.follows .mixedOrders=true:=by kernel_rfl)(O:Nr l.toArray aA n z=true:=by kernel_rfl)(W:∀c a t v w,Q (.panic c) (Act.put a (some t) v) w->Q (.panic c) a w:=by exact λ_ _ _ _ _ h=>h):(Code.region id l.toArray true).wp P Q a w:=Vr aA S n z H O W I h
end
end
section
open Go.RowKit
structure App (w w':World) (e size:Nat) (v v':Value) (n:Nat) (xs:List Value):Prop where
 AP:w'.ownsRow 0 e size v' n xs
 Cp:w.grownBy w' v.ownBlock
 Cu:v'.ownBlock=v.ownBlock\/v'.ownBlock=some w.heap.size
 BV:∃a cap,v'=.slice a n cap
def Xo{P:Program}(w:World)(t tx ty e:TypeId)(i:TypeInfo)(z:Value)(size bytes:Nat)(ht:P.underlying t=some (.slice e))(hi:P.info? e=some i)(hz:i.zero=some z)(aA:i.size=size)(aM:i.bytes=bytes)(aO:z.cells.size=size)(aL:0<bytes)(v:Value)(n:Nat)(xs:List Value)(h:w.ownsRow 0 e size v n xs)(x:Value)(m:Nat)(news:List Value)(X:Src P size tx x m news w)(O:(n+m)*bytes<=140737488355328):
 ∃v' w',(Builtin.append_ #[t,tx] ty #[v,x]).run P w=.ok v' w'/\App w w' e size v v' (n+m) (xs++news):=by
 subst aA;subst aM;have hnm:=AH (Nat.le_mul_of_pos_right _ aL) O;have H:(xs++news).length=(n+m)*i.size:=by rw[AX,h.1,X.newsLen,Hq]
 obtain⟨a,cap,rfl,hnc,aJ,_,aG,aB⟩:=Bb h;by_cases I:n+m<=cap
 ·rcases h.2 with⟨h1,h2⟩|⟨g,cap',W,h1,_,hg,_,_,aN,aD⟩
  ·cases h1;(obtain rfl:m=0:=by omega);have hn:=MV (by simpa using X.newsLen);subst hn;have hx:=MV (by simpa using h.1);subst hx;refine⟨.slice none 0 0,w,?_,⟨CL w 0 e i.size,⟨rfl,rfl,rfl,Aq _,λ_ _ _=>rfl⟩,.inl rfl,⟨none,0,rfl⟩⟩⟩;rcases X.kind with⟨e',Y⟩|Y<;>simp[Builtin.append_,run_underlying ht,run_underlying Y,sizeOf,typeInfo,hi,X.len,X.cells]
  ·cases h1;(have aH:n*i.size+news.length<=W.size:=by rw[X.newsLen,aN,<-Hq];exact HM _ I);have aE:=run_storeCells_at P g (n*i.size) e news 0 W w hg (by simpa using aH) X.one;simp only[Pg]at aE;have hr:(Builtin.append_ #[t,tx] ty #[AN g n cap,x]).run P w=.ok (AN g (n+m) cap) (w.setRow g (W.toList.take (n*i.size)++news++W.toList.drop (n*i.size+news.length)).toArray):=by
    rcases X.kind with⟨e',Y⟩|Y<;>simp[Builtin.append_,run_underlying ht,run_underlying Y,sizeOf,typeInfo,hi,X.len,I,X.cells,Addr.add_lit,aE]
   refine⟨_,_,hr,⟨⟨H,.inr ⟨g,cap,_,rfl,C8 _,Kr w g W _ e _ hg,I,aJ,?_,?_⟩⟩,⟨rfl,rfl,rfl,by simp,λk _ Y=>Jr w g k _ (λe=>Y (by simp[Value.ownBlock,e]))⟩,.inl rfl,⟨_,_,rfl⟩⟩⟩
   ·simp only[Le,AX,BU,CM,Jh];omega
   ·rw[aD,<-H];exact K5
 ·have aF:(Builtin.firstCells i.size n (.slice a n cap)).run P w.drew=.ok xs.toArray w.drew:=by
   cases a with
   | none=>
    obtain⟨rfl,_⟩:=aG rfl;have hx:=MV (by simpa using h.1);subst hx;exact run_firstCells_none w.drew i.size 0 0 cap
   | some ad=>
    obtain⟨g,rfl⟩:=aB ad rfl;exact QR w.drew i.size n _ n cap xs h.1 (by simpa using h.cells (g:=g) rfl)
  have hr:=run_append_grow_src (P:=P) w t tx ty e i z ht hi hz a n cap xs aF x m news X (by omega) (by omega) (growslice_fits (by omega) O);have aI:=grownCap_ge w (n+m) cap e;have aK:=grownCap_le_maxLen w (n+m) cap e (by unfold maxLen;omega);refine⟨_,_,hr,⟨⟨H,.inr ⟨w.heap.size,_,_,rfl,C8 _,BN w.drew _,aI,aK,?_,?_⟩⟩,⟨rfl,rfl,rfl,by simp,λk Y _=>CU w.drew _ k Y⟩,.inr rfl,⟨_,_,rfl⟩⟩⟩
  ·simp only[Array.size_append,Le,size_zeroCells,aO,H,<-Hq]
   congr 1
   omega
  ·simp only[PK];rw[<-H];exact K5
section
variable{P:Program}{w:World}
def Hx{o:Oper}{a:Act}{K:Act->World->Prop}{Q:Exit->Act->World->Prop}(s x:Operand)(t tx:TypeId)(ho:o.op=.call {callee:=.builtin .append,args:=#[s,x],argTypes:=#[t,tx]})(e:TypeId)(i:TypeInfo)(z:Value)(size bytes:Nat)(ht:P.underlying t=some (.slice e))(hi:P.info? e=some i)(hz:i.zero=some z)(I:i.size=size)(X:i.bytes=bytes)(Y:z.cells.size=size)(W:0<bytes)(v:Value)(n:Nat)(xs:List Value)(hv:a.eval s=v)(O:w.ownsRow 0 e size v n xs)(sv:Value)(m:Nat)(news:List Value)(hx:a.eval x=sv)(hs:Src P size tx sv m news w)(H:(n+m)*bytes<=140737488355328)(h:∀b cap w',App w w' e size v (.slice b (n+m) cap) (n+m) (xs++news)->K (a.put o.dst (.slice b (n+m) cap)) w'):o.wp P a w K Q:=by
 have⟨v',w',hr,hA⟩:=Xo (P:=P) w t tx o.type e i z size bytes ht hi hz I X Y W v n xs O sv m news hs H;obtain⟨b,cap,rfl⟩:=hA.BV;unfold Oper.wp execOp;simp only[ho,resolve,invoke,builtin,Sem.run_bind,Sem.run_pure,Result.andThen_ok,List.map_toArray,F8,List.map_nil,hv,hx,hr];exact h b cap w' hA
def De{ops:Array Oper}{rest:List Oper}{o:Oper}{a:Act}{Q:Exit->Act->World->Prop}(W:o.guard=none)(s x:Operand)(t tx:TypeId)(ho:o.op=.call {callee:=.builtin .append,args:=#[s,x],argTypes:=#[t,tx]})(e:TypeId)(i:TypeInfo)(z:Value)(size bytes:Nat)(ht:P.underlying t=some (.slice e))(hi:P.info? e=some i)(hz:i.zero=some z)(I:i.size=size)(Y:i.bytes=bytes)(aA:z.cells.size=size)(X:0<bytes)(v:Value)(n:Nat)(xs:List Value)(hv:a.eval s=v)(O:w.ownsRow 0 e size v n xs)(sv:Value)(m:Nat)(news:List Value)(hx:a.eval x=sv)(hs:Src P size tx sv m news w)(H:(n+m)*bytes<=140737488355328)(h:∀b cap w',App w w' e size v (.slice b (n+m) cap) (n+m) (xs++news)->wpList P ops Q rest (a.put o.dst (.slice b (n+m) cap)) w'):wpList P ops Q (o::rest) a w:=
 wpList_plain W λ_ hK=>Hx s x t tx ho e i z size bytes ht hi hz I Y aA X v n xs hv O sv m news hx hs H λb cap w' hA=>hK _ _ (h b cap w' hA)
def Jp{y:Nat->Option Bool}{o:Oper}{a:Act}{K:Act->World->Prop}{Q:Exit->Act->World->Prop}{E:Prop}(W:o.guard=none)(s x:Operand)(t tx:TypeId)(ho:o.op=.call {callee:=.builtin .append,args:=#[s,x],argTypes:=#[t,tx]})(e:TypeId)(i:TypeInfo)(z:Value)(size bytes:Nat)(ht:P.underlying t=some (.slice e))(hi:P.info? e=some i)(hz:i.zero=some z)(I:i.size=size)(Y:i.bytes=bytes)(aA:z.cells.size=size)(X:0<bytes)(v:Value)(n:Nat)(xs:List Value)(hv:a.eval s=v)(O:w.ownsRow 0 e size v n xs)(sv:Value)(m:Nat)(news:List Value)(hx:a.eval x=sv)(hs:Src P size tx sv m news w)(H:(n+m)*bytes<=140737488355328)(h:∀b cap w',App w w' e size v (.slice b (n+m) cap) (n+m) (xs++news)->K (a.put o.dst (.slice b (n+m) cap)) w'):
 if Region.wanted o y=true then Oper.wp P o a w K Q else E:=by
 have hw:Region.wanted o y=true:=by simp[Region.wanted,W]
 rw[Ah hw];exact Hx s x t tx ho e i z size bytes ht hi hz I Y aA X v n xs hv O sv m news hx hs H h
def Src.cw{size:Nat}{z W:TypeId}(H:P.underlying z=some (.slice W)){B:Nat}{h:Array Value}{t:TypeId}{Y:Nat×Nat}(X:w.heap[B]?=some (.cells h t Y))(m c:Nat)(I:h.size=m*size)(O:∀u∈h.toList,u.oneCell'=true):Src P size z (.slice (some ⟨B,0,none⟩) m c) m h.toList w:=
 L9 w H _ m c _ (by simpa using I) (World.news_of_block X) O
def Src.ba{size:Nat}{z X:TypeId}(H:P.underlying z=some (.slice X))(w:World)(h:Array Value)(t B:Nat)(W:w.heap.size=B)(m c:Nat)(I:h.size=m*size)(O:∀u∈h.toList,u.oneCell'=true):Src P size z (.slice (some ⟨B,0,none⟩) m c) m h.toList (w.alloc (.cells h t)):=by
 subst W;exact Src.cw H (BN _ _) m c I O
def Src.bM{size:Nat}{O X e:TypeId}(I:P.underlying O=some (.slice X)){v:Value}{m:Nat}{news:List Value}(h:w.ownsRow 0 e size v m news)(W:∀u∈news,u.oneCell'=true):Src P size O v m news w:=by
 obtain⟨a,cap,rfl,_,_,_,H,z⟩:=Bb h;cases a with
 | none=>
  obtain⟨rfl,rfl⟩:=H rfl;have Y:=MV (by simpa using h.1);subst Y;exact Src.ofNil w I 0
 | some ad=>
  obtain⟨g,rfl⟩:=z ad rfl;exact L9 w I _ m cap news h.1 (h.cells rfl) W
end
def Bk:List Pt->List Value
 | []=>[]
 | (t,v):: r=>A0 t::A0 v::Bk r
def Gt(l:List Pt):(Bk l).length=l.length*2:=by
 induction l with
 | nil=>rfl
 | cons e r ih=>obtain⟨n,f⟩:=e;simp only[Bk,BM,ih];omega
def RK(a b:List Pt):Bk (a++b)=Bk a++Bk b:=by
 induction a with
 | nil=>rfl
 | cons e r ih=>obtain⟨n,f⟩:=e;simp[Bk,ih]
def NH(l:List Pt)(k:Nat):(Bk l).take (k*2)=Bk (l.take k):=by
 induction l generalizing k with
 | nil=>simp[Bk]
 | cons e r ih=>
  obtain⟨n,f⟩:=e
  match k with
  | 0=>simp[Bk]
  | k+1=>rw[show (k+1)*2=k*2+1+1 from by omega];simp[Bk,ih]
def NJ(l:List Pt)(k:Nat):(Bk l).drop (k*2)=Bk (l.drop k):=by
 induction l generalizing k with
 | nil=>simp[Bk]
 | cons e r ih=>
  obtain⟨n,f⟩:=e
  match k with
  | 0=>simp[Bk]
  | k+1=>rw[show (k+1)*2=k*2+1+1 from by omega];simp[Bk,ih]
def Yl(l:List Pt)(k:Nat)(h:k<l.length):(Bk l)[k*2]?=some (A0 (l[k]'h).1):=by
 induction l generalizing k with
 | nil=>simp at h
 | cons e r ih=>
  obtain⟨n,f⟩:=e
  match k with
  | 0=>simp[Bk]
  | k+1=>
   have:=ih k (by simpa using h);rw[show (k+1)*2=k*2+1+1 from by omega];simpa[Bk] using this
def Yk(l:List Pt)(k:Nat)(h:k<l.length):(Bk l)[k*2+1]?=some (A0 (l[k]'h).2):=by
 induction l generalizing k with
 | nil=>simp at h
 | cons e r ih=>
  obtain⟨n,f⟩:=e
  match k with
  | 0=>simp[Bk]
  | k+1=>
   have:=ih k (by simpa using h);rw[show (k+1)*2+1=k*2+1+1+1 from by omega];simpa[Bk] using this
def Ym(l:List Pt)(k:Nat)(p:Pt)(h:k<l.length):((Bk l).set (k*2) (A0 p.1)).set (k*2+1) (A0 p.2)=Bk (l.set k p):=by
 induction l generalizing k with
 | nil=>simp at h
 | cons e r ih=>
  obtain⟨n,f⟩:=e
  match k with
  | 0=>simp[Bk]
  | k+1=>
   have:=ih k (by simpa using h);rw[show (k+1)*2=k*2+1+1 from by omega];simp only[Bk,V3];rw[this]
def NI(l:List Pt):∀u∈Bk l,u.oneCell'=true:=by
 induction l with
 | nil=>simp[Bk]
 | cons e r ih=>
  obtain⟨n,f⟩:=e;intro u hu;simp only[Bk,BF]at hu;rcases hu with rfl|rfl|hu
  ·rfl
  ·rfl
  ·exact ih u hu
def El(w:World)(v:Value)(l:List Pt):Prop:=w.ownsRow 0 88 2 v l.length (Bk l)
def El.bF{w:World}{g n cap:Nat}{l:List Pt}(h:El w (AN g n cap) l)(k:Nat)(z:k<l.length):Aa w g (k*2) (A0 (l[k]'z).1)/\Aa w g (k*2+1) (A0 (l[k]'z).2):=by
 have H:n=l.length:=by
  have⟨_,_,e,_⟩:=Bb h;cases e;rfl
 subst H;exact⟨BB h rfl (Yl l k z),BB h rfl (Yk l k z)⟩
abbrev Pu:=Int×Int×Int
def Ba:List Pu->List Value
 | []=>[]
 | (s,t,v):: r=>A0 s::A0 t::A0 v::Ba r
def IJ(a b:List Pu):Ba (a++b)=Ba a++Ba b:=by
 induction a with
 | nil=>rfl
 | cons e r ih=>obtain⟨n,f,g⟩:=e;simp[Ba,ih]
def He(l:List Pu)(k:Nat)(h:k<l.length):(Ba l)[k*3]?=some (A0 (l[k]'h).1)/\(Ba l)[k*3+1]?=some (A0 (l[k]'h).2.1)/\(Ba l)[k*3+2]?=some (A0 (l[k]'h).2.2):=by
 induction l generalizing k with
 | nil=>simp at h
 | cons e r ih=>
  obtain⟨n,f,g⟩:=e
  match k with
  | 0=>simp[Ba]
  | k+1=>
   have⟨h1,h2,h3⟩:=ih k (by simpa using h);rw[show (k+1)*3=k*3+1+1+1 from by omega];refine⟨by simpa[Ba] using h1,by simpa[Ba] using h2,by simpa[Ba] using h3⟩
def I6(l:List Pu):∀u∈Ba l,u.oneCell'=true:=by
 induction l with
 | nil=>simp[Ba]
 | cons e r ih=>
  obtain⟨n,f,g⟩:=e;intro u hu;simp only[Ba,BF]at hu;rcases hu with rfl|rfl|rfl|hu
  ·rfl
  ·rfl
  ·rfl
  ·exact ih u hu
structure DS where
 A6:List AI
 AK:List AI
 Ap:List (List AI)
 n:DN
abbrev FC:=List UInt8×Int
def D9(f:Nat)(es:List AI):Prop:=∃e∈es,e.2=f
def DS.As(D:DS)(f:Nat):Prop:=D9 f D.A6\/D9 f D.AK\/∃c∈D.Ap,D9 f c
structure BY (w:World) (b:Nat) (D:DS) (F:Nat->FC) (vd vs vc:Value) (aA:List Value) (VB:Nat->Value):Prop where
 Ai:AO w b vd vs vc D.n
 A6:CG w vd D.A6
 AK:CG w vs D.AK
 An:w.ownsRow 0 98 1 vc D.Ap.length aA
 Da:∀i (h:i<D.Ap.length),∃v,aA[i]?=some v/\CG w v (D.Ap[i]'h)
 BL:∀f,D.As f->CY w f (VB f) (F f).2/\FQ w (VB f) (F f).1
 Gb:∀f f' g,D.As f->D.As f'->(VB f).ownBlock=some g->(VB f').ownBlock=some g->f=f'
def C7(b:Nat)(D:DS)(vd vs vc:Value)(aA:List Value)(VB:Nat->Value)(k:Nat):Prop:=
 k=b\/vd.ownBlock=some k\/vs.ownBlock=some k\/vc.ownBlock=some k\/(∃v∈aA,v.ownBlock=some k)\/D.As k\/∃f,D.As f/\(VB f).ownBlock=some k
section
variable{b:Nat}{D:DS}{vd vs vc:Value}{aA:List Value}{VB:Nat->Value}
def C7.Ai:C7 b D vd vs vc aA VB b:=.inl rfl
def C7.A6{k:Nat}(h:vd.ownBlock=some k):C7 b D vd vs vc aA VB k:=.inr (.inl h)
def C7.AK{k:Nat}(h:vs.ownBlock=some k):C7 b D vd vs vc aA VB k:=.inr (.inr (.inl h))
def C7.An{k:Nat}(h:vc.ownBlock=some k):C7 b D vd vs vc aA VB k:=.inr (.inr (.inr (.inl h)))
def C7.Da{k:Nat}{v:Value}(z:v∈aA)(h:v.ownBlock=some k):C7 b D vd vs vc aA VB k:=.inr (.inr (.inr (.inr (.inl ⟨v,z,h⟩))))
def C7.BL{f:Nat}(h:D.As f):C7 b D vd vs vc aA VB f:=.inr (.inr (.inr (.inr (.inr (.inl h)))))
def C7.bw{f k:Nat}(z:D.As f)(h:(VB f).ownBlock=some k):C7 b D vd vs vc aA VB k:=.inr (.inr (.inr (.inr (.inr (.inr ⟨f,z,h⟩)))))
def C7.bE{z:(k:Nat)->C7 b D vd vs vc aA VB k->Prop}(Ai:z b .Ai)(dir:∀ {k} (e:vd.ownBlock=some k),z k (.A6 e))(Ag:∀ {k} (e:vs.ownBlock=some k),z k (.AK e))(An:∀ {k} (e:vc.ownBlock=some k),z k (.An e))(Da:∀ {k v} (I:v∈aA) (e:v.ownBlock=some k),z k (.Da I e))(BL:∀ {f} (h:D.As f),z f (.BL h))(byt:∀ {f k} (H:D.As f) (e:(VB f).ownBlock=some k),z k (.bw H e)){k:Nat}(t:C7 b D vd vs vc aA VB k):z k t:=by
 rcases t with rfl|e|e|e|⟨v,I,e⟩|h|⟨f,H,e⟩
 ·exact Ai
 ·exact dir e
 ·exact Ag e
 ·exact An e
 ·exact Da I e
 ·exact BL h
 ·exact byt H e
end
def D7(w:World)(b:Nat)(D:DS)(F:Nat->FC)(Ft:Nat->Prop):Prop:=
 ∃vd vs vc aA VB,BY w b D F vd vs vc aA VB/\∀k,C7 b D vd vs vc aA VB k->Ft k
section
variable{w w':World}{b:Nat}{D:DS}{F:Nat->FC}{vd vs vc:Value}{aA:List Value}{VB:Nat->Value}
def BY.db(h:BY w b D F vd vs vc aA VB):aA.length=D.Ap.length:=by have:=h.An.1;omega
def BY.lt(h:BY w b D F vd vs vc aA VB){k:Nat}(H:C7 b D vd vs vc aA VB k):k<w.heap.size:=by
 cases H using C7.bE with
 | Ai=>exact Bo h.Ai
 | dir e=>exact AG h.A6 e
 | Ag e=>exact AG h.AK e
 | An e=>exact AG h.An e
 | Da hv e=>
  have⟨i,hi⟩:=List.getElem?_of_mem hv;have z:i<D.Ap.length:=by rw[<-h.db];exact(Hs.1 hi).1
  have⟨v',h1,h2⟩:=h.Da i z;rw[hi]at h1;cases h1;exact AG h2 e
 | BL hf=>exact Bo (h.BL _ hf).1
 | byt hf e=>exact AG (h.BL _ hf).2 e
def BY.aM(h:BY w b D F vd vs vc aA VB)(H:G3 (C7 b D vd vs vc aA VB) w w'):BY w' b D F vd vs vc aA VB:=by
 refine⟨?_,?_,?_,?_,?_,?_,h.Gb⟩
 ·have:=h.Ai;unfold AO at this ⊢;rw[H b .Ai];exact this
 ·exact AA h.A6 λg z=>H g (.A6 z)
 ·exact AA h.AK λg z=>H g (.AK z)
 ·exact AA h.An λg z=>H g (.An z)
 ·intro i O;have⟨v,h1,h2⟩:=h.Da i O;exact⟨v,h1,AA h2 λg z=>H g (.Da (Li h1) z)⟩
 ·intro f I;have⟨h1,h2⟩:=h.BL f I;refine⟨?_,AA h2 λg z=>H g (.bw I z)⟩;unfold CY at h1 ⊢;rw[H f (.BL I)];exact h1
def D7.aM{Ft:Nat->Prop}(h:D7 w b D F Ft)(I:G3 Ft w w'):D7 w' b D F Ft:=by
 obtain⟨vd,vs,vc,aA,VB,H,z⟩:=h;exact⟨vd,vs,vc,aA,VB,H.aM (I.ae z),z⟩
def BP{w:World}{g k:Nat}{c W:Array Value}{e I:Nat}(h:w.heap[g]?=some (.cells c e (0,0)))(H:w.heap[k]?=some (.cells W I (0,0)))(z:e≠I):g≠k:=by
 intro O;subst O;rw[h]at H;cases H;exact z rfl
def BY.ai(h:BY w b D F vd vs vc aA VB){n:DN}(W:AO w' b vd vs vc n)(X:A5 (One b) w w'):BY w' b {D with n:=n} F vd vs vc aA VB:=by
 have z:∀(k:Nat) (c:Array Value) (e:Nat),w.heap[k]?=some (Obj.cells c e (0,0))->e≠60->w'.heap[k]?=w.heap[k]?:=λk c e z O=>
  X.Ao k (Bo z) (BP z h.Ai O)
 refine⟨W,?_,?_,?_,?_,?_,h.Gb⟩
 ·exact AA h.A6 λg H=>by have⟨c,hh⟩:=Bd h.A6 H;exact z g _ _ hh (by decide)
 ·exact AA h.AK λg H=>by have⟨c,hh⟩:=Bd h.AK H;exact z g _ _ hh (by decide)
 ·exact AA h.An λg H=>by have⟨c,hh⟩:=Bd h.An H;exact z g _ _ hh (by decide)
 ·intro i Y;have⟨v,h1,h2⟩:=h.Da i Y;exact⟨v,h1,AA h2 λg H=>by have⟨c,hh⟩:=Bd h2 H;exact z g _ _ hh (by decide)⟩
 ·intro f I;have⟨h1,h2⟩:=h.BL f I;refine⟨?_,AA h2 λg H=>by have⟨c,hh⟩:=Bd h2 H;exact z g _ _ hh (by decide)⟩;unfold CY at h1 ⊢;rw[z f _ _ h1 (by decide)];exact h1
end
def lookup:List AI->ByteArray->Option Nat
 | [],_=>none
 | e::r,name=>if e.1=name then some e.2 else lookup r name
def IQ(es:List AI)(name:ByteArray):(B4 es name = -1/\lookup es name=none)\/∃k,∃z:k<es.length,B4 es name=(k:Int)/\lookup es name=some (es[k]'z).2/\(es[k]'z).1=name:=by
 induction es with
 | nil=>exact .inl ⟨rfl,rfl⟩
 | cons e r ih=>
  by_cases h:e.1=name
  ·exact .inr ⟨0,by simp,by simp[B4,h],by simp[lookup,h],by simpa using h⟩
  ·rcases ih with⟨I,H⟩|⟨k,z,I,H,O⟩
   ·exact .inl ⟨by simp[B4,h,I],by simp[lookup,h,H]⟩
   ·exact .inr ⟨k+1,by simpa using z,by simp only[B4,h,C4,I];rw[Ae (by omega)];omega,by simp[lookup,h,H],by simpa using O⟩
def BY.cd{w:World}{b:Nat}{D:DS}{F:Nat->FC}{vd vs vc:Value}{aA:List Value}{VB:Nat->Value}(h:BY w b D F vd vs vc aA VB)(k:Nat)(z:k<D.A6.length):
 CY w (D.A6[k]'z).2 (VB (D.A6[k]'z).2) (F (D.A6[k]'z).2).2/\FQ w (VB (D.A6[k]'z).2) (F (D.A6[k]'z).2).1:=h.BL _ (.inl ⟨_,BS z,rfl⟩)
def FQ.BV{w:World}{v:Value}{bs:List UInt8}(h:FQ w v bs):∃a cap,v=.slice a bs.length cap/\bs.length<=cap/\cap<=maxLen:=by
 have⟨a,cap,h1,h2,h3,_⟩:=Bb h;exact⟨a,cap,h1,h2,h3⟩
def Ds(w:World)(Ft:Nat->Prop)(w':World)(b:Nat)(D':DS)(F':Nat->FC):Prop:=
 A5 Ft w w'/\∃h,D7 w' b D' F' h/\(∀k,h k->k<w'.heap.size)/\∀k,h k->Ft k\/w.heap.size<=k
def Ds.bt{w w':World}{Ft:Nat->Prop}{b:Nat}{D':DS}{F':Nat->FC}{vd vs vc:Value}{aA:List Value}{VB:Nat->Value}(I:A5 Ft w w')(h:BY w' b D' F' vd vs vc aA VB)(H:∀k,C7 b D' vd vs vc aA VB k->Ft k\/w.heap.size<=k):Ds w Ft w' b D' F':=
 ⟨I,_,⟨vd,vs,vc,aA,VB,h,λ_ z=>z⟩,λ_ z=>h.lt z,H⟩
def BY.ct{w w':World}{b:Nat}{D:DS}{F F':Nat->FC}{vd vs vc vl aE:Value}{aA:List Value}{VB VB':Nat->Value}{n:DN}{es:List AI}{S:Nat->Prop}(h:BY w b D F vd vs vc aA VB)(hb:AO w' b vl vs aE n)(aH:w'.ownsRow 0 98 1 aE (D.Ap.length+1) (aA++[vl]))(aF:CG w' vl es)(hc:A5 S w w')(hS:∀k,S k->k=b\/vc.ownBlock=some k)(hF:∀f,D.As f->F' f=F f/\VB' f=VB f)(Y:∀f,D9 f es->D.As f\/(CY w' f (VB' f) (F' f).2/\FQ w' (VB' f) (F' f).1/\(VB' f).ownBlock=none)):
 BY w' b {D with A6:=es,Ap:=D.Ap++[es],n:=n} F' vl vs aE (aA++[vl]) VB':=by
 have W:∀(k:Nat) (c:Array Value) (e:Nat),w.heap[k]?=some (Obj.cells c e (0,0))->e≠60->e≠98->w'.heap[k]?=w.heap[k]?:=λk c e W he aI=>
  hc.Ao k (Bo W) (λhs=>by
   rcases hS k hs with hs|hs
   ·exact BP W h.Ai he hs
   ·have⟨c',hh⟩:=Bd h.An hs
    exact BP W hh aI rfl)
 have O:∀f,({D with A6:=es,Ap:=D.Ap++[es],n:=n}:DS).As f->D.As f\/D9 f es:=by
  rintro f (z|z|⟨c,H,z⟩)
  ·exact .inr z
  ·exact .inl (.inr (.inl z))
  ·rcases AU.1 H with H|H
   ·exact .inl (.inr (.inr ⟨c,H,z⟩))
   ·simp at H;subst H;exact .inr z
 have X:∀f,D.As f->CY w' f (VB' f) (F' f).2/\FQ w' (VB' f) (F' f).1:=by
  intro f z;have⟨h1,h2⟩:=h.BL f z;rw[(hF f z).1,(hF f z).2];refine⟨?_,AA h2 λg I=>by have⟨c,hh⟩:=Bd h2 I;exact W g _ _ hh (by decide) (by decide)⟩;unfold CY at h1 ⊢;rw[W f _ _ h1 (by decide) (by decide)];exact h1
 refine⟨hb,aF,?_,?_,?_,?_,?_⟩
 ·exact AA h.AK λg I=>by have⟨c,hh⟩:=Bd h.AK I;exact W g _ _ hh (by decide) (by decide)
 ·simpa using aH
 ·intro i hi;by_cases aB:i<D.Ap.length
  ·have⟨v,h1,h2⟩:=h.Da i aB;refine⟨v,by rw[Iw (by rw[h.db];exact aB)];exact h1,?_⟩;simp only[F9 aB];(exact AA h2 λg I=>by have⟨c,hh⟩:=Bd h2 I;exact W g _ _ hh (by decide) (by decide))
  ·(obtain rfl:i=D.Ap.length:=by simp at hi;omega);refine⟨vl,by rw[<-h.db];simp,?_⟩;simpa using aF
 ·intro f z;rcases O f z with z|z
  ·exact X f z
  ·rcases Y f z with z|⟨h1,h2,_⟩
   ·exact X f z
   ·exact⟨h1,h2⟩
 ·intro f f' g z aG I aD;have key:∀f,({D with A6:=es,Ap:=D.Ap++[es],n:=n}:DS).As f->(VB' f).ownBlock=some g->D.As f:=by
   intro f z I;rcases O f z with z|z
   ·exact z
   ·rcases Y f z with z|⟨_,_,h3⟩
    ·exact z
    ·rw[h3]at I;cases I
  have k1:=key f z I;have k2:=key f' aG aD;rw[(hF f k1).2]at I;rw[(hF f' k2).2]at aD;exact h.Gb f f' g k1 k2 I aD
end
section
open Go.RowKit
attribute [local go_sem ↓] Go.wp_at_zero Go.wp_at_succ
def H5(t h Ac:Int):Bool:=decide (t+h>Ac)
def AY(x:Int):Prop:=-9223372036854775808<=x/\x<=9223372036854775807
end
end Go.Proofs.YtodcnkbblippnabGreatDoor
