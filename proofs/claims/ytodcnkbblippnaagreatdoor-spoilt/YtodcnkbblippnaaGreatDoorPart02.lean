/- Part 2 of a proof: walks of the program. -/
import Derived.RegionTactic
import Derived.Lib.AppendZeros
import Derived.Lib.Overlaps
import Derived.Lib.SliceRun
import Derived.Test.YtodcnkbblippnaaGreatDoorPart01
namespace Go.Proofs.YtodcnkbblippnaaGreatDoor
set_option maxRecDepth 100000
set_option maxHeartbeats 32000000
set_option linter.defProp false
open Go.Proofs.Tryz
section
open Go
section
variable{P:Program}{ops:Array Oper}{md:Region.Mode}{Q:Exit->Act->ga->Prop}
def SB(aA:Nat)(S:ga->Prop)(d:Array Bool)(w:ga):Prop:=d.getD aA false=true\/S w
def SB.bl{aA i:Nat}{S:ga->Prop}{d:Array Bool}{w:ga}(h:i≠aA):SB aA S (d.setIfInBounds i true) w↔SB aA S d w:=by
 unfold SB;have:(d.setIfInBounds i true).getD aA false=d.getD aA false:=by simp[Array.getD_eq_getD_getElem?,Array.getElem?_setIfInBounds_ne h]
 rw[this]
def wpAnyL(P:Program)(md:Region.Mode)(ops:Array Oper)(Q:Exit->Act->ga->Prop)(S:Array Bool->ga->Prop)(n:Nat)(L:Array Bool->Act->ga->Prop):Nat->Array Bool->Act->ga->Prop
 | 0,lf,a,w=>L lf a w
 | f+1,lf,a,w=>Region.ready md ops lf≠[]/\∀i∈Region.ready md ops lf,i<n/\wpOp P ops Q i (λa' w'=>S (lf.setIfInBounds i true) w'/\wpAnyL P md ops Q S n L f (lf.setIfInBounds i true) a' w') a w
def Re{S:Array Bool->ga->Prop}{n g:Nat}{L:Array Bool->Act->ga->Prop}(z:∀d a w,L d a w->wpAny P md ops Q g d a w):
 ∀(f:Nat) (d:Array Bool) (a:Act) (w:ga),wpAnyL P md ops Q S n L f d a w->wpAny P md ops Q (f+g) d a w
 | 0,d,a,w,h=>by rw[GF];exact z _ _ _ h
 | f+1,d,a,w,h=>by
  rw[show f+1+g=(f+g)+1 from by omega];exact⟨λH=>absurd H h.1,λi I=>L8 (λa' w' E=>Re z f _ a' w' E.2) (h.2 i I).2⟩
def wpAnyL_first{aK:ga->Prop}{aO:ga->Prop}{aA n i:Nat}{oi:Oper}{v:gd}{L:Array Bool->Act->ga->Prop}(aE:i≠aA)(hi:ops[i]?=some oi)(aD:∀(j:Nat) (o:Oper) cs b,ops[j]?=some o->o.op≠.select cs b)(hQ:∀c a w,Q (.panic c) (a.put oi.dst v) w->Q (.panic c) a w)(hs:Region.sinkB md ops n=true)(hc:Region.chainB md ops n=true)(hn:n<ops.size)(aJ:i<n)(aG:∀z w,HeadInv md ops n z->i∈Region.ready md ops z->SB aA aK z w->aO w)(aF:∀z a w,L z a w->∀j∈Region.ready md ops z,n<=j):
 ∀(f:Nat) (z:Array Bool) (a:Act) (w:ga),HeadInv md ops n z->
  (∀j oj,ops[j]?=some oj->j≠i->z.getD j true=false->(∀e∈oj.after,Region.binds md e=true->e.on≠i)->oi.apart ops oj=true)->
  i∈Region.ready md ops z->YieldsIf P ops aO oi v a->SB aA aK z w->
  wpAnyL P md ops Q (SB aA aK) n L f (z.setIfInBounds i true) (a.put oi.dst v) w->wpAnyL P md ops Q (SB aA aK) n L (f+1) z a w:=by
 intro f
 induction f with
 | zero=>
  intro z a w I _ W hy hS H;have E:=(IJ.1 W).1;refine⟨λh=>(by rw[h]at W;cases W),λj hj=>?_⟩;have aB:j<n:=by
   rcases Fc j n with h|h
   ·exact h
   ·exact absurd hj (MC hs hc hn I _ i rfl aJ E j h)
  refine⟨aB,?_⟩;by_cases d:j=i
  ·subst d;exact hy.wpOp hi (aG _ _ I W hS) ⟨(SB.bl aE).2 hS,H⟩
  ·have:=aF _ _ _ H j (Lo hj d);omega
 | succ f ih=>
  intro z a w I O W hy hS H;have E:=(IJ.1 W).1;refine⟨λh=>(by rw[h]at W;cases W),λj hj=>?_⟩;have aB:j<n:=by
   rcases Fc j n with h|h
   ·exact h
   ·exact absurd hj (MC hs hc hn I _ i rfl aJ E j h)
  refine⟨aB,?_⟩;by_cases d:j=i
  ·subst d;exact hy.wpOp hi (aG _ _ I W hS) ⟨(SB.bl aE).2 hS,H⟩
  ·have h1:=(H.2 j (Lo hj d)).2;have⟨hjun,oj,hoj,hall⟩:=IJ.1 hj;have aI:∀e∈oj.after,Region.binds md e=true->e.on≠i:=λe he hb aN=>by
    have h1:=hall e he hb;rw[aN,getD_both E]at h1;cases h1
   have h2:=wpOp_putIf hoj (O j oj hoj d hjun aI) (λcs b=>aD i oi cs b hi) (λcs b=>aD j oj cs b hoj) hQ hy h1;have Y:∀k ok,ops[k]?=some ok->k≠i->(z.setIfInBounds j true).getD k true=false->
    (∀e∈ok.after,Region.binds md e=true->e.on≠i)->oi.apart ops ok=true:=λk ok hk aM E aL=>by
    refine O k ok hk aM ?_ aL;by_cases aH:j=k
    ·subst aH;exact hjun
    ·rw[N7 true aH]at E;exact E
   refine L8 (λa' w' h3=>?_) h2;have h4:=h3.2.1;rw[Xe _ _ (QB d)]at h4;have h5:=(SB.bl aE).1 h4;refine⟨h5,ih (z.setIfInBounds j true) a' w' (I.set hj aB) Y (Lo W (QB d)) h3.1 h5 ?_⟩;rw[Xe _ _ d];exact h3.2.2
def EU(P:Program)(ops:Array Oper)(Q:Exit->Act->ga->Prop)(aA:Nat)(S:ga->Prop)(T:Act->ga->Prop):gh (Nat×Nat)->Act->ga->Prop
 | [],a,w=>T a w
 | (i,0):: r,a,w=>wpOp P ops Q i (λa' w'=>(i=aA\/S w')/\EU P ops Q aA S T r a' w') a w
 | (i,1):: r,a,w=>∃o v,ops[i]?=some o/\YieldsIf P ops S o v a/\EU P ops Q aA S T r (a.put o.dst v) w
 | (i,_+2):: r,a,w=>∃o v,ops[i]?=some o/\YieldsIf P ops (λ_=>True) o v a/\EU P ops Q aA S T r (a.put o.dst v) w
def Oa(md:Region.Mode)(ops:Array Oper)(aA i:Nat):Bool:=match ops[aA]? with
 | some o=>o.after.any λe=>Region.binds md e&&decide (e.on=i)
 | none=>false
def Iz(md:Region.Mode)(ops:Array Oper)(aA n:Nat):gh (Nat×Nat)->Array Bool->Bool
 | [],lf=>Region.seqB md ops (ops.size-n) n lf
 | (i,0):: r,lf=>decide (i<n)&&decide (Region.ready md ops lf=[i])&&Iz md ops aA n r (lf.setIfInBounds i true)
 | (i,1):: r,lf=>decide (i<n)&&((Region.ready md ops lf).contains i&&Region.free md ops lf i)&&(decide (i≠aA)&&Oa md ops aA i)&&Iz md ops aA n r (lf.setIfInBounds i true)
 | (i,_+2):: r,lf=>decide (i<n)&&((Region.ready md ops lf).contains i&&Region.free md ops lf i)&&decide (i≠aA)&&Iz md ops aA n r (lf.setIfInBounds i true)
def OH(ops:Array Oper)(aA n:Nat)(d:gh (Nat×Nat)):Bool:=
 Region.noSelect ops&&decide (n<ops.size)&&decide (d.length=n)&&Region.sinkB .any ops n&&Region.chainB .any ops n&&Iz .any ops aA n d (Array.replicate ops.size false)
def Xx{aA i n:Nat}{S:ga->Prop}{E:Array Bool}{w:ga}(h:Oa md ops aA i=true)(z:HeadInv md ops n E)(H:i∈Region.ready md ops E)(d:SB aA S E w):S w:=by
 rcases d with I|d
 ·unfold Oa at h;cases ho:ops[aA]? with
  | none=>rw[ho]at h;cases h
  | some o=>
   rw[ho]at h;have⟨e,he,h2⟩:=Array.any_eq_true'.1 h;simp only[Gg,E0]at h2;have:=z.closed aA o ho I e he h2.1;rw[h2.2,getD_both (IJ.1 H).1]at this;cases this
 ·exact d
def Mz{aA n:Nat}{S:ga->Prop}{T:Act->ga->Prop}(z:Region.noSelect ops=true)(hs:Region.sinkB md ops n=true)(hc:Region.chainB md ops n=true)(hn:n<ops.size)(hQ:∀c a t v w,Q (.panic c) (Act.put a (some t) v) w->Q (.panic c) a w):
 ∀(aD:gh (Nat×Nat)) (I:Array Bool) (a:Act) (w:ga),HeadInv md ops n I->Iz md ops aA n aD I=true->SB aA S I w->EU P ops Q aA S T aD a w->
 wpAnyL P md ops Q (SB aA S) n (λaB a' w'=>Region.seqB md ops (ops.size-n) n aB=true/\T a' w') aD.length I a w
 | [],I,a,w,_,hB,_,h=>⟨hB,h⟩
 | (i,0):: r,I,a,w,d,hB,Y,h=>by
  simp only[Iz,Gg,E0]at hB;obtain⟨⟨E,W⟩,O⟩:=hB;refine⟨by rw[W];simp,λj hj=>?_⟩;have H:i∈Region.ready md ops I:=by rw[W];simp
  rw[W]at hj;have:j=i:=by simpa using hj
  subst this;refine⟨E,L8 (λa' w' h'=>?_) h⟩;have aE:SB aA S (I.setIfInBounds j true) w':=by
   rcases h'.1 with rfl|h1
   ·refine .inl ?_;(have:j<I.size:=by rw[d.size];omega);simp[this]
   ·exact .inr h1
  exact⟨aE,Mz z hs hc hn hQ r _ a' w' (d.set H E) O aE h'.2⟩
 | (i,1):: r,I,a,w,d,hB,Y,h=>by
  simp only[Iz,Gg,E0]at hB;obtain⟨⟨⟨E,W,hf⟩,L,aF⟩,O⟩:=hB;obtain⟨o,v,h0,hy,hK⟩:=h;have H:i∈Region.ready md ops I:=by simpa using W
  exact wpAnyL_first L h0 (Wu z) (λc a w=>by cases o.dst with|none=>exact id|some t=>exact hQ c a t v w) hs hc hn E (λl w d W Y=>Xx aF d W Y) (λaB a' w' hL=>S4 hL.1) r.length I a w d (Wv h0 hf) H hy Y
   (Mz z hs hc hn hQ r _ _ w (d.set H E) O ((SB.bl L).2 Y) hK)
 | (i,k+2):: r,I,a,w,d,hB,Y,h=>by
  simp only[Iz,Gg,E0]at hB;obtain⟨⟨⟨E,W,hf⟩,L⟩,O⟩:=hB;obtain⟨o,v,h0,hy,hK⟩:=h;have H:i∈Region.ready md ops I:=by simpa using W
  exact wpAnyL_first L h0 (Wu z) (λc a w=>by cases o.dst with|none=>exact id|some t=>exact hQ c a t v w) hs hc hn E (λ_ _ _ _ _=>trivial) (λaB a' w' hL=>S4 hL.1) r.length I a w d (Wv h0 hf) H hy Y
   (Mz z hs hc hn hQ r _ _ w (d.set H E) O ((SB.bl L).2 Y) hK)
end
section
variable{P:Program}{ops:Array Oper}{Q:Exit->Act->ga->Prop}{aA:Nat}{S:ga->Prop}{T:Act->ga->Prop}
def Xl{id:Nat}{a:Act}{w:ga}{l:gh Oper}(aA:Nat)(S:ga->Prop)(n:Nat)(d:gh (Nat×Nat))(hm:P.follows .mixedOrders=true)(O:OH l.toArray aA n d=true)(Y:∀c a t v w,Q (.panic c) (Act.put a (some t) v) w->Q (.panic c) a w)(hS:S w.drew)(h:EU P l.toArray Q aA S (λa w=>wpList P l.toArray Q (l.drop n) a w) d a w.drew):(Code.region id l.toArray true).wp P Q a w:=by
 simp only[OH,Gg,E0]at O;obtain⟨⟨⟨⟨⟨hsel,hn⟩,hsl⟩,hs⟩,hc⟩,hgo⟩:=O;have E:(l.drop n).length=l.toArray.size-n:=by simp
 have z:HeadInv .any l.toArray n (Array.replicate l.toArray.size false):=
  ⟨by simp,λj oj _ L=>(by rw[Kn]at L;cases L),λt _ W=>getD_in (by simpa using W) (Kn _ _)⟩
 have H:=Mz (md:=.any) (T:=λa w=>wpList P l.toArray Q (l.drop n) a w) hsel hs hc hn Y d _ a w.drew z hgo (.inr hS) h;refine Ra hm ?_
 have:=Re (Q:=Q) (g:=l.toArray.size-n) (λlf a' w' I=>by
  have:=Rb (md:=.any) (Q':=Q) (l.drop n) n lf a' w' (λj=>by simp[List.getElem?_drop]) (by rw[E];exact I.1) I.2
  rwa [E]at this) _ _ _ _ H
 rw[hsl,show n+(l.toArray.size-n)=l.toArray.size from by omega]at this;exact this
def Xm{i:Nat}{o:Oper}{v:gd}{r:gh (Nat×Nat)}{a:Act}{w:ga}(z:ops[i]?=some o)(d:Region.wanted o (yielded ops a.tmps)=true)(hy:∀w,S w->(execOp a.eval o).run P w=.ok (.value v) w)(h:EU P ops Q aA S T r (a.put o.dst v) w):EU P ops Q aA S T ((i,1):: r) a w:=
 ⟨o,v,z,.inl ⟨d,hy⟩,h⟩
def Xn{i:Nat}{o:Oper}{v:gd}{r:gh (Nat×Nat)}{a:Act}{w:ga}(z:ops[i]?=some o)(d:Region.wanted o (yielded ops a.tmps)=true)(hy:∀w,(execOp a.eval o).run P w=.ok (.value v) w)(h:EU P ops Q aA S T r (a.put o.dst v) w):EU P ops Q aA S T ((i,2):: r) a w:=
 ⟨o,v,z,.inl ⟨d,λw _=>hy w⟩,h⟩
def Xo{o:Oper}{r:gh (Nat×Nat)}{a:Act}{w:ga}(E:ops[aA]?=some o)(d:Region.wanted o (yielded ops a.tmps)=true)(h:∀K:Act->ga->Prop,(∀a w,EU P ops Q aA S T r a w->K a w)->o.wp P a w K Q):EU P ops Q aA S T ((aA,0):: r) a w:=by
 show wpOp P ops Q aA _ a w;unfold wpOp;simp only[E,d,Cp];exact .inl (h _ λa w z=>⟨by simp,z⟩)
def Is{i:Nat}{o:Oper}{v:gd}{r:gh (Nat×Nat)}{a d:Act}{w:ga}(h:EU P ops Q aA S T r d w)(E:ops[i]?=some o:=by rfl)(z:Region.wanted o (yielded ops a.tmps)=true:=by rfl)(hy:∀w,S w->(execOp a.eval o).run P w=.ok (.value v) w:=by intro w' I;(try dsimp only at I);go_simp;try with_reducible rfl)(H:a.put o.dst v=d:=by simp only[Cs];rfl):EU P ops Q aA S T ((i,1):: r) a w:=Xm E z hy (H ▸ h)
def It{i:Nat}{o:Oper}{v:gd}{r:gh (Nat×Nat)}{a d:Act}{w:ga}(h:EU P ops Q aA S T r d w)(E:ops[i]?=some o:=by rfl)(z:Region.wanted o (yielded ops a.tmps)=true:=by rfl)(hy:∀w,(execOp a.eval o).run P w=.ok (.value v) w:=by intro w';go_simp;try with_reducible rfl)(H:a.put o.dst v=d:=by simp only[Cs];rfl):EU P ops Q aA S T ((i,2):: r) a w:=Xn E z hy (H ▸ h)
def Mx{o:Oper}{r:gh (Nat×Nat)}{a:Act}{w:ga}(h:∀K:Act->ga->Prop,(∀a w,EU P ops Q aA S T r a w->K a w)->o.wp P a w K Q)(z:ops[aA]?=some o:=by rfl)(d:Region.wanted o (yielded ops a.tmps)=true:=by rfl):
 EU P ops Q aA S T ((aA,0):: r) a w:=Xo z d h
def Mw{a:Act}{w:ga}{l d:gh Oper}{n:Nat}(h:wpList P l.toArray Q d a w)(z:l.drop n=d:=by simp only[Wy,Wx];rfl):EU P l.toArray Q aA S (λa w=>wpList P l.toArray Q (l.drop n) a w) [] a w:=by subst z;exact h
def Mv{id:Nat}{a:Act}{w:ga}{l:gh Oper}(aA:Nat)(S:ga->Prop)(n:Nat)(d:gh (Nat×Nat))(E:S w.drew)(h:EU P l.toArray Q aA S (λa w=>wpList P l.toArray Q (l.drop n) a w) d a w.drew)(z:P.follows .mixedOrders=true:=by kernel_rfl)(H:OH l.toArray aA n d=true:=by kernel_rfl)(I:∀c a t v w,Q (.panic c) (Act.put a (some t) v) w->Q (.panic c) a w:=by exact λ_ _ _ _ _ h=>h):(Code.region id l.toArray true).wp P Q a w:=Xl aA S n d z H I E h
end
end
section
open Go.RowKit
structure App (w w':ga) (e size:Nat) (v v':gd) (n:Nat) (xs:gh gd):Prop where
 AE:w'.ownsRow 0 e size v' n xs
 Cx:w.grownBy w' v.ownBlock
 CA:v'.ownBlock=v.ownBlock\/v'.ownBlock=some w.heap.size
 Cd:∃a cap,v'=.slice a n cap
def Za{P:Program}(w:ga)(t tx ty e:TypeId)(i:TypeInfo)(z:gd)(size bytes:Nat)(ht:P.underlying t=some (.slice e))(hi:P.info? e=some i)(hz:i.zero=some z)(W:i.size=size)(aK:i.bytes=bytes)(aM:z.cells.size=size)(aJ:0<bytes)(v:gd)(n:Nat)(xs:gh gd)(d:w.ownsRow 0 e size v n xs)(x:gd)(m:Nat)(news:gh gd)(L:Src P size tx x m news w)(H:(n+m)*bytes<=140737488355328):
 ∃v' w',(Builtin.append_ #[t,tx] ty #[v,x]).run P w=.ok v' w'/\App w w' e size v v' (n+m) (xs++news):=by
 subst W;subst aK;have hnm:=AJ (Nat.le_mul_of_pos_right _ aJ) H;have h:(xs++news).length=(n+m)*i.size:=by rw[AY,d.1,L.newsLen,HT]
 obtain⟨a,cap,rfl,hnc,aH,_,aE,Y⟩:=B9 d;by_cases E:n+m<=cap
 ·rcases d.2 with⟨h1,h2⟩|⟨g,cap',I,h1,_,hg,_,_,aL,aA⟩
  ·cases h1;(obtain rfl:m=0:=by omega);have hn:=NU (by simpa using L.newsLen);subst hn;have hx:=NU (by simpa using d.1);subst hx;refine⟨.slice none 0 0,w,?_,⟨CT w 0 e i.size,⟨rfl,rfl,rfl,Ao _,λ_ _ _=>rfl⟩,.inl rfl,⟨none,0,rfl⟩⟩⟩;rcases L.kind with⟨e',O⟩|O<;>simp[Builtin.append_,run_underlying ht,run_underlying O,sizeOf,typeInfo,hi,L.len,L.cells]
  ·cases h1;(have aF:n*i.size+news.length<=I.size:=by rw[L.newsLen,aL,<-HT];exact Gd _ E);have aB:=run_storeCells_at P g (n*i.size) e news 0 I w hg (by simpa using aF) L.one;simp only[QG]at aB;have hr:(Builtin.append_ #[t,tx] ty #[AH g n cap,x]).run P w=.ok (AH g (n+m) cap) (w.setRow g (I.toList.take (n*i.size)++news++I.toList.drop (n*i.size+news.length)).toArray):=by
    rcases L.kind with⟨e',O⟩|O<;>simp[Builtin.append_,run_underlying ht,run_underlying O,sizeOf,typeInfo,hi,L.len,E,L.cells,Addr.add_lit,aB]
   refine⟨_,_,hr,⟨⟨h,.inr ⟨g,cap,_,rfl,Cb _,Li w g I _ e _ hg,E,aH,?_,?_⟩⟩,⟨rfl,rfl,rfl,by simp,λk _ O=>JY w g k _ (λe=>O (by simp[Value.ownBlock,e]))⟩,.inl rfl,⟨_,_,rfl⟩⟩⟩
   ·simp only[Mi,AY,BT,CO,Mu];omega
   ·rw[aA,<-h];exact KJ
 ·have aD:(Builtin.firstCells i.size n (.slice a n cap)).run P w.drew=.ok xs.toArray w.drew:=by
   cases a with
   | none=>
    obtain⟨rfl,_⟩:=aE rfl;have hx:=NU (by simpa using d.1);subst hx;exact run_firstCells_none w.drew i.size 0 0 cap
   | some ad=>
    obtain⟨g,rfl⟩:=Y ad rfl;exact Sf w.drew i.size n _ n cap xs d.1 (by simpa using d.cells (g:=g) rfl)
  have hr:=run_append_grow_src (P:=P) w t tx ty e i z ht hi hz a n cap xs aD x m news L (by omega) (by omega) (growslice_fits (by omega) H);have aG:=grownCap_ge w (n+m) cap e;have aI:=grownCap_le_maxLen w (n+m) cap e (by unfold maxLen;omega);refine⟨_,_,hr,⟨⟨h,.inr ⟨w.heap.size,_,_,rfl,Cb _,BL w.drew _,aG,aI,?_,?_⟩⟩,⟨rfl,rfl,rfl,by simp,λk O _=>Di w.drew _ k O⟩,.inr rfl,⟨_,_,rfl⟩⟩⟩
  ·simp only[Array.size_append,Mi,size_zeroCells,aM,h,<-HT]
   congr 1
   omega
  ·simp only[QZ];rw[<-h];exact KJ
section
variable{P:Program}{w:ga}
def Ir{o:Oper}{a:Act}{K:Act->ga->Prop}{Q:Exit->Act->ga->Prop}(s x:Operand)(t W:TypeId)(ho:o.op=.call {callee:=.builtin .append,args:=#[s,x],argTypes:=#[t,W]})(e:TypeId)(i:TypeInfo)(z:gd)(size bytes:Nat)(Y:P.underlying t=some (.slice e))(hi:P.info? e=some i)(hz:i.zero=some z)(E:i.size=size)(L:i.bytes=bytes)(O:z.cells.size=size)(I:0<bytes)(v:gd)(n:Nat)(xs:gh gd)(hv:a.eval s=v)(H:w.ownsRow 0 e size v n xs)(sv:gd)(m:Nat)(news:gh gd)(hx:a.eval x=sv)(hs:Src P size W sv m news w)(d:(n+m)*bytes<=140737488355328)(h:∀b cap w',App w w' e size v (.slice b (n+m) cap) (n+m) (xs++news)->K (a.put o.dst (.slice b (n+m) cap)) w'):o.wp P a w K Q:=by
 have⟨v',w',hr,hA⟩:=Za (P:=P) w t W o.type e i z size bytes Y hi hz E L O I v n xs H sv m news hs d;obtain⟨b,cap,rfl⟩:=hA.Cd;unfold Oper.wp execOp;simp only[ho,resolve,invoke,builtin,Sem.run_bind,Sem.run_pure,Result.andThen_ok,List.map_toArray,GY,List.map_nil,hv,hx,hr];exact h b cap w' hA
def Dj{ops:Array Oper}{rest:gh Oper}{o:Oper}{a:Act}{Q:Exit->Act->ga->Prop}(I:o.guard=none)(s x:Operand)(t Y:TypeId)(ho:o.op=.call {callee:=.builtin .append,args:=#[s,x],argTypes:=#[t,Y]})(e:TypeId)(i:TypeInfo)(z:gd)(size bytes:Nat)(ht:P.underlying t=some (.slice e))(hi:P.info? e=some i)(hz:i.zero=some z)(E:i.size=size)(O:i.bytes=bytes)(W:z.cells.size=size)(L:0<bytes)(v:gd)(n:Nat)(xs:gh gd)(hv:a.eval s=v)(H:w.ownsRow 0 e size v n xs)(sv:gd)(m:Nat)(news:gh gd)(hx:a.eval x=sv)(hs:Src P size Y sv m news w)(d:(n+m)*bytes<=140737488355328)(h:∀b cap w',App w w' e size v (.slice b (n+m) cap) (n+m) (xs++news)->wpList P ops Q rest (a.put o.dst (.slice b (n+m) cap)) w'):wpList P ops Q (o::rest) a w:=
 wpList_plain I λ_ hK=>Ir s x t Y ho e i z size bytes ht hi hz E O W L v n xs hv H sv m news hx hs d λb cap w' hA=>hK _ _ (h b cap w' hA)
def JU{y:Nat->Option Bool}{o:Oper}{a:Act}{K:Act->ga->Prop}{Q:Exit->Act->ga->Prop}{E:Prop}(L:o.guard=none)(s x:Operand)(t tx:TypeId)(ho:o.op=.call {callee:=.builtin .append,args:=#[s,x],argTypes:=#[t,tx]})(e:TypeId)(i:TypeInfo)(z:gd)(size bytes:Nat)(ht:P.underlying t=some (.slice e))(hi:P.info? e=some i)(hz:i.zero=some z)(H:i.size=size)(W:i.bytes=bytes)(Y:z.cells.size=size)(O:0<bytes)(v:gd)(n:Nat)(xs:gh gd)(hv:a.eval s=v)(I:w.ownsRow 0 e size v n xs)(sv:gd)(m:Nat)(news:gh gd)(hx:a.eval x=sv)(hs:Src P size tx sv m news w)(d:(n+m)*bytes<=140737488355328)(h:∀b cap w',App w w' e size v (.slice b (n+m) cap) (n+m) (xs++news)->K (a.put o.dst (.slice b (n+m) cap)) w'):
 if Region.wanted o y=true then Oper.wp P o a w K Q else E:=by
 have hw:Region.wanted o y=true:=by simp[Region.wanted,L]
 rw[Ae hw];exact Ir s x t tx ho e i z size bytes ht hi hz H W Y O v n xs hv I sv m news hx hs d h
def Src.cv{size:Nat}{h I:TypeId}(z:P.underlying h=some (.slice I)){B:Nat}{d:Array gd}{t:TypeId}{O:Nat×Nat}(L:w.heap[B]?=some (.cells d t O))(m c:Nat)(E:d.size=m*size)(H:∀u∈d.toList,u.oneCell'=true):Src P size h (.slice (some ⟨B,0,none⟩) m c) m d.toList w:=
 Mc w z _ m c _ (by simpa using E) (World.news_of_block L) H
def Src.bh{size:Nat}{h L:TypeId}(z:P.underlying h=some (.slice L))(w:ga)(d:Array gd)(t B:Nat)(I:w.heap.size=B)(m c:Nat)(E:d.size=m*size)(H:∀u∈d.toList,u.oneCell'=true):Src P size h (.slice (some ⟨B,0,none⟩) m c) m d.toList (w.alloc (.cells d t)):=by
 subst I;exact Src.cv z (BL _ _) m c E H
def Src.bN{size:Nat}{H L e:TypeId}(E:P.underlying H=some (.slice L)){v:gd}{m:Nat}{news:gh gd}(h:w.ownsRow 0 e size v m news)(I:∀u∈news,u.oneCell'=true):Src P size H v m news w:=by
 obtain⟨a,cap,rfl,_,_,_,z,d⟩:=B9 h;cases a with
 | none=>
  obtain⟨rfl,rfl⟩:=z rfl;have O:=NU (by simpa using h.1);subst O;exact Src.ofNil w E 0
 | some ad=>
  obtain⟨g,rfl⟩:=d ad rfl;exact Mc w E _ m cap news h.1 (h.cells rfl) I
end
def Bk:gh Pt->gh gd
 | []=>[]
 | (t,v):: r=>A0 t::A0 v::Bk r
def GN(l:gh Pt):(Bk l).length=l.length*2:=by
 induction l with
 | nil=>rfl
 | cons e r ih=>obtain⟨n,f⟩:=e;simp only[Bk,Cg,ih];omega
def Tm(a b:gh Pt):Bk (a++b)=Bk a++Bk b:=by
 induction a with
 | nil=>rfl
 | cons e r ih=>obtain⟨n,f⟩:=e;simp[Bk,ih]
def P6(l:gh Pt)(k:Nat):(Bk l).take (k*2)=Bk (l.take k):=by
 induction l generalizing k with
 | nil=>simp[Bk]
 | cons e r ih=>
  obtain⟨n,f⟩:=e
  match k with
  | 0=>simp[Bk]
  | k+1=>rw[show (k+1)*2=k*2+1+1 from by omega];simp[Bk,ih]
def P8(l:gh Pt)(k:Nat):(Bk l).drop (k*2)=Bk (l.drop k):=by
 induction l generalizing k with
 | nil=>simp[Bk]
 | cons e r ih=>
  obtain⟨n,f⟩:=e
  match k with
  | 0=>simp[Bk]
  | k+1=>rw[show (k+1)*2=k*2+1+1 from by omega];simp[Bk,ih]
def A0k(l:gh Pt)(k:Nat)(h:k<l.length):(Bk l)[k*2]?=some (A0 (l[k]'h).1):=by
 induction l generalizing k with
 | nil=>simp at h
 | cons e r ih=>
  obtain⟨n,f⟩:=e
  match k with
  | 0=>simp[Bk]
  | k+1=>
   have:=ih k (by simpa using h);rw[show (k+1)*2=k*2+1+1 from by omega];simpa[Bk] using this
def A0j(l:gh Pt)(k:Nat)(h:k<l.length):(Bk l)[k*2+1]?=some (A0 (l[k]'h).2):=by
 induction l generalizing k with
 | nil=>simp at h
 | cons e r ih=>
  obtain⟨n,f⟩:=e
  match k with
  | 0=>simp[Bk]
  | k+1=>
   have:=ih k (by simpa using h);rw[show (k+1)*2+1=k*2+1+1+1 from by omega];simpa[Bk] using this
def A0l(l:gh Pt)(k:Nat)(p:Pt)(h:k<l.length):((Bk l).set (k*2) (A0 p.1)).set (k*2+1) (A0 p.2)=Bk (l.set k p):=by
 induction l generalizing k with
 | nil=>simp at h
 | cons e r ih=>
  obtain⟨n,f⟩:=e
  match k with
  | 0=>simp[Bk]
  | k+1=>
   have:=ih k (by simpa using h);rw[show (k+1)*2=k*2+1+1 from by omega];simp only[Bk,WL];rw[this]
def P7(l:gh Pt):∀u∈Bk l,u.oneCell'=true:=by
 induction l with
 | nil=>simp[Bk]
 | cons e r ih=>
  obtain⟨n,f⟩:=e;intro u hu;simp only[Bk,BB]at hu;rcases hu with rfl|rfl|hu
  ·rfl
  ·rfl
  ·exact ih u hu
def DT(w:ga)(v:gd)(l:gh Pt):Prop:=w.ownsRow 0 70 2 v l.length (Bk l)
def DT.bx{w:ga}{g n cap:Nat}{l:gh Pt}(h:DT w (AH g n cap) l)(k:Nat)(d:k<l.length):A7 w g (k*2) (A0 (l[k]'d).1)/\A7 w g (k*2+1) (A0 (l[k]'d).2):=by
 have z:n=l.length:=by
  have⟨_,_,e,_⟩:=B9 h;cases e;rfl
 subst z;exact⟨BH h rfl (A0k l k d),BH h rfl (A0j l k d)⟩
abbrev Pu:=Int×Int×Int
def Bb:gh Pu->gh gd
 | []=>[]
 | (s,t,v):: r=>A0 s::A0 t::A0 v::Bb r
def Jk(a b:gh Pu):Bb (a++b)=Bb a++Bb b:=by
 induction a with
 | nil=>rfl
 | cons e r ih=>obtain⟨n,f,g⟩:=e;simp[Bb,ih]
def Hz(l:gh Pu)(k:Nat)(h:k<l.length):(Bb l)[k*3]?=some (A0 (l[k]'h).1)/\(Bb l)[k*3+1]?=some (A0 (l[k]'h).2.1)/\(Bb l)[k*3+2]?=some (A0 (l[k]'h).2.2):=by
 induction l generalizing k with
 | nil=>simp at h
 | cons e r ih=>
  obtain⟨n,f,g⟩:=e
  match k with
  | 0=>simp[Bb]
  | k+1=>
   have⟨h1,h2,h3⟩:=ih k (by simpa using h);rw[show (k+1)*3=k*3+1+1+1 from by omega];refine⟨by simpa[Bb] using h1,by simpa[Bb] using h2,by simpa[Bb] using h3⟩
def IE(l:gh Pu):∀u∈Bb l,u.oneCell'=true:=by
 induction l with
 | nil=>simp[Bb]
 | cons e r ih=>
  obtain⟨n,f,g⟩:=e;intro u hu;simp only[Bb,BB]at hu;rcases hu with rfl|rfl|rfl|hu
  ·rfl
  ·rfl
  ·rfl
  ·exact ih u hu
structure DS where
 A4:gh AM
 AI:gh AM
 As:gh (gh AM)
 n:DN
abbrev FC:=gh UInt8×Int
def Dm(f:Nat)(es:gh AM):Prop:=∃e∈es,e.2=f
def DS.Ap(D:DS)(f:Nat):Prop:=Dm f D.A4\/Dm f D.AI\/∃c∈D.As,Dm f c
structure BY (w:ga) (b:Nat) (D:DS) (F:Nat->FC) (vd vs vc:gd) (aA:gh gd) (VB:Nat->gd):Prop where
 Ah:AK w b vd vs vc D.n
 A4:D8 w vd D.A4
 AI:D8 w vs D.AI
 Al:w.ownsRow 0 120 1 vc D.As.length aA
 Df:∀i (h:i<D.As.length),∃v,aA[i]?=some v/\D8 w v (D.As[i]'h)
 BK:∀f,D.Ap f->CY w f (VB f) (F f).2/\FZ w (VB f) (F f).1
 Gq:∀f f' g,D.Ap f->D.Ap f'->(VB f).ownBlock=some g->(VB f').ownBlock=some g->f=f'
def C6(b:Nat)(D:DS)(vd vs vc:gd)(aA:gh gd)(VB:Nat->gd)(k:Nat):Prop:=
 k=b\/vd.ownBlock=some k\/vs.ownBlock=some k\/vc.ownBlock=some k\/(∃v∈aA,v.ownBlock=some k)\/D.Ap k\/∃f,D.Ap f/\(VB f).ownBlock=some k
section
variable{b:Nat}{D:DS}{vd vs vc:gd}{aA:gh gd}{VB:Nat->gd}
def C6.Ah:C6 b D vd vs vc aA VB b:=.inl rfl
def C6.A4{k:Nat}(h:vd.ownBlock=some k):C6 b D vd vs vc aA VB k:=.inr (.inl h)
def C6.AI{k:Nat}(h:vs.ownBlock=some k):C6 b D vd vs vc aA VB k:=.inr (.inr (.inl h))
def C6.Al{k:Nat}(h:vc.ownBlock=some k):C6 b D vd vs vc aA VB k:=.inr (.inr (.inr (.inl h)))
def C6.Df{k:Nat}{v:gd}(d:v∈aA)(h:v.ownBlock=some k):C6 b D vd vs vc aA VB k:=.inr (.inr (.inr (.inr (.inl ⟨v,d,h⟩))))
def C6.BK{f:Nat}(h:D.Ap f):C6 b D vd vs vc aA VB f:=.inr (.inr (.inr (.inr (.inr (.inl h)))))
def C6.bA{f k:Nat}(d:D.Ap f)(h:(VB f).ownBlock=some k):C6 b D vd vs vc aA VB k:=.inr (.inr (.inr (.inr (.inr (.inr ⟨f,d,h⟩)))))
def C6.bJ{d:(k:Nat)->C6 b D vd vs vc aA VB k->Prop}(Ah:d b .Ah)(dir:∀ {k} (e:vd.ownBlock=some k),d k (.A4 e))(Ad:∀ {k} (e:vs.ownBlock=some k),d k (.AI e))(Al:∀ {k} (e:vc.ownBlock=some k),d k (.Al e))(Df:∀ {k v} (E:v∈aA) (e:v.ownBlock=some k),d k (.Df E e))(BK:∀ {f} (h:D.Ap f),d f (.BK h))(byt:∀ {f k} (z:D.Ap f) (e:(VB f).ownBlock=some k),d k (.bA z e)){k:Nat}(t:C6 b D vd vs vc aA VB k):d k t:=by
 rcases t with rfl|e|e|e|⟨v,E,e⟩|h|⟨f,z,e⟩
 ·exact Ah
 ·exact dir e
 ·exact Ad e
 ·exact Al e
 ·exact Df E e
 ·exact BK h
 ·exact byt z e
end
def Dh(w:ga)(b:Nat)(D:DS)(F:Nat->FC)(Ft:Nat->Prop):Prop:=
 ∃vd vs vc aA VB,BY w b D F vd vs vc aA VB/\∀k,C6 b D vd vs vc aA VB k->Ft k
section
variable{w w':ga}{b:Nat}{D:DS}{F:Nat->FC}{vd vs vc:gd}{aA:gh gd}{VB:Nat->gd}
def BY.dt(h:BY w b D F vd vs vc aA VB):aA.length=D.As.length:=by have:=h.Al.1;omega
def BY.lt(h:BY w b D F vd vs vc aA VB){k:Nat}(z:C6 b D vd vs vc aA VB k):k<w.heap.size:=by
 cases z using C6.bJ with
 | Ah=>exact Bv h.Ah
 | dir e=>exact AF h.A4 e
 | Ad e=>exact AF h.AI e
 | Al e=>exact AF h.Al e
 | Df hv e=>
  have⟨i,hi⟩:=List.getElem?_of_mem hv;have d:i<D.As.length:=by rw[<-h.dt];exact(Ht.1 hi).1
  have⟨v',h1,h2⟩:=h.Df i d;rw[hi]at h1;cases h1;exact AF h2 e
 | BK hf=>exact Bv (h.BK _ hf).1
 | byt hf e=>exact AF (h.BK _ hf).2 e
def BY.aN(h:BY w b D F vd vs vc aA VB)(z:Gb (C6 b D vd vs vc aA VB) w w'):BY w' b D F vd vs vc aA VB:=by
 refine⟨?_,?_,?_,?_,?_,?_,h.Gq⟩
 ·have:=h.Ah;unfold AK at this ⊢;rw[z b .Ah];exact this
 ·exact Ax h.A4 λg d=>z g (.A4 d)
 ·exact Ax h.AI λg d=>z g (.AI d)
 ·exact Ax h.Al λg d=>z g (.Al d)
 ·intro i H;have⟨v,h1,h2⟩:=h.Df i H;exact⟨v,h1,Ax h2 λg d=>z g (.Df (KM h1) d)⟩
 ·intro f E;have⟨h1,h2⟩:=h.BK f E;refine⟨?_,Ax h2 λg d=>z g (.bA E d)⟩;unfold CY at h1 ⊢;rw[z f (.BK E)];exact h1
def Dh.aN{Ft:Nat->Prop}(h:Dh w b D F Ft)(E:Gb Ft w w'):Dh w' b D F Ft:=by
 obtain⟨vd,vs,vc,aA,VB,z,d⟩:=h;exact⟨vd,vs,vc,aA,VB,z.aN (E.af d),d⟩
def BR{w:ga}{g k:Nat}{c I:Array gd}{e E:Nat}(h:w.heap[g]?=some (.cells c e (0,0)))(z:w.heap[k]?=some (.cells I E (0,0)))(d:e≠E):g≠k:=by
 intro H;subst H;rw[h]at z;cases z;exact d rfl
def BY.ah(h:BY w b D F vd vs vc aA VB){n:DN}(I:AK w' b vd vs vc n)(L:A3 (One b) w w'):BY w' b {D with n:=n} F vd vs vc aA VB:=by
 have d:∀(k:Nat) (c:Array gd) (e:Nat),w.heap[k]?=some (Obj.cells c e (0,0))->e≠95->w'.heap[k]?=w.heap[k]?:=λk c e d H=>
  L.An k (Bv d) (BR d h.Ah H)
 refine⟨I,?_,?_,?_,?_,?_,h.Gq⟩
 ·exact Ax h.A4 λg z=>by have⟨c,hh⟩:=Be h.A4 z;exact d g _ _ hh (by decide)
 ·exact Ax h.AI λg z=>by have⟨c,hh⟩:=Be h.AI z;exact d g _ _ hh (by decide)
 ·exact Ax h.Al λg z=>by have⟨c,hh⟩:=Be h.Al z;exact d g _ _ hh (by decide)
 ·intro i O;have⟨v,h1,h2⟩:=h.Df i O;exact⟨v,h1,Ax h2 λg z=>by have⟨c,hh⟩:=Be h2 z;exact d g _ _ hh (by decide)⟩
 ·intro f E;have⟨h1,h2⟩:=h.BK f E;refine⟨?_,Ax h2 λg z=>by have⟨c,hh⟩:=Be h2 z;exact d g _ _ hh (by decide)⟩;unfold CY at h1 ⊢;rw[d f _ _ h1 (by decide)];exact h1
end
def lookup:gh AM->gg->Option Nat
 | [],_=>none
 | e::r,nd=>if e.1=nd then some e.2 else lookup r nd
def Ju(es:gh AM)(d:gg):(B5 es d = -1/\lookup es d=none)\/∃k,∃z:k<es.length,B5 es d=(k:Int)/\lookup es d=some (es[k]'z).2/\(es[k]'z).1=d:=by
 induction es with
 | nil=>exact .inl ⟨rfl,rfl⟩
 | cons e r ih=>
  by_cases h:e.1=d
  ·exact .inr ⟨0,by simp,by simp[B5,h],by simp[lookup,h],by simpa using h⟩
  ·rcases ih with⟨H,E⟩|⟨k,z,H,E,I⟩
   ·exact .inl ⟨by simp[B5,h,H],by simp[lookup,h,E]⟩
   ·exact .inr ⟨k+1,by simpa using z,by simp only[B5,h,C9,H];rw[Aa (by omega)];omega,by simp[lookup,h,E],by simpa using I⟩
def BY.cf{w:ga}{b:Nat}{D:DS}{F:Nat->FC}{vd vs vc:gd}{aA:gh gd}{VB:Nat->gd}(h:BY w b D F vd vs vc aA VB)(k:Nat)(d:k<D.A4.length):
 CY w (D.A4[k]'d).2 (VB (D.A4[k]'d).2) (F (D.A4[k]'d).2).2/\FZ w (VB (D.A4[k]'d).2) (F (D.A4[k]'d).2).1:=h.BK _ (.inl ⟨_,BU d,rfl⟩)
def FZ.Cd{w:ga}{v:gd}{bs:gh UInt8}(h:FZ w v bs):∃a cap,v=.slice a bs.length cap/\bs.length<=cap/\cap<=maxLen:=by
 have⟨a,cap,h1,h2,h3,_⟩:=B9 h;exact⟨a,cap,h1,h2,h3⟩
def Dv(w:ga)(Ft:Nat->Prop)(w':ga)(b:Nat)(D':DS)(F':Nat->FC):Prop:=
 A3 Ft w w'/\∃d,Dh w' b D' F' d/\(∀k,d k->k<w'.heap.size)/\∀k,d k->Ft k\/w.heap.size<=k
def Dv.bw{w w':ga}{Ft:Nat->Prop}{b:Nat}{D':DS}{F':Nat->FC}{vd vs vc:gd}{aA:gh gd}{VB:Nat->gd}(E:A3 Ft w w')(h:BY w' b D' F' vd vs vc aA VB)(z:∀k,C6 b D' vd vs vc aA VB k->Ft k\/w.heap.size<=k):Dv w Ft w' b D' F':=
 ⟨E,_,⟨vd,vs,vc,aA,VB,h,λ_ d=>d⟩,λ_ d=>h.lt d,z⟩
def BY.ct{w w':ga}{b:Nat}{D:DS}{F F':Nat->FC}{vd vs vc vl aD:gd}{aA:gh gd}{VB VB':Nat->gd}{n:DN}{es:gh AM}{S:Nat->Prop}(h:BY w b D F vd vs vc aA VB)(hb:AK w' b vl vs aD n)(aG:w'.ownsRow 0 120 1 aD (D.As.length+1) (aA++[vl]))(aE:D8 w' vl es)(hc:A3 S w w')(hS:∀k,S k->k=b\/vc.ownBlock=some k)(hF:∀f,D.Ap f->F' f=F f/\VB' f=VB f)(O:∀f,Dm f es->D.Ap f\/(CY w' f (VB' f) (F' f).2/\FZ w' (VB' f) (F' f).1/\(VB' f).ownBlock=none)):
 BY w' b {D with A4:=es,As:=D.As++[es],n:=n} F' vl vs aD (aA++[vl]) VB':=by
 have I:∀(k:Nat) (c:Array gd) (e:Nat),w.heap[k]?=some (Obj.cells c e (0,0))->e≠95->e≠120->w'.heap[k]?=w.heap[k]?:=λk c e I he aH=>
  hc.An k (Bv I) (λhs=>by
   rcases hS k hs with hs|hs
   ·exact BR I h.Ah he hs
   ·have⟨c',hh⟩:=Be h.Al hs
    exact BR I hh aH rfl)
 have H:∀f,({D with A4:=es,As:=D.As++[es],n:=n}:DS).Ap f->D.Ap f\/Dm f es:=by
  rintro f (d|d|⟨c,z,d⟩)
  ·exact .inr d
  ·exact .inl (.inr (.inl d))
  ·rcases AU.1 z with z|z
   ·exact .inl (.inr (.inr ⟨c,z,d⟩))
   ·simp at z;subst z;exact .inr d
 have L:∀f,D.Ap f->CY w' f (VB' f) (F' f).2/\FZ w' (VB' f) (F' f).1:=by
  intro f d;have⟨h1,Y⟩:=h.BK f d;rw[(hF f d).1,(hF f d).2];refine⟨?_,Ax Y λg E=>by have⟨c,hh⟩:=Be Y E;exact I g _ _ hh (by decide) (by decide)⟩;unfold CY at h1 ⊢;rw[I f _ _ h1 (by decide) (by decide)];exact h1
 refine⟨hb,aE,?_,?_,?_,?_,?_⟩
 ·exact Ax h.AI λg E=>by have⟨c,hh⟩:=Be h.AI E;exact I g _ _ hh (by decide) (by decide)
 ·simpa using aG
 ·intro i hi;by_cases W:i<D.As.length
  ·have⟨v,h1,Y⟩:=h.Df i W;refine⟨v,by rw[J9 (by rw[h.dt];exact W)];exact h1,?_⟩;simp only[Fg W];(exact Ax Y λg E=>by have⟨c,hh⟩:=Be Y E;exact I g _ _ hh (by decide) (by decide))
  ·(obtain rfl:i=D.As.length:=by simp at hi;omega);refine⟨vl,by rw[<-h.dt];simp,?_⟩;simpa using aE
 ·intro f d;rcases H f d with d|d
  ·exact L f d
  ·rcases O f d with d|⟨h1,Y,_⟩
   ·exact L f d
   ·exact⟨h1,Y⟩
 ·intro f f' g d aF E aB;have key:∀f,({D with A4:=es,As:=D.As++[es],n:=n}:DS).Ap f->(VB' f).ownBlock=some g->D.Ap f:=by
   intro f d E;rcases H f d with d|d
   ·exact d
   ·rcases O f d with d|⟨_,_,h3⟩
    ·exact d
    ·rw[h3]at E;cases E
  have k1:=key f d E;have k2:=key f' aF aB;rw[(hF f k1).2]at E;rw[(hF f' k2).2]at aB;exact h.Gq f f' g k1 k2 E aB
section
variable{P:Program}
def MK(w:ga)(dT sT ty elem:TypeId)(i:TypeInfo)(size:Nat)(g o E L:Nat)(a:Addr)(h H k:Nat)(d:Array gd)(t:TypeId)(z:gh gd)(hu:P.underlying dT=some (.slice elem))(hi:P.info? elem=some i)(I:i.size=size)(hg:w.heap[g]?=some (.cells d t (0,0)))(hn:Nat.min h E=k)(aA:z.length=k*size)(Y:∀j v,z[j]?=some v->w.cell? (a.add j)=some v)(W:o+z.length<=d.size)(h1:∀v∈z,v.oneCell'=true):
 (Builtin.copy_ #[dT,sT] ty #[.slice (some (Ac g o)) E L,.slice (some a) h H]).run P w =
  .ok (goInt k) (w.setRow g (d.toList.take o++z++d.toList.drop (o+z.length)).toArray):=by
 subst I;have hf:=Sf (P:=P) w i.size k a h H z aA Y;have O:=run_storeCells_at P g o t z 0 d w hg (by simpa using W) h1;simp only[QG]at O;simp[Builtin.copy_,run_underlying hu,Builtin.lenOf,sizeOf,typeInfo,hi,hn,hf,O]
def Z9(w:ga)(t tn ty e:TypeId)(i:TypeInfo)(z:gd)(kn:IntKind)(ht:P.underlying t=some (.slice e))(Y:P.underlying tn=some (.int kn))(hi:P.info? e=some i)(hz:i.zero=some z)(hs0:0<i.size)(h:Option Addr)(len cap:Nat)(d:gh gd)(O:(Builtin.firstCells i.size len (.slice h len cap)).run P w.drew=.ok d.toArray w.drew)(n:Nat)(h0:0<n)(hgrow:cap<len+n)(h63:((len+n:Nat):Int)<=9223372036854775807)(h48:n*i.bytes<=281474976710656)(hcap:Builtin.nextslicecap (len+n) cap*i.bytes<=281474976710656):
 (Builtin.append_ #[t,tn] ty #[.slice h len cap,.int .i64 n]).run P w =
  .ok (.slice (some ⟨w.heap.size,0,none⟩) (len+n) (grownCap w (len+n) cap e)) (w.drew.alloc (.cells (d.toArray++Builtin.zeroCells z.cells n++Builtin.zeroCells z.cells (grownCap w (len+n) cap e-(len+n))) e)):=by
 have hw:IntKind.i64.wrap (n:Int)=n:=by rw[Jb];omega
 have W:¬((n:Int)<0):=by omega
 have L:¬(281474976710656<(n:Int)*(i.bytes:Int)):=by rw[<-Int.natCast_mul];omega
 have aA:¬(n*i.size=0):=Nat.mul_ne_zero (by omega) (by omega);have E:¬(len+n<=cap):=by omega
 have H:¬(281474976710656<Builtin.nextslicecap (len+n) cap*i.bytes):=by omega
 have I:¬(9223372036854775807<(len:Int)+(n:Int)):=by omega
 simp[Builtin.append_,run_underlying ht,run_underlying Y,sizeOf,typeInfo,zeroValue,hi,hz,asInt,asIntOf,hw,W,aA,L,E,H,I,Question.forced,O,newRow,grownCap]
def Tw{w:ga}{z e size n g cap:Nat}{xs:gh gd}(h:w.ownsRow z e size (.slice (some ⟨g,0,none⟩) n cap) n xs):∃d:Array gd,w.heap[g]?=some (.cells d e (0,0))/\d.size=cap*size/\d.toList.take (n*size)=xs/\n<=cap/\cap<=maxLen:=by
 rcases h.2 with⟨H,_⟩|⟨g',cap',d,H,_,W,I,E,L,O⟩
 ·cases H
 ·cases H;exact⟨d,W,L,O,I,E⟩
end
end
end Go.Proofs.YtodcnkbblippnaaGreatDoor
