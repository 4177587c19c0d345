/-
  The statement WritesUptoCardSaid is proved: the law Writes answers true for every setting and every script of at most 1048576 bytes; there is no other condition.
  Part 2 of 33.
-/
import Derived.StillTail
import Derived.OrdersHeld
import Derived.Tactics
import Derived.WalkKit
import Derived.Test.YtodcnkbblippnaaGreatDoorPart01
import Derived.Handy
namespace Go.Proofs.YtodcnkbblippnaaGreatDoor
open Go
section
variable {P:Program} {Q:Exit→Act→World→Prop}
def B5V (y:Nat→Value) (i:Nat) (v:Value):Nat→Value:=fun j=>if j=i then v else y j
def A2E (o:Oper):List Nat:=(o.after.toList.filter (Region.binds .any)).map (·.on)
def A3x (G:Nat→Value→World→Prop) (y:Nat→Value) (w:World):List Nat→Prop
 | []=>True
 | j :: r=>G j (y j) w∧A3x G y w r
theorem A3x.of {G:Nat→Value→World→Prop} {y:Nat→Value} {w:World}:∀ (l:List Nat),(∀ j∈l,G j (y j) w)→A3x G y w l
 | [],_=>trivial
 | j :: r,h=>⟨h j (by simp),A3x.of r fun k hk=>h k (by simp [hk])⟩
def B2R (P:Program) (ops:Array Oper) (A:(Nat→Value)→Act) (S:World→Prop) (R:World→World→Prop) (G:Nat→Value→World→Prop) (Q:Exit→Act→World→Prop) (i:Nat) (o:Oper):Prop:=
 (∀ y w,S w→A3x G y w (A2E o)→Region.wanted o (yielded ops (A y).tmps)=true→∀ K:Act→World→Prop,(∀ v a' w',G i v w'→a'=(A y).put o.dst v→R w w'→S w'→K a' w')→o.wp P (A y) w K Q)∧
 (∀ y w,S w→A3x G y w (A2E o)→Region.wanted o (yielded ops (A y).tmps)=false→G i undef w)∧
 (∀ y v,(A y).put o.dst v=A (B5V y i v))
def A2n (P:Program) (ops:Array Oper) (A:(Nat→Value)→Act) (S:World→Prop) (R:World→World→Prop) (G:Nat→Value→World→Prop) (Q:Exit→Act→World→Prop):Nat→List Oper→Prop
 | _,[]=>True
 | i,o :: r=>B2R P ops A S R G Q i o∧A2n P ops A S R G Q (i+1) r
theorem A2n.get {ops:Array Oper} {A:(Nat→Value)→Act} {S:World→Prop} {R:World→World→Prop} {G:Nat→Value→World→Prop}:∀ {k:Nat} {l:List Oper},A2n P ops A S R G Q k l→∀ (i:Nat) (o:Oper),l[i]?=some o→B2R P ops A S R G Q (k+i) o
 | _,[],_,i,o,h=>by simp at h
 | k,o' :: r,hh,0,o,h=>by
  have:o'=o:=by simpa using h
  subst this;exact hh.1
 | k,o' :: r,hh,i+1,o,h=>by
  have:=A2n.get hh.2 i o (by simpa using h)
  rwa [show k+1+i=k+(i+1) by omega] at this
def A9Y (listed:Array Bool):Nat→Nat
 | 0=>0
 | k+1=>A9Y listed k+(if listed.getD k true then 0 else 1)
theorem A9K (listed:Array Bool) (i:Nat):∀ n,n≤i→A9Y (listed.setIfInBounds i true) n=A9Y listed n
 | 0,_=>rfl
 | n+1,h=>by
  unfold A9Y
  rw [A9K listed i n (by omega),getD_set_ne true (by omega)]
theorem B0a (listed:Array Bool) (i:Nat) (hi:listed.getD i true=false):∀ n,i<n→A9Y listed n=A9Y (listed.setIfInBounds i true) n+1
 | 0,h=>by omega
 | n+1,h=>by
  unfold A9Y
  by_cases hin:i=n
  ·subst hin
   have hs:i<listed.size:=by
    rcases Nat.lt_or_ge i listed.size with h' | h'
    ·exact h'
    ·simp [Array.getElem?_eq_none h'] at hi
   rw [A9K listed i i (Nat.le_refl _),hi]
   simp [hs]
  ·rw [B0a listed i hi n (by omega),getD_set_ne true hin];omega
theorem A8x (listed:Array Bool):∀ n,A9Y listed n=0→∀ j,j<n→listed.getD j true=true
 | 0,_,j,h=>by omega
 | n+1,h,j,hj=>by
  unfold A9Y at h
  rcases Nat.lt_or_ge j n with h' | h'
  ·exact A8x listed n (by omega) j h'
  ·obtain rfl:j=n:=by omega
   cases hg:listed.getD j true with
   | true=>rfl
   | false=>rw [hg] at h;simp at h
theorem B0b (listed:Array Bool):∀ n,A9Y listed n≠0→∃ j,j<n∧listed.getD j true=false
 | 0,h=>absurd rfl h
 | n+1,h=>by
  cases hg:listed.getD n true with
  | false=>exact ⟨n,by omega,hg⟩
  | true=>
   unfold A9Y at h
   rw [hg] at h
   obtain ⟨j,hj,h2⟩:=B0b listed n (by simpa using h)
   exact ⟨j,by omega,h2⟩
theorem A6Q (m:Nat):∀ n,n≤m→A9Y (Array.replicate m false) n=n
 | 0,_=>rfl
 | n+1,h=>by
  unfold A9Y
  rw [A6Q m n (by omega)]
  have hnm:n<m:=by omega
  have:(Array.replicate m false).getD n true=false:=by simp [hnm]
  rw [this];simp
def B3E (ops:Array Oper) (n:Nat):Bool:=
 decide (n<ops.size) && Region.sinkB .any ops n && Region.chainB .any ops n &&
  ((List.range n).all fun i=>((ops[i]?).map fun o=>o.after.all fun e=>!Region.binds .any e || decide (e.on<i)).getD false) &&
  Region.seqB .any ops (ops.size - n) n (List.replicate n true ++ List.replicate (ops.size - n) false).toArray
theorem B0r {ops:Array Oper} {n:Nat} {listed:Array Bool} (inv:HeadInv .any ops n listed) (hn:n<ops.size)
 (hlow:((List.range n).all fun i=>((ops[i]?).map fun o=>o.after.all fun e=>!Region.binds .any e || decide (e.on<i)).getD false)=true):
 ∀ (i:Nat),i<n→listed.getD i true=false→∃ k,k∈Region.ready .any ops listed:=by
 intro i
 induction i using Nat.strongRecOn with
 | _ i ih=>
  intro hi hun
  have ho:ops[i]?=some (ops[i]'(by omega)):=Array.getElem?_eq_getElem (by omega)
  obtain ⟨o,ho⟩:∃ o,ops[i]?=some o:=⟨_,ho⟩
  by_cases hall:∀ e∈o.after,Region.binds .any e=true→listed.getD e.on false=true
  ·exact ⟨i,mem_ready.2 ⟨hun,o,ho,hall⟩⟩
  ·simp only [Classical.not_forall] at hall
   obtain ⟨e,he,hb,hne⟩:=hall
   have h1:=(List.all_eq_true.1 hlow) i (List.mem_range.2 hi)
   rw [ho] at h1
   simp only [Option.map_some,Option.getD_some,Array.all_eq_true_iff_forall_mem] at h1
   have h2:=h1 e he
   rw [hb] at h2
   have h3:e.on<i:=by simpa using h2
   refine ih e.on h3 (by omega) (getD_in (by rw [inv.size];omega) ?_)
   cases h:listed.getD e.on false with
   | true=>exact absurd h hne
   | false=>rfl
theorem B3c {l:List Oper} {n:Nat} {A:(Nat→Value)→Act} {S:World→Prop} {R:World→World→Prop} {G:Nat→Value→World→Prop} (hB:B3E l.toArray n=true)
 (hob:A2n P l.toArray A S R G Q 0 (l.take n)) (hst:∀ j v w w',R w w'→S w'→G j v w→G j v w')
 (hend:∀ y w,S w→(∀ j,j<n→G j (y j) w)→wpList P l.toArray Q (l.drop n) (A y) w):
 ∀ (f:Nat) (listed:Array Bool) (y:Nat→Value) (w:World),HeadInv .any l.toArray n listed→A9Y listed n=f→S w→(∀ j,j<n→listed.getD j false=true→G j (y j) w)→
  wpAny P .any l.toArray Q (f+(l.toArray.size - n)) listed (A y) w:=by
 simp only [B3E,Bool.and_eq_true,decide_eq_true_eq] at hB
 obtain ⟨⟨⟨⟨hn,hs⟩,hc⟩,hlow⟩,hseq⟩:=hB
 intro f
 induction f with
 | zero=>
  intro listed y w inv hcnt hS hG
  have hall:=A8x listed n hcnt
  have hsz:=inv.size
  have hallF:∀ j,j<n→listed.getD j false=true:=fun j hj=>by
   have h1:=hall j hj
   have h2:j<listed.size:=by omega
   simp [h2] at h1 ⊢;exact h1
  have hL:listed=(List.replicate n true ++ List.replicate (l.toArray.size - n) false).toArray:=by
   refine Array.ext (by simp [hsz];have:n<l.length:=by simpa using hn
                        omega) fun i h1 h2=>?_
   rcases Nat.lt_or_ge i n with h | h
   ·have:=hallF i h
    simp [h1] at this
    simp [this,h]
   ·have:=inv.tail i h (by omega)
    simp [h1] at this
    simp [this,List.getElem_append,Nat.not_lt.2 h]
  rw [Nat.zero_add]
  have hdl:(l.drop n).length=l.toArray.size - n:=by simp
  have:=wpAny_of_seq (P:=P) (md:=.any) (ops:=l.toArray) (Q':=Q) (l.drop n) n listed (A y) w (fun j=>by simp [List.getElem?_drop]) (by rw [hdl,hL];exact hseq) (hend y w hS fun j hj=>hG j hj (hallF j hj))
  rwa [hdl] at this
 | succ f ih=>
  intro listed y w inv hcnt hS hG
  obtain ⟨i0,hi0,hun0⟩:=B0b listed n (by omega)
  have hfuel:f+1+(l.toArray.size - n)=(f+(l.toArray.size - n))+1:=by omega
  rw [hfuel]
  refine ⟨fun h0=>?_,fun i hi=>?_⟩
  ·obtain ⟨k,hk⟩:=B0r inv hn hlow i0 hi0 hun0
   rw [h0] at hk;cases hk
  ·have hin:i<n:=by
    rcases Nat.lt_or_ge i n with h | h
    ·exact h
    ·exact absurd hi (tail_waits hs hc hn inv _ i0 rfl hi0 hun0 i h)
   obtain ⟨hun,o,ho,hall⟩:=mem_ready.1 hi
   have hon:(l.take n)[i]?=some o:=by
    rw [List.getElem?_take_of_lt hin];simpa using ho
   have h1:=(List.all_eq_true.1 hlow) i (List.mem_range.2 hin)
   rw [ho] at h1
   simp only [Option.map_some,Option.getD_some,Array.all_eq_true_iff_forall_mem] at h1
   have ob:=hob.get i o hon
   rw [Nat.zero_add] at ob
   have hdeps:A3x G y w (A2E o):=by
    refine A3x.of _ fun j hj=>?_
    unfold A2E at hj
    rw [List.mem_map] at hj
    obtain ⟨e,he,rfl⟩:=hj
    rw [List.mem_filter] at he
    have he1:e∈o.after:=by simpa using he.1
    have h2:=h1 e he1
    rw [he.2] at h2
    have h3:e.on<i:=by simpa using h2
    exact hG e.on (by omega) (hall e he1 he.2)
   have hnext:∀ v w',S w'→(R w w'∨w'=w)→G i v w'→wpAny P .any l.toArray Q (f+(l.toArray.size - n)) (listed.setIfInBounds i true) ((A y).put o.dst v) w':=by
    intro v w' hS' hR hGi
    rw [ob.2.2 y v]
    refine ih _ _ _ (inv.set hi hin) (by have:=B0a listed i hun n hin;omega) hS' fun j hj hl=>?_
    unfold B5V
    by_cases hji:j=i
    ·subst hji;simpa using hGi
    ·rw [if_neg hji]
     rw [getD_set_ne false (Ne.symm hji)] at hl
     rcases hR with hR | rfl
     ·exact hst j _ w w' hR hS' (hG j hj hl)
     ·exact hG j hj hl
   unfold wpOp
   simp only [ho]
   split
   ·rename_i hw
    exact .inl (ob.1 y w hS hdeps hw _ fun v a' w' hGi ha' hR hS'=>ha' ▸ hnext v w' hS' (.inl hR) hGi)
   ·rename_i hw
    exact hnext _ w hS (.inr rfl) (ob.2.1 y w hS hdeps (by simpa using hw))
theorem A0O {id:Nat} {a:Act} {w:World} {l:List Oper} (n:Nat) (A:(Nat→Value)→Act) (y0:Nat→Value) (S:World→Prop) (R:World→World→Prop) (G:Nat→Value→World→Prop) (hm:P.follows .mixedOrders=true) (hB:B3E l.toArray n=true)
 (ha:a=A y0) (hS:S w.drew) (hst:∀ j v w w',R w w'→S w'→G j v w→G j v w')
 (hob:A2n P l.toArray A S R G Q 0 (l.take n))
 (hend:∀ y w,S w→(∀ j,j<n→G j (y j) w)→wpList P l.toArray Q (l.drop n) (A y) w):(Code.region id l.toArray true).wp P Q a w:=by
 have hn:n<l.toArray.size:=by
  simp only [B3E,Bool.and_eq_true,decide_eq_true_eq] at hB
  exact hB.1.1.1.1
 refine wp_region_any hm ?_
 have inv0:HeadInv .any l.toArray n (Array.replicate l.toArray.size false):=
  ⟨by simp,fun j oj _ hl=>(by rw [getD_replicate_false] at hl;cases hl),fun t _ ht=>getD_in (by simpa using ht) (getD_replicate_false _ _)⟩
 have H:=B3c hB hob hst hend n _ y0 w.drew inv0 (A6Q _ n (by omega)) hS (fun j _ hl=>by rw [getD_replicate_false] at hl;cases hl)
 rw [show n+(l.toArray.size - n)=l.toArray.size by omega] at H
 rw [ha]
 exact H
end
end Go.Proofs.YtodcnkbblippnaaGreatDoor
namespace Go.Proofs.YtodcnkbblippnaaGreatDoor
open Go.RowKit
def A1N (s t v:Int):List UInt8:=UInt8.ofNat (s % 256).toNat :: (A1h t ++ A1h v)
set_option maxRecDepth 100000 in
set_option maxHeartbeats 1000000 in
theorem A5e (w:World) (s t v:Int) (hs:0≤s∧s<256) (ht : -9223372036854775808≤t∧t≤9223372036854775807) (hv : -9223372036854775808≤v∧v≤9223372036854775807):
 Calls Tryz.prog 195 #[.agg #[.int .i64 s,.int .i64 t,.int .i64 v]] w fun e w'=>e=.returned (.string ⟨(A1N s t v).toArray⟩)∧Chg (fun _=>False) w w':=by
 go_enter Tryz.func195,Tryz.ntmps195
 go_wp2
 refine A0O 15 (fun y=>{ tmps:=#[.agg #[.int .i64 s,.int .i64 t,.int .i64 v],.pointer (some ⟨w.heap.size,0,none⟩),.string ⟨#[]⟩,y 0,y 1,y 2,y 3,y 4,y 5,y 6,y 7,y 8,y 9,y 10,y 11,y 12,y 13,y 14],defers:=[] }) (fun _=>undef)
  (fun w'=>w'.heap[w.heap.size]?=some (.cells #[.int .i64 s,.int .i64 t,.int .i64 v] 113 (0,0))∧Chg (fun _=>False) w w') (Chg (fun _=>False))
  (fun j x w'=>match j with
   | 0=>x=.pointer (some ⟨w.heap.size,0,none⟩)
   | 1=>x=.int .i64 s
   | 2=>x=.int .u8 s
   | 3=>∃ g e,x=.slice (some ⟨g,0,none⟩) 1 1∧w'.heap[g]?=some (.cells #[.int .u8 s] e (0,0))
   | 4=>x=.string ⟨#[UInt8.ofNat (s % 256).toNat]⟩
   | 5=>x=.pointer (some ⟨w.heap.size,1,none⟩)
   | 6=>x=.pointer (some ⟨w.heap.size,1,none⟩)
   | 7=>x=.int .i64 t
   | 8=>x=.string ⟨(A1h t).toArray⟩
   | 9=>x=.string ⟨(UInt8.ofNat (s % 256).toNat :: A1h t).toArray⟩
   | 10=>x=.pointer (some ⟨w.heap.size,1,none⟩)
   | 11=>x=.pointer (some ⟨w.heap.size,2,none⟩)
   | 12=>x=.int .i64 v
   | 13=>x=.string ⟨(A1h v).toArray⟩
   | 14=>x=.string ⟨(A1N s t v).toArray⟩
   | _=>True)
  (by kernel_rfl) (by kernel_rfl) rfl ?_ ?_ ?_ ?_
 ·exact ⟨(by show (w.heap.push _)[w.heap.size]?=_;rw [Array.getElem?_push_size]),((Chg.refl _ _).alloc _).drew⟩
 ·intro j x w1 w2 hR hS' hG
  split at hG <;> first | exact hG | (obtain ⟨g,e,h1,h2⟩:=hG;exact ⟨g,e,h1,hR.keep h2 (by simp)⟩)
 ·simp only [List.take_succ_cons,List.take_zero,A2n,and_true]
  repeat' (with_reducible apply And.intro)
  all_goals refine ⟨?_,(by intro y wx _ _ h;exact Bool.noConfusion h),fun y x=>rfl⟩
  all_goals
   intro y wx hS hd hw K hK
   clear hw
   obtain ⟨hS1,hS2⟩:=hS
   simp [A2E,Region.binds,A3x,List.filter_cons] at hd
   have hc0:wx.cell? ⟨w.heap.size,0,none⟩=some (.int .i64 s):=by simp [World.cell?,hS1]
   have hc1:wx.cell? ⟨w.heap.size,1,none⟩=some (.int .i64 t):=by simp [World.cell?,hS1]
   have hc2:wx.cell? ⟨w.heap.size,2,none⟩=some (.int .i64 v):=by simp [World.cell?,hS1]
   have hw8:IntKind.u8.wrap s=s:=by simp [IntKind.wrap,IntKind.bits,IntKind.signed];omega
   have hlt:=A0v t
   have hlv:=A0v v
   have HS1:=A0b hS1
   have HS2:=A0b hS2
   have HK:=A0b hK
   clear hS1 hS2 hK
   have ap1:(ByteArray.mk #[UInt8.ofNat (s % 256).toNat]) ++ (ByteArray.mk (A1h t).toArray)=⟨(UInt8.ofNat (s % 256).toNat :: A1h t).toArray⟩:=A2V [_] _
   have ap2:(ByteArray.mk (UInt8.ofNat (s % 256).toNat :: A1h t).toArray) ++ (ByteArray.mk (A1h v).toArray)=⟨(A1N s t v).toArray⟩:=A2V _ _
   try
    have hd3:∃ g,y 3=.slice (some ⟨g,0,none⟩) 1 1∧∃ e,wx.heap[g]?=some (.cells #[.int .u8 s] e (0,0)):=by with_reducible exact hd
    clear hd
    obtain ⟨g,hd,e,hg⟩:=hd3
    have hgc:wx.cell? ⟨g,0,none⟩=some (.int .u8 s):=by simp [World.cell?,hg]
    have cv:(convert 127 9 (.slice (some ⟨g,0,none⟩) 1 1)).run Tryz.prog wx=.ok (.string ⟨#[UInt8.ofNat (s % 256).toNat]⟩) wx:=run_convert_bytes_back (P:=Tryz.prog) wx 127 9 5 ⟨g,0,none⟩ 1 [UInt8.ofNat (s % 256).toNat] Tryz.underlying127 Tryz.underlying5 Tryz.underlying9 (by
     intro j hj
     have hj0:j=0:=by simpa using hj
     subst hj0
     have hadd:(⟨g,0,none⟩:Addr).add 0=⟨g,0,none⟩:=by unfold Addr.add;split <;> simp_all
     have hs8:((UInt8.ofNat (s % 256).toNat).toNat:Int)=s:=by simp;omega
     rw [hadd,hgc]
     simp only [List.getElem_cons_zero,hs8])
    clear hg
  all_goals dsimp only
  all_goals try go_simp
  all_goals try with_reducible exact HK.out _ _ _ rfl (by simp [Act.put,hd]) (Chg.refl _ _) ⟨HS1.out,HS2.out⟩
  all_goals try
   have hd7:y 7=.int .i64 t:=by with_reducible exact hd
   clear hd7
   refine (A2h wx t ht).mono ?_
   rintro e w2 ⟨rfl,hc⟩
   exact HK.out _ _ _ rfl (by simp [Act.put,hd]) hc ⟨hc.keep HS1.out (by simp),HS2.out.trans hc (by simp)⟩
  all_goals try
   have hd12:y 12=.int .i64 v:=by with_reducible exact hd.1
   clear hd12
   refine (A2h wx v hv).mono ?_
   rintro e w2 ⟨rfl,hc⟩
   exact HK.out _ _ _ rfl (by simp [Act.put,hd]) hc ⟨hc.keep HS1.out (by simp),HS2.out.trans hc (by simp)⟩
  ·exact HK.out _ _ _ ⟨wx.heap.size,_,rfl,(by show (wx.heap.push _)[wx.heap.size]?=_;rw [Array.getElem?_push_size])⟩ (by simp [Act.put,hd]) ((Chg.refl _ _).alloc _) ⟨((Chg.refl (fun _=>False) wx).alloc _).keep HS1.out (by simp),HS2.out.alloc _⟩
 ·intro y wx hS hG
  obtain ⟨hS1,hS2⟩:=hS
  have h14:y 14=.string ⟨(A1N s t v).toArray⟩:=hG 14 (by omega)
  have HS2:=A0b hS2
  clear hG hS1 hS2
  go_wp2
  go_ret
  exact ⟨rfl,HS2.out⟩
end Go.Proofs.YtodcnkbblippnaaGreatDoor
namespace Go.Proofs.YtodcnkbblippnaaGreatDoor
open Go
section
variable {P:Program} {ops:Array Oper} {md:Region.Mode} {Q:Exit→Act→World→Prop} {S:World→Prop}
def A8I (P:Program) (md:Region.Mode) (ops:Array Oper) (Q:Exit→Act→World→Prop) (S:World→Prop) (n:Nat) (L:Array Bool→Act→World→Prop):Nat→Array Bool→Act→World→Prop
 | 0,listed,a,w=>L listed a w
 | f+1,listed,a,w=>Region.ready md ops listed≠[]∧∀ i∈Region.ready md ops listed,i<n∧wpOp P ops Q i (fun a' w'=>S w'∧A8I P md ops Q S n L f (listed.setIfInBounds i true) a' w') a w
theorem A4b {n g:Nat} {L:Array Bool→Act→World→Prop} (hL:∀ listed a w,L listed a w→wpAny P md ops Q g listed a w):
 ∀ (f:Nat) (listed:Array Bool) (a:Act) (w:World),A8I P md ops Q S n L f listed a w→wpAny P md ops Q (f+g) listed a w
 | 0,listed,a,w,h=>by rw [Nat.zero_add];exact hL _ _ _ h
 | f+1,listed,a,w,h=>by
  rw [show f+1+g=(f+g)+1 from by omega]
  exact ⟨fun h0=>absurd h0 h.1,fun i hi=>wpOp_mono (fun a' w' h'=>A4b hL f _ a' w' h'.2) (h.2 i hi).2⟩
theorem A7X {n i:Nat} {oi:Oper} {v:Value} {L:Array Bool→Act→World→Prop} (hi:ops[i]?=some oi) (hsel:∀ (j:Nat) (o:Oper) cs b,ops[j]?=some o→o.op≠.select cs b)
 (hQ:∀ c a w,Q (.panic c) (a.put oi.dst v) w→Q (.panic c) a w)
 (hs:Region.sinkB md ops n=true) (hc:Region.chainB md ops n=true) (hn:n<ops.size) (hin:i<n)
 (hdone:∀ listed a w,L listed a w→∀ j∈Region.ready md ops listed,n≤j):
 ∀ (f:Nat) (listed:Array Bool) (a:Act) (w:World),HeadInv md ops n listed→
  (∀ j oj,ops[j]?=some oj→j≠i→listed.getD j true=false→(∀ e∈oj.after,Region.binds md e=true→e.on≠i)→oi.apart ops oj=true)→
  i∈Region.ready md ops listed→YieldsIf P ops S oi v a→S w→
  A8I P md ops Q S n L f (listed.setIfInBounds i true) (a.put oi.dst v) w→A8I P md ops Q S n L (f+1) listed a w:=by
 intro f
 induction f with
 | zero=>
  intro listed a w inv _ hr hy hS H
  have hun:=(mem_ready.1 hr).1
  refine ⟨fun h=>(by rw [h] at hr;cases hr),fun j hj=>?_⟩
  have hjn:j<n:=by
   rcases Nat.lt_or_ge j n with h | h
   ·exact h
   ·exact absurd hj (tail_waits hs hc hn inv _ i rfl hin hun j h)
  refine ⟨hjn,?_⟩
  by_cases hji:j=i
  ·subst hji;exact hy.wpOp hi hS ⟨hS,H⟩
  ·have:=hdone _ _ _ H j (ready_mono hj hji)
   omega
 | succ f ih=>
  intro listed a w inv hfree hr hy hS H
  have hun:=(mem_ready.1 hr).1
  refine ⟨fun h=>(by rw [h] at hr;cases hr),fun j hj=>?_⟩
  have hjn:j<n:=by
   rcases Nat.lt_or_ge j n with h | h
   ·exact h
   ·exact absurd hj (tail_waits hs hc hn inv _ i rfl hin hun j h)
  refine ⟨hjn,?_⟩
  by_cases hji:j=i
  ·subst hji;exact hy.wpOp hi hS ⟨hS,H⟩
  ·have h1:=(H.2 j (ready_mono hj hji)).2
   obtain ⟨hjun,oj,hoj,hall⟩:=mem_ready.1 hj
   have hnot:∀ e∈oj.after,Region.binds md e=true→e.on≠i:=fun e he hb heq=>by
    have h1:=hall e he hb
    rw [heq,getD_both hun] at h1
    cases h1
   have h2:=wpOp_putIf hoj (hfree j oj hoj hji hjun hnot) (fun cs b=>hsel i oi cs b hi) (fun cs b=>hsel j oj cs b hoj) hQ hy h1
   have hfree':∀ k ok,ops[k]?=some ok→k≠i→(listed.setIfInBounds j true).getD k true=false→
    (∀ e∈ok.after,Region.binds md e=true→e.on≠i)→oi.apart ops ok=true:=fun k ok hk hki hun hno=>by
    refine hfree k ok hk hki ?_ hno
    by_cases hjk:j=k
    ·subst hjk;exact hjun
    ·rw [getD_set_ne true hjk] at hun;exact hun
   refine wpOp_mono (fun a' w' h3=>⟨h3.2.1,ih (listed.setIfInBounds j true) a' w' (inv.set hj hjn) hfree' (ready_mono hr (Ne.symm hji)) h3.1 h3.2.1 ?_⟩) h2
   rw [Array.setIfInBounds_comm _ _ hji]
   exact h3.2.2
def A5o (P:Program) (ops:Array Oper) (Q:Exit→Act→World→Prop) (S:World→Prop) (T:Act→World→Prop):List (Nat × Bool)→Act→World→Prop
 | [],a,w=>T a w
 | (i,true):: r,a,w=>∃ o v,ops[i]?=some o∧YieldsIf P ops S o v a∧A5o P ops Q S T r (a.put o.dst v) w
 | (i,false):: r,a,w=>wpOp P ops Q i (fun a' w'=>S w'∧A5o P ops Q S T r a' w') a w
def B1D (md:Region.Mode) (ops:Array Oper) (n:Nat):List (Nat × Bool)→Array Bool→Bool
 | [],listed=>Region.seqB md ops (ops.size - n) n listed
 | (i,t):: r,listed=>decide (i<n) && (if t then (Region.ready md ops listed).contains i && Region.free md ops listed i else decide (Region.ready md ops listed = [i])) && B1D md ops n r (listed.setIfInBounds i true)
def B5P (ops:Array Oper) (n:Nat) (sch:List (Nat × Bool)):Bool:=
 Region.noSelect ops && decide (n<ops.size) && decide (sch.length=n) && Region.sinkB .any ops n && Region.chainB .any ops n && B1D .any ops n sch (Array.replicate ops.size false)
theorem A3k {n:Nat} {T:Act→World→Prop} (hsel:Region.noSelect ops=true) (hs:Region.sinkB md ops n=true) (hc:Region.chainB md ops n=true) (hn:n<ops.size)
 (hQ:∀ c a t v w,Q (.panic c) (Act.put a (some t) v) w→Q (.panic c) a w):
 ∀ (sch:List (Nat × Bool)) (listed:Array Bool) (a:Act) (w:World),HeadInv md ops n listed→B1D md ops n sch listed=true→S w→A5o P ops Q S T sch a w→
 A8I P md ops Q S n (fun listed' a' w'=>Region.seqB md ops (ops.size - n) n listed'=true∧T a' w') sch.length listed a w
 | [],listed,a,w,_,hB,_,h=>⟨hB,h⟩
 | (i,true):: r,listed,a,w,inv,hB,hS,h=>by
  simp only [B1D,Bool.and_eq_true,decide_eq_true_eq,if_true] at hB
  obtain ⟨⟨hin,hr,hf⟩,hB'⟩:=hB
  obtain ⟨o,v,h0,hy,hK⟩:=h
  have hr':i∈Region.ready md ops listed:=by simpa using hr
  exact A7X h0 (Region.noSelect_spec hsel) (fun c a w=>by cases o.dst with | none=>exact id | some t=>exact hQ c a t v w) hs hc hn hin (fun listed' a' w' hL=>seqB_ready hL.1) r.length listed a w inv (Region.free_spec h0 hf) hr' hy hS
   (A3k hsel hs hc hn hQ r _ _ w (inv.set hr' hin) hB' hS hK)
 | (i,false):: r,listed,a,w,inv,hB,hS,h=>by
  simp only [B1D,Bool.and_eq_true,decide_eq_true_eq,Bool.false_eq_true,if_false] at hB
  obtain ⟨⟨hin,hr⟩,hB'⟩:=hB
  refine ⟨by rw [hr];simp,fun j hj=>?_⟩
  have hr':i∈Region.ready md ops listed:=by rw [hr];simp
  rw [hr] at hj
  have:j=i:=by simpa using hj
  subst this
  exact ⟨hin,wpOp_mono (fun a' w' h'=>⟨h'.1,A3k hsel hs hc hn hQ r _ a' w' (inv.set hr' hin) hB' h'.1 h'.2⟩) h⟩
theorem A0e {id:Nat} {a:Act} {w:World} {l:List Oper} (S:World→Prop) (n:Nat) (sch:List (Nat × Bool)) (hm:P.follows .mixedOrders=true) (hB:B5P l.toArray n sch=true)
 (hQ:∀ c a t v w,Q (.panic c) (Act.put a (some t) v) w→Q (.panic c) a w) (hS:S w.drew)
 (h:A5o P l.toArray Q S (fun a w=>wpList P l.toArray Q (l.drop n) a w) sch a w.drew):(Code.region id l.toArray true).wp P Q a w:=by
 simp only [B5P,Bool.and_eq_true,decide_eq_true_eq] at hB
 obtain ⟨⟨⟨⟨⟨hsel,hn⟩,hsl⟩,hs⟩,hc⟩,hgo⟩:=hB
 have hn':n<l.length:=by simpa using hn
 have hdl:(l.drop n).length=l.toArray.size - n:=by simp
 have inv0:HeadInv .any l.toArray n (Array.replicate l.toArray.size false):=
  ⟨by simp,fun j oj _ hl=>(by rw [getD_replicate_false] at hl;cases hl),fun t _ ht=>getD_in (by simpa using ht) (getD_replicate_false _ _)⟩
 have H:=A3k (md:=.any) (T:=fun a w=>wpList P l.toArray Q (l.drop n) a w) hsel hs hc hn hQ sch _ a w.drew inv0 hgo hS h
 refine wp_region_any hm ?_
 have:=A4b (Q:=Q) (g:=l.toArray.size - n) (fun listed a' w' hL=>by
  have:=wpAny_of_seq (md:=.any) (Q':=Q) (l.drop n) n listed a' w' (fun j=>by simp [List.getElem?_drop]) (by rw [hdl];exact hL.1) hL.2
  rwa [hdl] at this) _ _ _ _ H
 rw [hsl,show n+(l.toArray.size - n)=l.toArray.size from by omega] at this
 exact this
theorem A0d {i:Nat} {o:Oper} {v:Value} {r:List (Nat × Bool)} {a:Act} {w:World} {T:Act→World→Prop} (ho:ops[i]?=some o) (hw:Region.wanted o (yielded ops a.tmps)=true)
 (hy:∀ w,S w→(execOp a.eval o).run P w=.ok (.value v) w) (h:A5o P ops Q S T r (a.put o.dst v) w):A5o P ops Q S T ((i,true):: r) a w:=
 ⟨o,v,ho,.inl ⟨hw,hy⟩,h⟩
theorem B0I {i:Nat} {o:Oper} {r:List (Nat × Bool)} {a:Act} {w:World} {T:Act→World→Prop} (ho:ops[i]?=some o) (hw:Region.wanted o (yielded ops a.tmps)=false)
 (h:A5o P ops Q S T r (a.put o.dst undef) w):A5o P ops Q S T ((i,true):: r) a w:=
 ⟨o,_,ho,.inr ⟨hw,rfl⟩,h⟩
theorem A0k {a:Act} {w:World} {T:Act→World→Prop} (h:T a w):A5o P ops Q S T [] a w:=h
theorem A0i {i:Nat} {o:Oper} {r:List (Nat × Bool)} {a:Act} {w:World} {T:Act→World→Prop} (ho:ops[i]?=some o) (hw:Region.wanted o (yielded ops a.tmps)=true)
 (h:∀ K:Act→World→Prop,(∀ a w,S w→(S w→A5o P ops Q S T r a w)→K a w)→o.wp P a w K Q):A5o P ops Q S T ((i,false):: r) a w:=by
 show wpOp P ops Q i _ a w
 unfold wpOp
 simp only [ho,hw,if_true]
 exact .inl (h _ fun a w hS hW=>⟨hS,hW hS⟩)
end
def NoP (Q:Exit→Act→World→Prop):Exit→Act→World→Prop
 | .panic _,_,_=>False
 | e,a,w=>Q e a w
theorem A0p (Q:Exit→Act→World→Prop) (a:Act) (w:World):NoP Q .normal a w=Q .normal a w:=rfl
theorem B4P {Q:Exit→Act→World→Prop} {e:Exit} {a:Act} {w:World} (h:NoP Q e a w):Q e a w:=by
 cases e with
 | panic _=>exact h.elim
 | _=>exact h
theorem A2K {P:Program} {Q:Exit→Act→World→Prop} {id:Nat} {a:Act} {w:World} {l:List Oper} (S:World→Prop) (n:Nat) (sch:List (Nat × Bool)) (hm:P.follows .mixedOrders=true) (hB:B5P l.toArray n sch=true)
 (hS:S w.drew) (h:A5o P l.toArray (NoP Q) S (fun a w=>wpList P l.toArray (NoP Q) (l.drop n) a w) sch a w.drew):(Code.region id l.toArray true).wp P Q a w:=
 Code.wp_mono (fun _ _ _ h=>B4P h) (A0e S n sch hm hB (fun _ _ _ _ _ h=>h) hS h)
end Go.Proofs.YtodcnkbblippnaaGreatDoor
namespace Go.Proofs.YtodcnkbblippnaaGreatDoor
open Go.RowKit
def A1P (l:List UInt8):Int:=wrap64 (leN (l.take 8):Nat)
theorem A3T (w:World) (l:List UInt8) (hl:8≤l.length∧l.length≤9223372036854775807):
 Calls Tryz.prog 168 #[.string ⟨l.toArray⟩] w fun e w'=>e=.returned (.int .i64 (A1P l))∧w=w':=
 B1Z w ⟨l.toArray⟩ hl
theorem A5Y (n:Int) (h : -9223372036854775808≤n∧n≤9223372036854775807) (r:List UInt8):A1P (A1h n ++ r)=n:=by
 unfold A1P
 rw [List.take_append_of_le_length (by rw [A0v];omega),List.take_of_length_le (by rw [A0v];omega)]
 exact A7q n h
def A0V (w:World) (p:Nat) (s t v:Int):Prop:=w.heap[p]?=some (.cells #[.int .i64 s,.int .i64 t,.int .i64 v] 113 (0,0))
theorem A0V.c0 {w:World} {p:Nat} {s t v:Int} (h:A0V w p s t v):w.cell? ⟨p,0,none⟩=some (.int .i64 s):=by unfold A0V at h;simp [World.cell?,h]
theorem A0V.c1 {w:World} {p:Nat} {s t v:Int} (h:A0V w p s t v):w.cell? ⟨p,1,none⟩=some (.int .i64 t):=by unfold A0V at h;simp [World.cell?,h]
theorem A0V.c2 {w:World} {p:Nat} {s t v:Int} (h:A0V w p s t v):w.cell? ⟨p,2,none⟩=some (.int .i64 v):=by unfold A0V at h;simp [World.cell?,h]
theorem A0V.fz {w:World} {p:Nat} {s t v:Int} (h:A0V w p s t v) (o:Nat):w.frozen? ⟨p,o,none⟩=false:=by unfold A0V at h;simp [World.frozen?,h]
theorem A0V.lt {w:World} {p:Nat} {s t v:Int} (h:A0V w p s t v):p<w.heap.size:=lt_of_block h
theorem A0V.keep {S:Nat→Prop} {w w':World} {p:Nat} {s t v:Int} (h:A0V w p s t v) (hc:Chg S w w') (hn:¬ S p):A0V w' p s t v:=hc.keep h hn
theorem A0V.drew {w:World} {p:Nat} {s t v:Int} (h:A0V w p s t v):A0V w.drew p s t v:=by unfold A0V at h ⊢;exact h
theorem A0V.set {w:World} {p:Nat} {s t v:Int} (h:A0V w p s t v) (s' t' v':Int):A0V (((w.setCell ⟨p,0,none⟩ (.int .i64 s')).setCell ⟨p,1,none⟩ (.int .i64 t')).setCell ⟨p,2,none⟩ (.int .i64 v')) p s' t' v':=
 A0h (o:=2) (v:=.int .i64 v') (A0h (o:=1) (v:=.int .i64 t') (A0h (o:=0) (v:=.int .i64 s') h))
set_option maxRecDepth 100000 in
set_option maxHeartbeats 2000000 in
theorem A8H (w:World) (b:UInt8) (l:List UInt8) (hl:16≤l.length∧l.length<9223372036854775807):
 Calls Tryz.prog 176 #[.string ⟨(b :: l).toArray⟩] w fun e w'=>e=.returned (.tuple #[.agg #[.int .i64 b.toNat,.int .i64 (A1P l),.int .i64 (A1P (l.drop 8))],.bool (decide (b.toNat<8))])∧Chg (fun _=>False) w w':=by
 obtain ⟨hl1,hl2⟩:=hl
 have hb:=b.toNat_lt
 go_enter Tryz.func176,Tryz.ntmps176
 go_wp2
 refine A0O 12 (fun y=>{ tmps:=#[.string ⟨(b :: l).toArray⟩,undef,.pointer (some ⟨w.heap.size,0,none⟩),.bool false,y 11,y 0,y 1,y 2,y 3,y 4,y 5,y 6,y 7,y 8,y 9,y 10,undef,undef,undef,undef],defers:=[] }) (fun _=>undef)
  (fun w'=>A0V w' w.heap.size 0 0 0∧Chg (fun _=>False) w w') (Chg (fun _=>False))
  (fun j x w'=>match j with
   | 0=>x=.string ⟨(b :: l).toArray⟩
   | 1=>x=.int .u8 b.toNat
   | 2=>x=.int .i64 b.toNat
   | 3=>x=.string ⟨(b :: l).toArray⟩
   | 4=>x=.string ⟨l.toArray⟩
   | 5=>x=.int .i64 (A1P l)
   | 6=>x=.string ⟨(b :: l).toArray⟩
   | 7=>x=.string ⟨(l.drop 8).toArray⟩
   | 8=>x=.int .i64 (A1P (l.drop 8))
   | 9=>x=.agg #[.int .i64 (A1P l),.int .i64 (A1P (l.drop 8))]
   | 10=>x=.agg #[.int .i64 b.toNat,.int .i64 (A1P l),.int .i64 (A1P (l.drop 8))]
   | 11=>∃ p,x=.pointer (some ⟨p,0,none⟩)∧w.heap.size<p∧A0V w' p 0 0 0
   | _=>True)
  (by kernel_rfl) (by kernel_rfl) rfl ?_ ?_ ?_ ?_
 ·exact ⟨(by show (w.heap.push _)[w.heap.size]?=_;rw [Array.getElem?_push_size]),((Chg.refl _ _).alloc _).drew⟩
 ·intro j x w1 w2 hR hS' hG
  split at hG
  case h_12=>
   obtain ⟨p,h1,h2,h3⟩:=hG
   exact ⟨p,h1,h2,h3.keep hR (fun h=>h)⟩
  all_goals exact hG
 ·simp only [List.take_succ_cons,List.take_zero,A2n,and_true]
  repeat' (with_reducible apply And.intro)
  all_goals refine ⟨?_,(by intro y wx _ _ h;exact Bool.noConfusion h),fun y x=>rfl⟩
  all_goals
   intro y wx hS hd hw K hK
   clear hw
   obtain ⟨hS1,hS2⟩:=hS
   simp [A2E,Region.binds,A3x,List.filter_cons] at hd
   have e0:(ByteArray.mk (b :: l).toArray)[0]'(by show 0<l.length+1;omega)=b:=rfl
   have e1:(ByteArray.mk (b :: l).toArray).extract 1 (l.length+1)=⟨l.toArray⟩:=by
    rw [A1k];simp
   have e9:(ByteArray.mk (b :: l).toArray).extract 9 (l.length+1)=⟨(l.drop 8).toArray⟩:=by
    rw [A1k,List.drop_succ_cons,List.take_of_length_le (by simp)]
   have g1:(1:Int)≤(l.length:Int)+1:=by omega
   have g9:(9:Int)≤(l.length:Int)+1:=by omega
   have ew:IntKind.i64.wrap (b.toNat:Int)=b.toNat:=by simp [IntKind.wrap,IntKind.bits,IntKind.signed];omega
   have HS1:=A0b hS1
   have HS2:=A0b hS2
   have HK:=A0b hK
   clear hS1 hS2 hK
  all_goals dsimp only
  all_goals try go_simp
  all_goals try with_reducible exact HK.out _ _ _ rfl (by simp [Act.put,hd]) (Chg.refl _ _) ⟨HS1.out,HS2.out⟩
  all_goals try
   have hd4:y 4=.string ⟨l.toArray⟩:=by with_reducible exact hd
   clear hd4
   refine (A3T wx l (by omega)).mono ?_
   rintro e w2 ⟨rfl,rfl⟩
   exact HK.out _ _ _ rfl (by simp [Act.put,hd]) (Chg.refl _ _) ⟨HS1.out,HS2.out⟩
  all_goals try
   have hd7:y 7=.string ⟨(l.drop 8).toArray⟩:=by with_reducible exact hd.1
   clear hd7
   refine (A3T wx (l.drop 8) (by rw [List.length_drop];omega)).mono ?_
   rintro e w2 ⟨rfl,rfl⟩
   exact HK.out _ _ _ rfl (by simp [Act.put,hd]) (Chg.refl _ _) ⟨HS1.out,HS2.out⟩
  ·refine HK.out _ _ _ ⟨wx.heap.size,rfl,?_,heap_alloc_new wx _⟩ (by simp [Act.put]) ((Chg.refl _ _).alloc _) ⟨HS1.out.keep ((Chg.refl (fun _=>False) _).alloc _) (fun h=>h),HS2.out.alloc _⟩
   exact HS1.out.lt
 ·intro y wx hS hG
  obtain ⟨hS1,hS2⟩:=hS
  have h10:y 10=.agg #[.int .i64 b.toNat,.int .i64 (A1P l),.int .i64 (A1P (l.drop 8))]:=hG 10 (by omega)
  obtain ⟨p,h11,hlt,hp⟩:∃ p,y 11=.pointer (some ⟨p,0,none⟩)∧w.heap.size<p∧A0V wx p 0 0 0:=hG 11 (by omega)
  have c0:=hp.c0
  have c1:=hp.c1
  have c2:=hp.c2
  have f0:=hp.fz 0
  have f1:=hp.fz 1
  have f2:=hp.fz 2
  have h3:=hp.set b.toNat (A1P l) (A1P (l.drop 8))
  have cr:Chg (One p) wx (((wx.setCell ⟨p,0,none⟩ (.int .i64 b.toNat)).setCell ⟨p,1,none⟩ (.int .i64 (A1P l))).setCell ⟨p,2,none⟩ (.int .i64 (A1P (l.drop 8)))):=(((Chg.refl (One p) wx).setAt rfl _ _).setAt rfl _ _).setAt rfl _ _
  have H3:=A0b h3
  have R3:=A0b (hS1.keep cr (fun h=>by have h':w.heap.size=p:=h;omega))
  have K3:Hid (Chg (fun _=>False) w (((wx.setCell ⟨p,0,none⟩ (.int .i64 b.toNat)).setCell ⟨p,1,none⟩ (.int .i64 (A1P l))).setCell ⟨p,2,none⟩ (.int .i64 (A1P (l.drop 8))))):=hS2.trans cr (fun k hk hlt2=>by have h':k=p:=hk;omega)
  have NE:Hid (w.heap.size<p):=hlt
  clear hG hS1 hS2 h3 hp hlt cr
  go_wp2
  generalize (((wx.setCell ⟨p,0,none⟩ (.int .i64 b.toNat)).setCell ⟨p,1,none⟩ (.int .i64 (A1P l))).setCell ⟨p,2,none⟩ (.int .i64 (A1P (l.drop 8))))=w3 at H3 R3 K3 ⊢
  clear c0 c1 c2 f0 f1 f2 h10 h11
  obtain ⟨iv,hiv⟩:∃ iv,A1P l=iv:=⟨_,rfl⟩
  obtain ⟨jv,hjv⟩:∃ jv,A1P (l.drop 8)=jv:=⟨_,rfl⟩
  rw [hiv,hjv] at H3 ⊢
  have hbi:Hid (((b.toNat:Int)<8)=(b.toNat<8)):=by unfold Hid;simp;omega
  obtain ⟨n,hn⟩:∃ n:Nat,b.toNat=n:=⟨_,rfl⟩
  have HNV:Hid (b.toNat=n∧A1P l=iv∧A1P (l.drop 8)=jv):=⟨hn,hiv,hjv⟩
  rw [hn] at H3 hbi ⊢
  clear hiv hjv hn hb
  have q0:=H3.out.c0
  have q1:=H3.out.c1
  have q2:=H3.out.c2
  have r0:=R3.out.c0
  have r1:=R3.out.c1
  have r2:=R3.out.c2
  have z0:=R3.out.fz 0
  have z1:=R3.out.fz 1
  have z2:=R3.out.fz 2
  go_wp2
  clear q0 q1 q2 r0 r1 r2 z0 z1 z2
  refine A0O 5 (fun z=>{ tmps:=#[.string ⟨(b :: l).toArray⟩,undef,.pointer (some ⟨w.heap.size,0,none⟩),.bool false,.pointer (some ⟨p,0,none⟩),y 0,y 1,y 2,y 3,y 4,y 5,y 6,y 7,y 8,y 9,.agg #[.int .i64 n,.int .i64 iv,.int .i64 jv],z 0,z 1,z 2,z 3],defers:=[] }) (fun _=>undef)
   (fun w'=>A0V w' p n iv jv∧(∃ a b c,A0V w' w.heap.size a b c)∧Chg (fun _=>False) w w') (fun w1 w2=>A0V w1 w.heap.size n iv jv→A0V w2 w.heap.size n iv jv)
   (fun j x w'=>match j with
    | 0=>x=.agg #[.int .i64 n,.int .i64 iv,.int .i64 jv]
    | 1=>x=.pointer (some ⟨p,0,none⟩)
    | 2=>x=.int .i64 n
    | 3=>x=.bool (decide ((n:Int)<8))
    | 4=>A0V w' w.heap.size n iv jv
    | _=>True)
   (by kernel_rfl) (by kernel_rfl) rfl ?_ ?_ ?_ ?_
  ·exact ⟨H3.out.drew,⟨_,_,_,R3.out.drew⟩,K3.out.drew⟩
  ·intro j x w1 w2 hR hS' hG
   split at hG
   case h_5=>exact hR hG
   all_goals exact hG
  ·clear H3 R3 K3
   simp only [List.take_succ_cons,List.take_zero,A2n,and_true]
   repeat' (with_reducible apply And.intro)
   all_goals refine ⟨?_,(by intro y wx _ _ h;exact Bool.noConfusion h),fun y x=>rfl⟩
   all_goals
    intro z wz hS hd hw K hK
    clear hw
    obtain ⟨hS1,⟨a1,a2,a3,hS2⟩,hS3⟩:=hS
    simp [A2E,Region.binds,A3x,List.filter_cons] at hd
    have q0:=hS1.c0
    have q1:=hS1.c1
    have q2:=hS1.c2
    have r0:=hS2.c0
    have r1:=hS2.c1
    have r2:=hS2.c2
    have z0:=hS2.fz 0
    have z1:=hS2.fz 1
    have z2:=hS2.fz 2
    have HS1:=A0b hS1
    have HS2:=A0b hS2
    have HS3:=A0b hS3
    have HK:=A0b hK
    clear hS1 hS2 hS3 hK
   all_goals dsimp only
   all_goals try go_simp
   all_goals try with_reducible exact HK.out _ _ _ rfl (by simp [Act.put,hd]) (fun h=>h) ⟨HS1.out,⟨_,_,_,HS2.out⟩,HS3.out⟩
   have st:=HS2.out.set n iv jv
   have cr:Chg (One w.heap.size) wz (((wz.setCell ⟨w.heap.size,0,none⟩ (.int .i64 n)).setCell ⟨w.heap.size,1,none⟩ (.int .i64 iv)).setCell ⟨w.heap.size,2,none⟩ (.int .i64 jv)):=(((Chg.refl (One w.heap.size) wz).setAt rfl _ _).setAt rfl _ _).setAt rfl _ _
   refine HK.out undef _ _ st (by simp [Act.put,hd]) (fun _=>st) ⟨HS1.out.keep cr (fun h=>by have h':p=w.heap.size:=h;have:=NE.out;omega),⟨_,_,_,st⟩,HS3.out.trans cr (fun k hk hlt=>by have h':k=w.heap.size:=hk;omega)⟩
  ·intro z wz hS hG
   have h3:z 3=.bool (decide ((n:Int)<8)):=hG 3 (by omega)
   have h4:A0V wz w.heap.size n iv jv:=hG 4 (by omega)
   have r0:=h4.c0
   have r1:=h4.c1
   have r2:=h4.c2
   have HC:=A0b hS.2.2
   clear hS hG h4 H3 R3 K3 NE
   have hb8:decide ((n:Int)<8)=decide (n<8):=by
    by_cases h:n<8
    ·rw [decide_eq_true h,decide_eq_true (by omega)]
    ·rw [decide_eq_false h,decide_eq_false (by omega)]
   rw [hb8] at h3
   clear hb8 hbi
   go_wp2
   refine bodyPost_ret (v:=.tuple #[.agg #[.int .i64 n,.int .i64 iv,.int .i64 jv],.bool (decide (n<8))]) (by simp [results,Tryz.results176,go_sem,r0,r1,r2]) rfl ?_
   exact ⟨by rw [HNV.out.1,HNV.out.2.1,HNV.out.2.2],HC.out⟩
end Go.Proofs.YtodcnkbblippnaaGreatDoor
namespace Go.Proofs.YtodcnkbblippnaaGreatDoor
open Go.RowKit
theorem A5D (w:World) (s:Nat) (l:List UInt8) (hs:s<4294967296) (hl:l.length≤9223372036854775807):
 Calls Tryz.prog 165 #[.int .u32 s,.string ⟨l.toArray⟩] w fun e w'=>e=.returned (.int .u32 (A0w s l))∧w=w':=
 B0G w s ⟨l.toArray⟩ hs hl
def A0z (w:World) (fb:Nat) (T:TypeId) (p:Value) (name:ByteArray) (s:Nat):Prop:=w.heap[fb]?=some (.cells #[p,.string name,.int .u32 s] T (0,0))
theorem A0z.c0 {w:World} {fb:Nat} {T:TypeId} {p:Value} {name:ByteArray} {s:Nat} (h:A0z w fb T p name s):w.cell? ⟨fb,0,none⟩=some p:=by unfold A0z at h;simp [World.cell?,h]
theorem A0z.c1 {w:World} {fb:Nat} {T:TypeId} {p:Value} {name:ByteArray} {s:Nat} (h:A0z w fb T p name s):w.cell? ⟨fb,1,none⟩=some (.string name):=by unfold A0z at h;simp [World.cell?,h]
theorem A0z.c2 {w:World} {fb:Nat} {T:TypeId} {p:Value} {name:ByteArray} {s:Nat} (h:A0z w fb T p name s):w.cell? ⟨fb,2,none⟩=some (.int .u32 s):=by unfold A0z at h;simp [World.cell?,h]
theorem A0z.fz {w:World} {fb:Nat} {T:TypeId} {p:Value} {name:ByteArray} {s:Nat} (h:A0z w fb T p name s) (o:Nat):w.frozen? ⟨fb,o,none⟩=false:=by unfold A0z at h;simp [World.frozen?,h]
theorem A0z.lt {w:World} {fb:Nat} {T:TypeId} {p:Value} {name:ByteArray} {s:Nat} (h:A0z w fb T p name s):fb<w.heap.size:=lt_of_block h
theorem A0z.s2 {w:World} {fb:Nat} {T:TypeId} {p:Value} {name:ByteArray} {s:Nat} (h:A0z w fb T p name s) (s':Nat):A0z (w.setCell ⟨fb,2,none⟩ (.int .u32 s')) fb T p name s':=A0h h
theorem A0z.keep {S:Nat→Prop} {w w':World} {fb:Nat} {T:TypeId} {p:Value} {name:ByteArray} {s:Nat} (h:A0z w fb T p name s) (hc:Chg S w w') (hn:¬ S fb):A0z w' fb T p name s:=hc.keep h hn
set_option maxRecDepth 100000 in
set_option maxHeartbeats 1000000 in
theorem B0c (w:World) (fb:Nat) (T:TypeId) (p:Value) (name:ByteArray) (s:Nat) (l:List UInt8) (h:A0z w fb T p name s) (hs:s<4294967296) (hl:l.length≤9223372036854775803):
 Calls Tryz.prog 214 #[.pointer (some ⟨fb,0,none⟩),.string ⟨l.toArray⟩] w fun e w'=>e=.returned (.string ⟨(l ++ A2x (A0w s l)).toArray⟩)∧A0z w' fb T p name (A0w s l)∧Chg (One fb) w w':=by
 have c2:=h.c2
 have fz:=h.fz 2
 have h1:=h.s2 (A0w s l)
 have hs1:=A3J s l hs
 obtain ⟨s1,hs1e⟩:∃ s1,A0w s l=s1:=⟨_,rfl⟩
 have hq:=A0b hs1e
 rw [hs1e] at h1 hs1 ⊢
 clear hs1e
 have c3:=h1.c2
 have k1:Chg (One fb) w (w.setCell ⟨fb,2,none⟩ (.int .u32 s1)):=(Chg.refl _ w).setAt (show One fb fb from rfl) 2 _
 have ap:=A2V l (A2x s1)
 have hsb:=A1i s1
 have H1:=A0b h1
 have K1:=A0b k1
 have H:=A0b h
 clear h1 k1 h
 have hl2:l.length≤9223372036854775807:=by omega
 go_enter Tryz.func214,Tryz.ntmps214
 go_wp2_with (first | (go_at_call 165;refine (A5D _ _ _ hs hl2).mono ?_;rintro e w' ⟨rfl,rfl⟩;rw [hq.out]) | (go_at_call 250;refine (A8d _ _ hs1).mono ?_;rintro e w' ⟨rfl,hc⟩))
 go_ret
 exact ⟨rfl,H1.out.keep hc (by simp),K1.out.trans hc (by simp)⟩
set_option maxRecDepth 100000 in
set_option maxHeartbeats 1000000 in
theorem A4J (w:World) (fb:Nat) (T:TypeId) (p:Value) (name:ByteArray) (s:Nat) (l t:List UInt8) (h:A0z w fb T p name s) (hs:s<4294967296) (ht:t.length=4) (hl:l.length≤9223372036854775803):
 Calls Tryz.prog 167 #[.pointer (some ⟨fb,0,none⟩),.string ⟨(l ++ t).toArray⟩] w fun e w'=>e=.returned (.tuple #[.string ⟨l.toArray⟩,.bool (decide (A2x (A0w s l)=t))])∧A0z w' fb T p name (A0w s l)∧Chg (One fb) w w':=by
 have hfb:=h.lt
 have hteq0:(l ++ A2x (A0w s l) == l ++ t)=decide (A2x (A0w s l)=t):=by
  by_cases heq:A2x (A0w s l)=t
  ·rw [decide_eq_true heq,heq];exact beq_self_eq_true _
  ·rw [decide_eq_false heq];exact beq_eq_false_iff_ne.2 fun h=>heq (List.append_cancel_left h)
 obtain ⟨bb,hbb⟩:∃ bb,decide (A2x (A0w s l)=t)=bb:=⟨_,rfl⟩
 rw [hbb] at hteq0 ⊢
 have hteq:=A0b hteq0
 clear hbb hteq0
 have hlt0:((ByteArray.mk (l ++ t).toArray).size:Int)=(l.length:Int)+4:=by show (((l ++ t).length:Nat):Int)=_;simp [ht]
 have hn4:¬ ((l.length:Int)+4<4):=by omega
 go_enter Tryz.func167,Tryz.ntmps167
 go_wp2
 refine A0O 11 (fun y=>{ tmps:=#[.pointer (some ⟨fb,0,none⟩),.string ⟨(l ++ t).toArray⟩,undef,undef,.string ⟨#[]⟩,.bool false,y 10,undef,.string ⟨(l ++ t).toArray⟩,.int .i64 ((l.length:Int)+4),.bool false,y 0,y 1,y 2,y 3,y 4,y 5,y 6,y 7,y 8,y 9,undef,undef,undef,undef,undef,undef,undef,undef],defers:=[] }) (fun _=>undef)
  (fun w'=>A0z w' fb T p name s∧Chg (fun _=>False) w w') (Chg (fun _=>False))
  (fun j x w'=>match j with
   | 0=>x=.string ⟨(l ++ t).toArray⟩
   | 1=>x=.string ⟨(l ++ t).toArray⟩
   | 2=>x=.int .i64 ((l.length:Int)+4)
   | 3=>x=.int .i64 l.length
   | 4=>x=.string ⟨l.toArray⟩
   | 5=>x=.string ⟨(l ++ t).toArray⟩
   | 6=>x=.string ⟨(l ++ t).toArray⟩
   | 7=>x=.int .i64 ((l.length:Int)+4)
   | 8=>x=.int .i64 l.length
   | 9=>x=.string ⟨t.toArray⟩
   | 10=>x=.string ⟨l.toArray⟩
   | _=>True)
  (by kernel_rfl) (by kernel_rfl) rfl ?_ ?_ ?_ ?_
 ·exact ⟨h,(Chg.refl _ _).drew⟩
 ·intro j x w1 w2 hR hS' hG
  split at hG <;> exact hG
 ·simp only [List.take_succ_cons,List.take_zero,A2n,and_true]
  repeat' (with_reducible apply And.intro)
  all_goals refine ⟨?_,(by intro y wx _ _ h;exact Bool.noConfusion h),fun y x=>rfl⟩
  all_goals
   intro y wx hS hd hw K hK
   clear hw
   obtain ⟨hS1,hS2⟩:=hS
   simp [A2E,Region.binds,A3x,List.filter_cons] at hd
   have e1:(ByteArray.mk (l ++ t).toArray).extract 0 l.length=⟨l.toArray⟩:=by
    rw [A1k];simp
   have e9:(ByteArray.mk (l ++ t).toArray).extract l.length (l.length+4)=⟨t.toArray⟩:=by
    rw [A1k,List.drop_left,show l.length+4 - l.length=t.length by omega,List.take_length]
   have g1:(l.length:Int)≤(l.length:Int)+4:=by omega
   have ew:IntKind.i64.wrap (l.length:Int)=l.length:=by simp [IntKind.wrap,IntKind.bits,IntKind.signed];omega
   have HS1:=A0b hS1
   have HS2:=A0b hS2
   have HK:=A0b hK
   clear hS1 hS2 hK h
  all_goals dsimp only
  all_goals try go_simp
  all_goals try with_reducible exact HK.out _ _ _ rfl (by simp [Act.put,hd]) (Chg.refl _ _) ⟨HS1.out,HS2.out⟩
 ·intro y wx hS hG
  obtain ⟨hS1,hS2⟩:=hS
  have h10:y 10=.string ⟨l.toArray⟩:=hG 10 (by omega)
  have h9:y 9=.string ⟨t.toArray⟩:=hG 9 (by omega)
  have hk:=hS1
  have HS2:=A0b hS2
  clear hG hS1 hS2 h
  have ap:=A2V l t
  have hq:=hteq.out
  have SE:=A0b (B0c wx fb T p name s l hk hs hl)
  have hlt:(ByteArray.mk (l ++ t).toArray).size=l.length+4:=by show (l ++ t).length=_;simp [ht]
  clear hteq hk
  go_wp2_with (go_at_call 214;refine SE.out.mono ?_;rintro e w' ⟨rfl,hb,hc⟩;have HB:=A0b hb;have HC:=A0b hc;clear hb hc)
  go_ret2
  exact ⟨rfl,HB.out,HS2.out.mono (fun _ _ h=>h.elim) |>.trans HC.out (fun _ h _=>h)⟩
set_option maxRecDepth 100000 in
set_option maxHeartbeats 1000000 in
theorem A7O (w:World) (fb:Nat) (l:List UInt8) (hl:l.length<4):
 Calls Tryz.prog 167 #[.pointer (some ⟨fb,0,none⟩),.string ⟨l.toArray⟩] w fun e w'=>e=.returned (.tuple #[.string ⟨#[]⟩,.bool false])∧w=w':=by
 have hlt:(ByteArray.mk l.toArray).size=l.length:=by show l.toArray.size=_;simp
 have hlt0:((ByteArray.mk l.toArray).size:Int)<4:=by rw [hlt];omega
 obtain ⟨tx,htx⟩:∃ tx,ByteArray.mk l.toArray=tx:=⟨_,rfl⟩
 rw [htx] at hlt0 ⊢
 clear hlt htx
 go_enter Tryz.func167,Tryz.ntmps167
 go_wp2
 go_ret2
 exact ⟨rfl,rfl⟩
end Go.Proofs.YtodcnkbblippnaaGreatDoor
