/-
  The statement WritesUptoCardSaid is proved: the law Writes answers true for every setting and every script of at most 1048576 bytes; there is no other condition.
  Part 21 of 33.
-/
import Derived.Test.YtodcnkbblippnaaGreatDoorPart20
import Derived.Test.YtodcnkbblippnaaGreatDoorPart02
namespace Go.Proofs.YtodcnkbblippnaaGreatDoor
open Go.RowKit
attribute [local go_sem ↓] A0p
def B4l (len:Int) (p q:Pu):Int:=orI (A3u (A1K p.2.1 len) (A1K q.2.1 len)) (A1V p q)
theorem A8N {x y:Int}:A3u x y<0↔x<y:=by
 unfold A3u;split
 ·simp_all
 ·split <;> simp_all
theorem A4B {x y:Int}:A3u x y=0↔x=y:=by
 unfold A3u;split
 ·constructor <;> intro h <;> omega
 ·split
  ·constructor <;> intro h <;> omega
  ·constructor <;> intro h <;> omega
theorem B3q {p q:Pu}:A1V p q<0↔(p.1<q.1∨p.1=q.1∧p.2.1<q.2.1):=by
 unfold A1V
 by_cases h:A3u p.1 q.1=0
 ·rw [if_neg (by simpa using h),A8N]
  have:=A4B.1 h
  constructor
  ·exact fun hx=>.inr ⟨this,hx⟩
  ·rintro (hx | ⟨_,hx⟩)
   ·omega
   ·exact hx
 ·rw [if_pos h,A8N]
  have:¬ p.1=q.1:=fun e=>h (A4B.2 e)
  constructor
  ·exact fun hx=>.inl hx
  ·rintro (hx | ⟨hx,_⟩)
   ·exact hx
   ·exact absurd hx this
theorem B4L {len:Int} {p q:Pu}:B4l len p q<0↔A1U len p q=true:=by
 unfold B4l orI A1U
 rw [decide_eq_true_iff]
 by_cases h:A3u (A1K p.2.1 len) (A1K q.2.1 len)=0
 ·rw [if_neg (by simpa using h),B3q]
  have:=A4B.1 h
  constructor
  ·exact fun hx=>.inr ⟨this,hx⟩
  ·rintro (hx | ⟨_,hx⟩)
   ·omega
   ·exact hx
 ·rw [if_pos h,A8N]
  have:¬ A1K p.2.1 len=A1K q.2.1 len:=fun e=>h (A4B.2 e)
  constructor
  ·exact fun hx=>.inl hx
  ·rintro (hx | ⟨hx,_⟩)
   ·exact hx
   ·exact absurd hx this
theorem A4L (len:Int):A3z (A1U len):=by
 refine ⟨fun x=>?_,fun x y z=>?_,fun x y z=>?_⟩
 ·unfold A1U;simp
 ·unfold A1U;simp only [decide_eq_true_eq];omega
 ·unfold A1U;simp only [decide_eq_true_eq];omega
theorem B0M (len:Int) (p q:Pu):B4l len p q = -1∨B4l len p q=0∨B4l len p q=1:=by
 unfold B4l orI;split
 ·exact A4K _ _
 ·exact A5P _ _
set_option maxRecDepth 100000 in
set_option maxHeartbeats 4000000 in
theorem B3i (w:World) (wb:Nat) (len:Int) (p q:Pu) (hp:A0P p.2.1) (hq:A0P q.2.1) (hl:1≤len∧len≤4611686018427387904) (hw:w.cell? ⟨wb,0,none⟩=some (.int .i64 len)):
 Calls Tryz.prog 155 #[A2t p,A2t q,.pointer (some ⟨wb,0,none⟩)] w fun e w'=>e=.returned (.int .i64 (B4l len p q))∧Chg (fun _=>False) w w':=by
 obtain ⟨p1,p2,p3⟩:=p
 obtain ⟨q1,q2,q3⟩:=q
 unfold B4l A2t
 dsimp only at hp hq ⊢
 have CI:=A0b (A4h)
 have OR:=A0b (B2y)
 have WO:=A0b (fun wx t (ht:A0P t)=>A3A wx t len ht hl)
 have PC:=A0b (fun wx=>A2J wx (p1,p2,p3) (q1,q2,q3))
 unfold A2t at PC
 dsimp only at PC
 obtain ⟨x,hx⟩:∃ x,A1K p2 len=x:=⟨_,rfl⟩
 obtain ⟨y,hy⟩:∃ y,A1K q2 len=y:=⟨_,rfl⟩
 have WO1:=A0b (fun wx=>WO.out wx p2 hp)
 have WO2:=A0b (fun wx=>WO.out wx q2 hq)
 rw [hx] at WO1
 rw [hy] at WO2
 rw [hx,hy]
 obtain ⟨r,hr⟩:∃ r,A3u x y=r:=⟨_,rfl⟩
 obtain ⟨s,hs⟩:∃ s,A1V (p1,p2,p3) (q1,q2,q3)=s:=⟨_,rfl⟩
 have CI1:=A0b (fun wx=>CI.out wx x y)
 rw [hr] at CI1
 rw [hs] at PC
 rw [hr,hs]
 clear hx hy hr hs WO CI
 have b1:A0V ((w.alloc (.cells #[.int .i64 p1,.int .i64 p2,.int .i64 p3] 113)).alloc (.cells #[.int .i64 q1,.int .i64 q2,.int .i64 q3] 113)) w.heap.size p1 p2 p3:=(Below.heap_alloc _ _ _ (by simp)).trans (heap_alloc_new w _)
 have b2:A0V ((w.alloc (.cells #[.int .i64 p1,.int .i64 p2,.int .i64 p3] 113)).alloc (.cells #[.int .i64 q1,.int .i64 q2,.int .i64 q3] 113)) (w.heap.size+1) q1 q2 q3:=by
  have:=heap_alloc_new (w.alloc (.cells #[.int .i64 p1,.int .i64 p2,.int .i64 p3] 113)) (.cells #[.int .i64 q1,.int .i64 q2,.int .i64 q3] 113)
  simpa [A0V] using this
 have k2:Chg (fun _=>False) w ((w.alloc (.cells #[.int .i64 p1,.int .i64 p2,.int .i64 p3] 113)).alloc (.cells #[.int .i64 q1,.int .i64 q2,.int .i64 q3] 113)):=((Chg.refl _ w).alloc _).alloc _
 have sz:((w.alloc (.cells #[.int .i64 p1,.int .i64 p2,.int .i64 p3] 113)).alloc (.cells #[.int .i64 q1,.int .i64 q2,.int .i64 q3] 113)).heap.size=w.heap.size+2:=by simp
 have B1:=A0b b1
 have B2:=A0b b2
 have K2:=A0b k2
 have SZ:=A0b sz
 have HW:=A0b (k2.cellKeep hw)
 clear b1 b2 k2 sz hw hp hq hl
 go_enter Tryz.func155,Tryz.ntmps155
 go_wp2
 generalize ((w.alloc (.cells #[.int .i64 p1,.int .i64 p2,.int .i64 p3] 113)).alloc (.cells #[.int .i64 q1,.int .i64 q2,.int .i64 q3] 113))=w2 at B1 B2 K2 SZ HW ⊢
 have SS:Hid (∀ wx,Chg (fun _=>False) w2 wx→wx.cell? ⟨w.heap.size,0,none⟩=some (.int .i64 p1)∧wx.cell? ⟨w.heap.size,1,none⟩=some (.int .i64 p2)∧wx.cell? ⟨w.heap.size,2,none⟩=some (.int .i64 p3)∧wx.cell? ⟨w.heap.size+1,0,none⟩=some (.int .i64 q1)∧wx.cell? ⟨w.heap.size+1,1,none⟩=some (.int .i64 q2)∧wx.cell? ⟨w.heap.size+1,2,none⟩=some (.int .i64 q3)∧wx.cell? ⟨wb,0,none⟩=some (.int .i64 len)):=fun wx hx=>by
  have e1:=B1.out.keep hx (fun h=>h)
  have e2:=B2.out.keep hx (fun h=>h)
  exact ⟨e1.c0,e1.c1,e1.c2,e2.c0,e2.c1,e2.c2,hx.cellKeep HW.out⟩
 have hS0:=SS.out w2.drew (Chg.refl _ w2).drew
 refine A0e (fun w'=>w'.cell? ⟨w.heap.size,0,none⟩=some (.int .i64 p1)∧w'.cell? ⟨w.heap.size,1,none⟩=some (.int .i64 p2)∧w'.cell? ⟨w.heap.size,2,none⟩=some (.int .i64 p3)∧w'.cell? ⟨w.heap.size+1,0,none⟩=some (.int .i64 q1)∧w'.cell? ⟨w.heap.size+1,1,none⟩=some (.int .i64 q2)∧w'.cell? ⟨w.heap.size+1,2,none⟩=some (.int .i64 q3)∧w'.cell? ⟨wb,0,none⟩=some (.int .i64 len)) 16
  [(0,true),(1,true),(2,true),(3,true),(5,true),(6,true),(7,true),(8,true),(11,true),(12,true),(4,false),(9,false),(10,false),(13,false),(14,false),(15,false)] (by kernel_rfl) (by kernel_rfl) (fun _ _ _ _ _ h=>h) hS0 ?_
 iterate 10 (refine A0d (v:=?_) rfl (by rfl) ?_ ?_;rotate_left;(· (intro w' hS;(try dsimp only at hS);go_simp;try with_reducible rfl));(try simp only [Act.put,List.setIfInBounds_toArray,List.set_cons_zero,List.set_cons_succ,List.getElem_toArray,List.getElem_cons_zero,List.getElem_cons_succ]))
 refine A0i rfl (by rfl) (fun K hK=>?_)
 go_simp
 refine (WO1.out _).mono ?_
 rintro e w3 ⟨rfl,rfl⟩
 refine hK _ _ hS0 (fun hS=>?_)
 clear hK K hS
 (try simp only [Act.put,List.setIfInBounds_toArray,List.set_cons_zero,List.set_cons_succ,List.getElem_toArray,List.getElem_cons_zero,List.getElem_cons_succ])
 refine A0i rfl (by rfl) (fun K hK=>?_)
 go_simp
 refine (WO2.out _).mono ?_
 rintro e w3 ⟨rfl,rfl⟩
 refine hK _ _ hS0 (fun hS=>?_)
 clear hK K hS
 (try simp only [Act.put,List.setIfInBounds_toArray,List.set_cons_zero,List.set_cons_succ,List.getElem_toArray,List.getElem_cons_zero,List.getElem_cons_succ])
 refine A0i rfl (by rfl) (fun K hK=>?_)
 go_simp
 refine (CI1.out _).mono ?_
 rintro e w3 ⟨rfl,rfl⟩
 refine hK _ _ hS0 (fun hS=>?_)
 clear hK K hS
 (try simp only [Act.put,List.setIfInBounds_toArray,List.set_cons_zero,List.set_cons_succ,List.getElem_toArray,List.getElem_cons_zero,List.getElem_cons_succ])
 refine A0i rfl (by rfl) (fun K hK=>?_)
 go_simp
 refine (PC.out _).mono ?_
 rintro e w4 ⟨rfl,hc4⟩
 have k4:Chg (fun _=>False) w2 w4:=((Chg.refl (fun _=>False) w2).drew).trans hc4 fun _ h _=>h
 refine hK _ _ (SS.out w4 k4) (fun hS=>?_)
 have K4:=A0b k4
 clear hK K hS hc4 k4 hS0
 (try simp only [Act.put,List.setIfInBounds_toArray,List.set_cons_zero,List.set_cons_succ,List.getElem_toArray,List.getElem_cons_zero,List.getElem_cons_succ])
 refine A0i rfl (by rfl) (fun K hK=>?_)
 go_simp
 have hb:(w4.alloc (.cells #[.int .i64 r,.int .i64 s] 3)).heap[w4.heap.size]?=some (.cells #[.int .i64 r,.int .i64 s] 3):=heap_alloc_new w4 _
 have k5:Chg (fun _=>False) w2 (w4.alloc (.cells #[.int .i64 r,.int .i64 s] 3)):=K4.out.alloc _
 refine hK _ _ (SS.out _ k5) (fun hS=>?_)
 have K5:=A0b k5
 have OR1:=A0b (OR.out (w4.alloc (.cells #[.int .i64 r,.int .i64 s] 3)) w4.heap.size r s (by simp only [World.cell?,hb];rfl) (by simp only [World.cell?,hb];rfl))
 clear hK K hS hb k5
 (try simp only [Act.put,List.setIfInBounds_toArray,List.set_cons_zero,List.set_cons_succ,List.getElem_toArray,List.getElem_cons_zero,List.getElem_cons_succ])
 refine A0i rfl (by rfl) (fun K hK=>?_)
 go_simp
 refine OR1.out.mono ?_
 rintro e w5 ⟨rfl,rfl⟩
 refine hK _ _ (SS.out _ K5.out) (fun hS=>?_)
 clear hK K hS
 (try simp only [Act.put,List.setIfInBounds_toArray,List.set_cons_zero,List.set_cons_succ,List.getElem_toArray,List.getElem_cons_zero,List.getElem_cons_succ])
 refine A0k ?_
 simp only [List.drop_succ_cons,List.drop_zero]
 go_wp2
 go_ret
 exact ⟨rfl,K2.out.trans K5.out fun _ h _=>h⟩
end Go.Proofs.YtodcnkbblippnaaGreatDoor
namespace Go.Proofs.YtodcnkbblippnaaGreatDoor
open Go
section
variable {P:Program} {ops:Array Oper} {md:Region.Mode} {Q:Exit→Act→World→Prop}
def SB (bar:Nat) (S:World→Prop) (listed:Array Bool) (w:World):Prop:=listed.getD bar false=true∨S w
theorem SB.set {bar i:Nat} {S:World→Prop} {listed:Array Bool} {w:World} (hi:i≠bar):SB bar S (listed.setIfInBounds i true) w↔SB bar S listed w:=by
 unfold SB
 have:(listed.setIfInBounds i true).getD bar false=listed.getD bar false:=by simp [Array.getD_eq_getD_getElem?,Array.getElem?_setIfInBounds_ne hi]
 rw [this]
def A8u (P:Program) (md:Region.Mode) (ops:Array Oper) (Q:Exit→Act→World→Prop) (S:Array Bool→World→Prop) (n:Nat) (L:Array Bool→Act→World→Prop):Nat→Array Bool→Act→World→Prop
 | 0,listed,a,w=>L listed a w
 | f+1,listed,a,w=>Region.ready md ops listed≠[]∧∀ i∈Region.ready md ops listed,i<n∧wpOp P ops Q i (fun a' w'=>S (listed.setIfInBounds i true) w'∧A8u P md ops Q S n L f (listed.setIfInBounds i true) a' w') a w
theorem A3X {S:Array Bool→World→Prop} {n g:Nat} {L:Array Bool→Act→World→Prop} (hL:∀ listed a w,L listed a w→wpAny P md ops Q g listed a w):
 ∀ (f:Nat) (listed:Array Bool) (a:Act) (w:World),A8u P md ops Q S n L f listed a w→wpAny P md ops Q (f+g) listed a w
 | 0,listed,a,w,h=>by rw [Nat.zero_add];exact hL _ _ _ h
 | f+1,listed,a,w,h=>by
  rw [show f+1+g=(f+g)+1 from by omega]
  exact ⟨fun h0=>absurd h0 h.1,fun i hi=>wpOp_mono (fun a' w' h'=>A3X hL f _ a' w' h'.2) (h.2 i hi).2⟩
theorem A5i {S0:World→Prop} {SN:World→Prop} {bar n i:Nat} {oi:Oper} {v:Value} {L:Array Bool→Act→World→Prop} (hib:i≠bar) (hi:ops[i]?=some oi) (hsel:∀ (j:Nat) (o:Oper) cs b,ops[j]?=some o→o.op≠.select cs b)
 (hQ:∀ c a w,Q (.panic c) (a.put oi.dst v) w→Q (.panic c) a w)
 (hs:Region.sinkB md ops n=true) (hc:Region.chainB md ops n=true) (hn:n<ops.size) (hin:i<n)
 (hSN:∀ listed w,HeadInv md ops n listed→i∈Region.ready md ops listed→SB bar S0 listed w→SN w)
 (hdone:∀ listed a w,L listed a w→∀ j∈Region.ready md ops listed,n≤j):
 ∀ (f:Nat) (listed:Array Bool) (a:Act) (w:World),HeadInv md ops n listed→
  (∀ j oj,ops[j]?=some oj→j≠i→listed.getD j true=false→(∀ e∈oj.after,Region.binds md e=true→e.on≠i)→oi.apart ops oj=true)→
  i∈Region.ready md ops listed→YieldsIf P ops SN oi v a→SB bar S0 listed w→
  A8u P md ops Q (SB bar S0) n L f (listed.setIfInBounds i true) (a.put oi.dst v) w→A8u P md ops Q (SB bar S0) n L (f+1) listed a w:=by
 intro f
 induction f with
 | zero=>
  intro listed a w inv _ hr hy hS H
  have hun:=(mem_ready.1 hr).1
  refine ⟨fun h=>(by rw [h] at hr;cases hr),fun j hj=>?_⟩
  have hjn:j<n:=by
   rcases Nat.lt_or_ge j n with h | h
   ·exact h
   ·exact absurd hj (tail_waits hs hc hn inv _ i rfl hin hun j h)
  refine ⟨hjn,?_⟩
  by_cases hji:j=i
  ·subst hji;exact hy.wpOp hi (hSN _ _ inv hr hS) ⟨(SB.set hib).2 hS,H⟩
  ·have:=hdone _ _ _ H j (ready_mono hj hji)
   omega
 | succ f ih=>
  intro listed a w inv hfree hr hy hS H
  have hun:=(mem_ready.1 hr).1
  refine ⟨fun h=>(by rw [h] at hr;cases hr),fun j hj=>?_⟩
  have hjn:j<n:=by
   rcases Nat.lt_or_ge j n with h | h
   ·exact h
   ·exact absurd hj (tail_waits hs hc hn inv _ i rfl hin hun j h)
  refine ⟨hjn,?_⟩
  by_cases hji:j=i
  ·subst hji;exact hy.wpOp hi (hSN _ _ inv hr hS) ⟨(SB.set hib).2 hS,H⟩
  ·have h1:=(H.2 j (ready_mono hj hji)).2
   obtain ⟨hjun,oj,hoj,hall⟩:=mem_ready.1 hj
   have hnot:∀ e∈oj.after,Region.binds md e=true→e.on≠i:=fun e he hb heq=>by
    have h1:=hall e he hb
    rw [heq,getD_both hun] at h1
    cases h1
   have h2:=wpOp_putIf hoj (hfree j oj hoj hji hjun hnot) (fun cs b=>hsel i oi cs b hi) (fun cs b=>hsel j oj cs b hoj) hQ hy h1
   have hfree':∀ k ok,ops[k]?=some ok→k≠i→(listed.setIfInBounds j true).getD k true=false→
    (∀ e∈ok.after,Region.binds md e=true→e.on≠i)→oi.apart ops ok=true:=fun k ok hk hki hun hno=>by
    refine hfree k ok hk hki ?_ hno
    by_cases hjk:j=k
    ·subst hjk;exact hjun
    ·rw [getD_set_ne true hjk] at hun;exact hun
   refine wpOp_mono (fun a' w' h3=>?_) h2
   have h4:=h3.2.1
   rw [Array.setIfInBounds_comm _ _ (Ne.symm hji)] at h4
   have h5:=(SB.set hib).1 h4
   refine ⟨h5,ih (listed.setIfInBounds j true) a' w' (inv.set hj hjn) hfree' (ready_mono hr (Ne.symm hji)) h3.1 h5 ?_⟩
   rw [Array.setIfInBounds_comm _ _ hji]
   exact h3.2.2
def A3s (P:Program) (ops:Array Oper) (Q:Exit→Act→World→Prop) (bar:Nat) (S:World→Prop) (T:Act→World→Prop):List (Nat × Nat)→Act→World→Prop
 | [],a,w=>T a w
 | (i,0):: r,a,w=>wpOp P ops Q i (fun a' w'=>(i=bar∨S w')∧A3s P ops Q bar S T r a' w') a w
 | (i,1):: r,a,w=>∃ o v,ops[i]?=some o∧YieldsIf P ops S o v a∧A3s P ops Q bar S T r (a.put o.dst v) w
 | (i,_+2):: r,a,w=>∃ o v,ops[i]?=some o∧YieldsIf P ops (fun _=>True) o v a∧A3s P ops Q bar S T r (a.put o.dst v) w
def B2p (md:Region.Mode) (ops:Array Oper) (bar i:Nat):Bool:=match ops[bar]? with
 | some o=>o.after.any fun e=>Region.binds md e && decide (e.on=i)
 | none=>false
def A5d (md:Region.Mode) (ops:Array Oper) (bar n:Nat):List (Nat × Nat)→Array Bool→Bool
 | [],listed=>Region.seqB md ops (ops.size - n) n listed
 | (i,0):: r,listed=>decide (i<n) && decide (Region.ready md ops listed = [i]) && A5d md ops bar n r (listed.setIfInBounds i true)
 | (i,1):: r,listed=>decide (i<n) && ((Region.ready md ops listed).contains i && Region.free md ops listed i) && (decide (i≠bar) && B2p md ops bar i) && A5d md ops bar n r (listed.setIfInBounds i true)
 | (i,_+2):: r,listed=>decide (i<n) && ((Region.ready md ops listed).contains i && Region.free md ops listed i) && decide (i≠bar) && A5d md ops bar n r (listed.setIfInBounds i true)
def B5C (ops:Array Oper) (bar n:Nat) (sch:List (Nat × Nat)):Bool:=
 Region.noSelect ops && decide (n<ops.size) && decide (sch.length=n) && Region.sinkB .any ops n && Region.chainB .any ops n && A5d .any ops bar n sch (Array.replicate ops.size false)
theorem B1f {bar i n:Nat} {S:World→Prop} {listed:Array Bool} {w:World} (h:B2p md ops bar i=true) (inv:HeadInv md ops n listed) (hr:i∈Region.ready md ops listed) (hS:SB bar S listed w):S w:=by
 rcases hS with hb | hS
 ·unfold B2p at h
  cases ho:ops[bar]? with
  | none=>rw [ho] at h;cases h
  | some o=>
   rw [ho] at h
   obtain ⟨e,he,h2⟩:=Array.any_eq_true'.1 h
   simp only [Bool.and_eq_true,decide_eq_true_eq] at h2
   have:=inv.closed bar o ho hb e he h2.1
   rw [h2.2,getD_both (mem_ready.1 hr).1] at this
   cases this
 ·exact hS
theorem A2p {bar n:Nat} {S:World→Prop} {T:Act→World→Prop} (hsel:Region.noSelect ops=true) (hs:Region.sinkB md ops n=true) (hc:Region.chainB md ops n=true) (hn:n<ops.size)
 (hQ:∀ c a t v w,Q (.panic c) (Act.put a (some t) v) w→Q (.panic c) a w):
 ∀ (sch:List (Nat × Nat)) (listed:Array Bool) (a:Act) (w:World),HeadInv md ops n listed→A5d md ops bar n sch listed=true→SB bar S listed w→A3s P ops Q bar S T sch a w→
 A8u P md ops Q (SB bar S) n (fun listed' a' w'=>Region.seqB md ops (ops.size - n) n listed'=true∧T a' w') sch.length listed a w
 | [],listed,a,w,_,hB,_,h=>⟨hB,h⟩
 | (i,0):: r,listed,a,w,inv,hB,hS,h=>by
  simp only [A5d,Bool.and_eq_true,decide_eq_true_eq] at hB
  obtain ⟨⟨hin,hr⟩,hB'⟩:=hB
  refine ⟨by rw [hr];simp,fun j hj=>?_⟩
  have hr':i∈Region.ready md ops listed:=by rw [hr];simp
  rw [hr] at hj
  have:j=i:=by simpa using hj
  subst this
  refine ⟨hin,wpOp_mono (fun a' w' h'=>?_) h⟩
  have hS':SB bar S (listed.setIfInBounds j true) w':=by
   rcases h'.1 with rfl | h1
   ·refine .inl ?_
    have:j<listed.size:=by rw [inv.size];omega
    simp [this]
   ·exact .inr h1
  exact ⟨hS',A2p hsel hs hc hn hQ r _ a' w' (inv.set hr' hin) hB' hS' h'.2⟩
 | (i,1):: r,listed,a,w,inv,hB,hS,h=>by
  simp only [A5d,Bool.and_eq_true,decide_eq_true_eq] at hB
  obtain ⟨⟨⟨hin,hr,hf⟩,hib,hwt⟩,hB'⟩:=hB
  obtain ⟨o,v,h0,hy,hK⟩:=h
  have hr':i∈Region.ready md ops listed:=by simpa using hr
  exact A5i hib h0 (Region.noSelect_spec hsel) (fun c a w=>by cases o.dst with | none=>exact id | some t=>exact hQ c a t v w) hs hc hn hin (fun l w inv hr hS=>B1f hwt inv hr hS) (fun listed' a' w' hL=>seqB_ready hL.1) r.length listed a w inv (Region.free_spec h0 hf) hr' hy hS
   (A2p hsel hs hc hn hQ r _ _ w (inv.set hr' hin) hB' ((SB.set hib).2 hS) hK)
 | (i,k+2):: r,listed,a,w,inv,hB,hS,h=>by
  simp only [A5d,Bool.and_eq_true,decide_eq_true_eq] at hB
  obtain ⟨⟨⟨hin,hr,hf⟩,hib⟩,hB'⟩:=hB
  obtain ⟨o,v,h0,hy,hK⟩:=h
  have hr':i∈Region.ready md ops listed:=by simpa using hr
  exact A5i hib h0 (Region.noSelect_spec hsel) (fun c a w=>by cases o.dst with | none=>exact id | some t=>exact hQ c a t v w) hs hc hn hin (fun _ _ _ _ _=>trivial) (fun listed' a' w' hL=>seqB_ready hL.1) r.length listed a w inv (Region.free_spec h0 hf) hr' hy hS
   (A2p hsel hs hc hn hQ r _ _ w (inv.set hr' hin) hB' ((SB.set hib).2 hS) hK)
end
section
variable {P:Program} {ops:Array Oper} {Q:Exit→Act→World→Prop} {bar:Nat} {S:World→Prop} {T:Act→World→Prop}
theorem A6x {id:Nat} {a:Act} {w:World} {l:List Oper} (bar:Nat) (S:World→Prop) (n:Nat) (sch:List (Nat × Nat)) (hm:P.follows .mixedOrders=true) (hB:B5C l.toArray bar n sch=true)
 (hQ:∀ c a t v w,Q (.panic c) (Act.put a (some t) v) w→Q (.panic c) a w) (hS:S w.drew)
 (h:A3s P l.toArray Q bar S (fun a w=>wpList P l.toArray Q (l.drop n) a w) sch a w.drew):(Code.region id l.toArray true).wp P Q a w:=by
 simp only [B5C,Bool.and_eq_true,decide_eq_true_eq] at hB
 obtain ⟨⟨⟨⟨⟨hsel,hn⟩,hsl⟩,hs⟩,hc⟩,hgo⟩:=hB
 have hn':n<l.length:=by simpa using hn
 have hdl:(l.drop n).length=l.toArray.size - n:=by simp
 have inv0:HeadInv .any l.toArray n (Array.replicate l.toArray.size false):=
  ⟨by simp,fun j oj _ hl=>(by rw [getD_replicate_false] at hl;cases hl),fun t _ ht=>getD_in (by simpa using ht) (getD_replicate_false _ _)⟩
 have H:=A2p (md:=.any) (T:=fun a w=>wpList P l.toArray Q (l.drop n) a w) hsel hs hc hn hQ sch _ a w.drew inv0 hgo (.inr hS) h
 refine wp_region_any hm ?_
 have:=A3X (Q:=Q) (g:=l.toArray.size - n) (fun listed a' w' hL=>by
  have:=wpAny_of_seq (md:=.any) (Q':=Q) (l.drop n) n listed a' w' (fun j=>by simp [List.getElem?_drop]) (by rw [hdl];exact hL.1) hL.2
  rwa [hdl] at this) _ _ _ _ H
 rw [hsl,show n+(l.toArray.size - n)=l.toArray.size from by omega] at this
 exact this
theorem A5y {i:Nat} {o:Oper} {v:Value} {r:List (Nat × Nat)} {a:Act} {w:World} (ho:ops[i]?=some o) (hw:Region.wanted o (yielded ops a.tmps)=true)
 (hy:∀ w,S w→(execOp a.eval o).run P w=.ok (.value v) w) (h:A3s P ops Q bar S T r (a.put o.dst v) w):A3s P ops Q bar S T ((i,1):: r) a w:=
 ⟨o,v,ho,.inl ⟨hw,hy⟩,h⟩
theorem A5Q {i:Nat} {o:Oper} {v:Value} {r:List (Nat × Nat)} {a:Act} {w:World} (ho:ops[i]?=some o) (hw:Region.wanted o (yielded ops a.tmps)=true)
 (hy:∀ w,(execOp a.eval o).run P w=.ok (.value v) w) (h:A3s P ops Q bar S T r (a.put o.dst v) w):A3s P ops Q bar S T ((i,2):: r) a w:=
 ⟨o,v,ho,.inl ⟨hw,fun w _=>hy w⟩,h⟩
theorem B0B {a:Act} {w:World} (h:T a w):A3s P ops Q bar S T [] a w:=h
theorem B0h {o:Oper} {r:List (Nat × Nat)} {a:Act} {w:World} (ho:ops[bar]?=some o) (hw:Region.wanted o (yielded ops a.tmps)=true)
 (h:∀ K:Act→World→Prop,(∀ a w,A3s P ops Q bar S T r a w→K a w)→o.wp P a w K Q):A3s P ops Q bar S T ((bar,0):: r) a w:=by
 show wpOp P ops Q bar _ a w
 unfold wpOp
 simp only [ho,hw,if_true]
 exact .inl (h _ fun a w hW=>⟨by simp,hW⟩)
end
end Go.Proofs.YtodcnkbblippnaaGreatDoor
namespace Go.Proofs.YtodcnkbblippnaaGreatDoor
open Go.RowKit
attribute [local go_sem ↓] A0p
theorem A6T:∀ (l:List Pu) (k:Nat) (_:k<l.length) (p:Pu),A0x (l.set k p)=(((A0x l).set (k*3) (.int .i64 p.1)).set (k*3+1) (.int .i64 p.2.1)).set (k*3+2) (.int .i64 p.2.2)
 | [],k,h,p=>by simp at h
 | (a,b,c):: r,0,_,p=>by obtain ⟨p1,p2,p3⟩:=p;simp [A0x]
 | (a,b,c):: r,k+1,h,p=>by
  have ih:=A6T r k (by simpa using h) p
  have e1:(k+1)*3=k*3+1+1+1:=by omega
  simp only [List.set_cons_succ,A0x,ih,e1]
theorem A1r.set {w:World} {g n cap:Nat} {l:List Pu} (h:w.ownsRow 0 113 3 (.slice (some ⟨g,0,none⟩) n cap) n (A0x l)) (k:Nat) (hk:k<l.length) (p:Pu):
 (((w.setCell ⟨g,k*3,none⟩ (.int .i64 p.1)).setCell ⟨g,k*3+1,none⟩ (.int .i64 p.2.1)).setCell ⟨g,k*3+2,none⟩ (.int .i64 p.2.2)).ownsRow 0 113 3 (.slice (some ⟨g,0,none⟩) n cap) n (A0x (l.set k p)):=by
 rw [A6T l k hk p]
 exact (((h.stored (k*3) _).1.stored (k*3+1) _).1.stored (k*3+2) _).1
theorem B3K {α:Type} (A C:List α) (x y:α):((A ++ y :: x :: C).set (A.length+1) y).set A.length x=A ++ x :: y :: C:=by
 have e1:(A ++ y :: x :: C).set (A.length+1) y=A ++ y :: y :: C:=by
  rw [List.set_append_right _ _ (by omega)]
  simp
 rw [e1,List.set_append_right _ _ (by omega)]
 simp
theorem A1r.two {w:World} {g n cap:Nat} {A C:List Pu} {x y:Pu} (h:w.ownsRow 0 113 3 (.slice (some ⟨g,0,none⟩) n cap) n (A0x (A ++ y :: x :: C))):
 (w.cell? ⟨g,A.length*3,none⟩=some (.int .i64 y.1)∧w.cell? ⟨g,A.length*3+1,none⟩=some (.int .i64 y.2.1)∧w.cell? ⟨g,A.length*3+2,none⟩=some (.int .i64 y.2.2))∧
 (w.cell? ⟨g,(A.length+1)*3,none⟩=some (.int .i64 x.1)∧w.cell? ⟨g,(A.length+1)*3+1,none⟩=some (.int .i64 x.2.1)∧w.cell? ⟨g,(A.length+1)*3+2,none⟩=some (.int .i64 x.2.2))∧∀ o,w.frozen? ⟨g,o,none⟩=false:=by
 obtain ⟨q1,q2,q3⟩:=A2y (A ++ y :: x :: C) A.length (by simp)
 obtain ⟨r1,r2,r3⟩:=A2y (A ++ y :: x :: C) (A.length+1) (by simp)
 have e1:(A ++ y :: x :: C)[A.length]'(by simp)=y:=by simp
 have e2:(A ++ y :: x :: C)[A.length+1]'(by simp)=x:=by
  rw [List.getElem_append_right (by omega)];simp
 rw [e1] at q1 q2 q3
 rw [e2] at r1 r2 r3
 exact ⟨⟨A0j h rfl q1,A0j h rfl q2,A0j h rfl q3⟩,⟨A0j h rfl r1,A0j h rfl r2,A0j h rfl r3⟩,fun o=>A0t h rfl o⟩
theorem B3l {α:Type} {lt:α→α→Bool} (hw:A3z lt) {m:List α} {x:α} {q:Nat} (hm:Asc lt m) (_hq:q≤m.length) (h1:∀ y∈m.drop q,lt x y=true) (h2:∀ z,(m.take q).getLast?=some z→lt x z=false):
 Asc lt (m.take q ++ x :: m.drop q)∧A2v lt (m ++ [x]) (m.take q ++ x :: m.drop q):=by
 have hsp:=List.take_append_drop q m
 have hA:Asc lt (m.take q ++ m.drop q):=by rw [hsp];exact hm
 obtain ⟨a1,a2,a3⟩:=hA.append
 have hx:∀ y∈m.take q,lt x y=false:=by
  have hxs:Asc lt [x]:=List.pairwise_singleton _ _
  have:=hw.border a1 hxs fun z y hz hy=>by
   simp at hy;subst hy;exact h2 z hz
  exact fun y hy=>this y hy x (by simp)
 refine ⟨Asc.of_append a1 (List.pairwise_cons.2 ⟨fun y hy=>hw.asymm (h1 y hy),a2⟩) fun y hy z hz=>?_,?_⟩
 ·rcases List.mem_cons.1 hz with rfl | hz
  ·exact hx y hy
  ·exact a3 y hy z hz
 ·have h3:A2v lt (m.drop q ++ [x]) (x :: m.drop q):=hw.move1' h1
  have h4:=(A2v.refl (lt:=lt) (m.take q)).append h3
  rw [← List.append_assoc,hsp] at h4
  exact h4
set_option maxRecDepth 100000 in
set_option maxHeartbeats 16000000 in
theorem A9F (w:World) (g cap wb:Nat) (len:Int) (l:List Pu) (a b:Nat) (hab:a<b) (hb:b≤l.length) (h:A1r w (.slice (some ⟨g,0,none⟩) l.length cap) l) (hT:∀ p∈l,A0P p.2.1) (hl:1≤len∧len≤4611686018427387904) (hw:w.cell? ⟨wb,0,none⟩=some (.int .i64 len)) (hwb:wb≠g) (_hbig:l.length≤4294967296):
 Calls Tryz.prog 243 #[.slice (some ⟨g,0,none⟩) l.length cap,.int .i64 a,.int .i64 b,.func (Fn.func 155) #[] #[.pointer (some ⟨wb,0,none⟩)]] w fun e w'=>e=.returned (.tuple #[])∧
  ∃ m,A1r w' (.slice (some ⟨g,0,none⟩) l.length cap) (l.take a ++ m ++ l.drop b)∧m.length=b - a∧A2v (A1U len) ((l.take b).drop a) m∧Asc (A1U len) m∧Chg (One g) w w':=by
 have KW:=A4L len
 obtain ⟨n,hn⟩:∃ n,l.length=n:=⟨_,rfl⟩
 have H0:Hid (w.ownsRow 0 113 3 (.slice (some ⟨g,0,none⟩) n cap) n (A0x l)):=by have:=h;unfold A1r at this;rw [hn] at this;exact this
 rw [hn] at hb ⊢
 have hcap:n≤cap∧cap≤9223372036854775807:=by
  obtain ⟨a',c',e,h1,h2,_⟩:=A0g H0.out
  cases e;unfold maxLen at h2;omega
 obtain ⟨hc1,hc2⟩:=hcap
 have HT:=A0b hT
 have HW:=A0b hw
 have HL:=A0b hl
 have HN:=A0b hn
 have HWB:=A0b hwb
 have eia:wrap64 ((a:Int)+1)=(a:Int)+1:=by unfold wrap64;omega
 clear h hT hw hl hn hwb
 go_enter Tryz.func243,Tryz.ntmps243
 go_wp2
 go_loopw [8] (fun iv wr=>∃ i:Nat,iv=.int .i64 ((i:Int)+1)∧a≤i∧i+1≤b∧Hid (∃ m,wr.ownsRow 0 113 3 (.slice (some ⟨g,0,none⟩) n cap) n (A0x (l.take a ++ m ++ l.drop (i+1)))∧m.length=i+1 - a∧A2v (A1U len) ((l.take (i+1)).drop a) m∧Asc (A1U len) m∧Chg (One g) w wr)) (fun iv _=>b - (intOf iv).toNat)
 case atStart=>
  refine ⟨a,rfl,by omega,by omega,(l.take (a+1)).drop a,?_,?_,A2v.refl _,?_,Chg.refl _ _⟩
  ·have e:l.take a ++ (l.take (a+1)).drop a ++ l.drop (a+1)=l:=by
    have:=List.take_append_drop (a+1) l
    conv=>rhs;rw [← this]
    congr 1
    have h2:=List.take_append_drop a (l.take (a+1))
    rw [List.take_take] at h2
    rw [show min a (a+1)=a by omega] at h2
    exact h2
   rw [e];exact H0.out
  ·have:=HN.out;simp;omega
  ·have hlen:((l.take (a+1)).drop a).length≤1:=by simp;omega
   match hx:(l.take (a+1)).drop a,hlen with
   | [],_=>exact List.Pairwise.nil
   | [x],_=>exact List.pairwise_singleton _ _
   | x :: y :: r,hl=>simp at hl
 case round=>
  obtain ⟨i,rfl,hai,hib,hI⟩:=hrel
  obtain ⟨m,i1,i2,i3,i4,i5⟩:=hI.out
  by_cases hi1:i+1<b
  ·obtain ⟨w1,hw1⟩:∃ w1,w1=wr:=⟨_,rfl⟩
   subst hw1
   have hil:i+1<l.length:=by have:=HN.out;omega
   have hdr:=List.drop_eq_getElem_cons hil
   have htk:l.take (i+1+1)=l.take (i+1) ++ [l[i+1]'hil]:=List.take_succ_eq_append_getElem hil
   have hxm:=List.getElem_mem hil
   obtain ⟨x,hx⟩:∃ x,(l[i+1]'hil)=x:=⟨_,rfl⟩
   rw [hx] at hdr htk hxm
   rw [hdr] at i1
   have I1:=A0b i1
   have I2:=A0b i2
   have I3:=A0b i3
   have I4:=A0b i4
   have I5:=A0b i5
   have HTK:Hid ((l.take (i+1+1)).drop a=(l.take (i+1)).drop a ++ [x]):=by
    unfold Hid;rw [htk,List.drop_append_of_le_length (by simp;omega)]
   have HXT:=A0b (HT.out x hxm)
   have HPRE:Hid ((l.take a).length=a):=by unfold Hid;have:=HN.out;simp;omega
   have hk0:(0:Int)≤(i:Int):=Int.natCast_nonneg _
   have hki:(i:Int)+1<(b:Int):=by omega
   clear hI i1 i2 i3 i4 i5 hdr htk hx hxm
   go_wp2
   have DONE:Hid (∀ (wx:World) (q:Nat),q≤m.length→(∀ y∈m.drop q,A1U len x y=true)→(∀ z,(m.take q).getLast?=some z→A1U len x z=false)→wx.ownsRow 0 113 3 (.slice (some ⟨g,0,none⟩) n cap) n (A0x ((l.take a ++ m.take q) ++ x :: (m.drop q ++ l.drop (i+1+1))))→Chg (One g) w wx→
    ∃ m',wx.ownsRow 0 113 3 (.slice (some ⟨g,0,none⟩) n cap) n (A0x (l.take a ++ m' ++ l.drop (i+1+1)))∧m'.length=i+1+1 - a∧A2v (A1U len) ((l.take (i+1+1)).drop a) m'∧Asc (A1U len) m'∧Chg (One g) w wx):=fun wx q hq h1 h2 h3 h4=>by
    obtain ⟨d1,d2⟩:=B3l KW I4.out hq h1 h2
    refine ⟨m.take q ++ x :: m.drop q,?_,?_,?_,d1,h4⟩
    ·have e:l.take a ++ (m.take q ++ x :: m.drop q) ++ l.drop (i+1+1)=(l.take a ++ m.take q) ++ x :: (m.drop q ++ l.drop (i+1+1)):=by simp
     rw [e];exact h3
    ·have:=I2.out;simp;omega
    ·rw [HTK.out];exact (I3.out.append (A2v.refl _)).trans d2
   go_loopw [9] (fun jv wr=>∃ j q:Nat,jv=.int .i64 (j:Int)∧j≤i+1∧Hid (j=a+q∧q≤m.length∧wr.ownsRow 0 113 3 (.slice (some ⟨g,0,none⟩) n cap) n (A0x ((l.take a ++ m.take q) ++ x :: (m.drop q ++ l.drop (i+1+1))))∧(∀ y∈m.drop q,A1U len x y=true)∧Chg (One g) w wr)) (fun jv _=>(intOf jv).toNat)
   case atStart=>
    refine ⟨i+1,m.length,by go_num,Nat.le_refl _,by have:=I2.out;omega,Nat.le_refl _,?_,(fun y hy=>by rw [List.drop_length] at hy;cases hy),I5.out⟩
    rw [List.take_length,List.drop_length,List.nil_append];exact I1.out
   case round=>
    obtain ⟨j,q,rfl,hji,hJ⟩:=hrel
    obtain ⟨j1,j2,j3,j4,j5⟩:=hJ.out
    by_cases hq0:q=0
    ·subst hq0
     have hja:j=a:=by omega
     subst hja
     have FIN:=A0b (fun nq=>DONE.out (wr.drewN nq) 0 (Nat.zero_le _) j4 (fun z hz=>by simp at hz) (A0a j3 fun _ _=>rfl) (j5.drewN nq))
     have hjj:¬ ((j:Int)<(j:Int)):=by omega
     clear hJ j1 j2 j3 j4 j5 DONE
     go_wp2
     go_quiet (fail)
     go_wp2
     go_roundw
     case rel=>exact ⟨i+1,by go_num,by omega,by omega,FIN.out _⟩
     case measure=>simp [intOf];omega
    ·obtain ⟨q,rfl⟩:∃ q',q=q'+1:=⟨q - 1,by omega⟩
     obtain ⟨P,hP⟩:∃ P,a+q=P:=⟨_,rfl⟩
     have hjP:j=P+1:=by omega
     subst hjP
     have hqm:q<m.length:=by omega
     have htq:m.take (q+1)=m.take q ++ [m[q]'hqm]:=List.take_succ_eq_append_getElem hqm
     have hdq:m.drop q=m[q]'hqm :: m.drop (q+1):=List.drop_eq_getElem_cons hqm
     obtain ⟨y,hy⟩:∃ y,(m[q]'hqm)=y:=⟨_,rfl⟩
     rw [hy] at htq hdq
     have hlast:∀ z,(m.take (q+1)).getLast?=some z→z=y:=fun z hz=>by rw [htq] at hz;simpa using hz.symm
     have hyT:A0P y.2.1:=by
      have hym:y∈m:=by rw [← hy];exact List.getElem_mem hqm
      have:=(I3.out.symm.mem KW hym)
      exact HT.out y (List.mem_of_mem_take (List.mem_of_mem_drop this))
     have hPl:(l.take a ++ m.take q).length=P:=by have:=HPRE.out;rw [List.length_append,this,List.length_take];omega
     have e0:(l.take a ++ m.take (q+1)) ++ x :: (m.drop (q+1) ++ l.drop (i+1+1))=(l.take a ++ m.take q) ++ y :: x :: (m.drop (q+1) ++ l.drop (i+1+1)):=by rw [htq];simp
     have j3':=j3
     rw [e0] at j3'
     obtain ⟨⟨y1,y2,y3⟩,⟨x1,x2,x3⟩,fz⟩:=A1r.two j3'
     rw [hPl] at y1 y2 y3 x1 x2 x3
     have CM:=A0b (fun wx hwx=>B3i wx wb len x y HXT.out hyT HL.out hwx)
     have hrg:=B0M len x y
     have hcl:=B4L (len:=len) (p:=x) (q:=y)
     obtain ⟨cc,hcc⟩:∃ cc,B4l len x y=cc:=⟨_,rfl⟩
     rw [hcc] at CM hrg hcl
     have hwbr:wr.cell? ⟨wb,0,none⟩=some (.int .i64 len):=j5.cellKeepS HW.out (fun e=>HWB.out e)
     have J3:=A0b j3
     have J3':=A0b j3'
     have J4:=A0b j4
     have J5:=A0b j5
     have HDQ:=A0b hdq
     have HTQ:=A0b htq
     have HLAST:=A0b hlast
     have HPL:=A0b hPl
     have HP:=A0b hP
     have HQM:=A0b hqm
     have HJI:=A0b hji
     have HCL:=A0b hcl
     have hPn:(P:Int)+1<(n:Int):=by omega
     have hPn2:(P:Int)<(n:Int):=by omega
     have hP0:(0:Int)≤(P:Int):=Int.natCast_nonneg _
     have hPa:(a:Int)<(P:Int)+1:=by omega
     have pk:(0:Int)≤(P:Int)+1:=by omega
     have ew0:IntKind.i64.wrap (P:Int)=P:=by simp [IntKind.wrap,IntKind.bits,IntKind.signed];omega
     have ew1:IntKind.i64.wrap ((P:Int)+1 - 1)=P:=by rw [Int.add_sub_cancel];exact ew0
     have ew2:wrap64 ((P:Int)+1 - 1)=P:=by unfold wrap64;omega
     have ew3:wrap64 (P:Int)=P:=by unfold wrap64;omega
     have tk:((P:Int)+1).toNat=P+1:=Int.toNat_natCast (P+1)
     obtain ⟨xa,xb',xc⟩:=x
     obtain ⟨ya,yb,yc⟩:=y
     dsimp only at y1 y2 y3 x1 x2 x3
     unfold A2t at CM
     dsimp only at CM
     have SS:Hid (∀ wx,Chg (fun _=>False) wr wx→wx.cell? ⟨g,P*3,none⟩=some (.int .i64 ya)∧wx.cell? ⟨g,P*3+1,none⟩=some (.int .i64 yb)∧wx.cell? ⟨g,P*3+2,none⟩=some (.int .i64 yc)∧wx.cell? ⟨g,(P+1)*3,none⟩=some (.int .i64 xa)∧wx.cell? ⟨g,(P+1)*3+1,none⟩=some (.int .i64 xb')∧wx.cell? ⟨g,(P+1)*3+2,none⟩=some (.int .i64 xc)):=fun wx hx=>
      ⟨hx.cellKeep y1,hx.cellKeep y2,hx.cellKeep y3,hx.cellKeep x1,hx.cellKeep x2,hx.cellKeep x3⟩
     have S0:=SS.out wr.drew (Chg.refl _ wr).drew
     have CMD:=A0b (CM.out wr.drew hwbr)
     clear hJ j1 j2 j3 j3' j4 j5 htq hdq hlast hPl hP hcl hyT hy hcc e0 CM hwbr hqm fz
     by_cases hcn:cc<0
     ·have hge:¬ (0≤cc):=by omega
      go_wp2
      refine A0e (fun w'=>w'.cell? ⟨g,P*3,none⟩=some (.int .i64 ya)∧w'.cell? ⟨g,P*3+1,none⟩=some (.int .i64 yb)∧w'.cell? ⟨g,P*3+2,none⟩=some (.int .i64 yc)∧w'.cell? ⟨g,(P+1)*3,none⟩=some (.int .i64 xa)∧w'.cell? ⟨g,(P+1)*3+1,none⟩=some (.int .i64 xb')∧w'.cell? ⟨g,(P+1)*3+2,none⟩=some (.int .i64 xc)) 16
       [(0,true),(1,true),(2,true),(3,true),(4,true),(5,true),(6,true),(7,true),(8,true),(9,true),(10,true),(11,true),(12,true),(13,true),(14,false),(15,true)] (by kernel_rfl) (by kernel_rfl) (fun _ _ _ _ _ h=>h) S0 ?_
      iterate 14 (refine A0d (v:=?_) rfl (by rfl) ?_ ?_;rotate_left;(· (intro w' hS;(try dsimp only at hS);go_simp;try with_reducible rfl));(try simp only [Act.put,List.setIfInBounds_toArray,List.set_cons_zero,List.set_cons_succ,List.getElem_toArray,List.getElem_cons_zero,List.getElem_cons_succ]))
      refine A0i rfl (by rfl) (fun K hK=>?_)
      go_simp
      refine CMD.out.mono ?_
      rintro e w6 ⟨rfl,hc6⟩
      have k6:Chg (fun _=>False) wr w6:=((Chg.refl (fun _=>False) wr).drew).trans hc6 fun _ h _=>h
      refine hK _ _ (SS.out w6 k6) (fun hS=>?_)
      have K6:=A0b k6
      have S6:=SS.out w6 k6
      clear hK K hS hc6 k6 S0 y1 y2 y3 x1 x2 x3 CMD
      (try simp only [Act.put,List.setIfInBounds_toArray,List.set_cons_zero,List.set_cons_succ,List.getElem_toArray,List.getElem_cons_zero,List.getElem_cons_succ])
      (refine A0d (v:=?_) rfl (by rfl) ?_ ?_;rotate_left;(· (intro w' hS;(try dsimp only at hS);go_simp;try with_reducible rfl));(try simp only [Act.put,List.setIfInBounds_toArray,List.set_cons_zero,List.set_cons_succ,List.getElem_toArray,List.getElem_cons_zero,List.getElem_cons_succ]))
      refine A0k ?_
      simp only [List.drop_succ_cons,List.drop_zero]
      obtain ⟨y1,y2,y3,x1,x2,x3⟩:=S6
      have G6:Hid (w6.ownsRow 0 113 3 (.slice (some ⟨g,0,none⟩) n cap) n (A0x ((l.take a ++ m.take q) ++ (ya,yb,yc):: (xa,xb',xc):: (m.drop (q+1) ++ l.drop (i+1+1))))):=A0a J3'.out fun g' hg=>K6.out.block g' (A0c J3'.out hg) (fun h=>h)
      have fz:∀ o,w6.frozen? ⟨g,o,none⟩=false:=fun o=>A0t G6.out rfl o
      go_wp2
      refine A6x 15 (fun w'=>w'.cell? ⟨g,P*3,none⟩=some (.int .i64 ya)∧w'.cell? ⟨g,P*3+1,none⟩=some (.int .i64 yb)∧w'.cell? ⟨g,P*3+2,none⟩=some (.int .i64 yc)∧w'.cell? ⟨g,(P+1)*3,none⟩=some (.int .i64 xa)∧w'.cell? ⟨g,(P+1)*3+1,none⟩=some (.int .i64 xb')∧w'.cell? ⟨g,(P+1)*3+2,none⟩=some (.int .i64 xc)) 16
       [(0,1),(1,1),(5,1),(6,1),(7,1),(8,1),(9,1),(10,2),(11,2),(12,2),(13,1),(14,1),(2,2),(3,2),(4,2),(15,0)] (by kernel_rfl) (by kernel_rfl) (fun _ _ _ _ _ h=>h) ⟨y1,y2,y3,x1,x2,x3⟩ ?_
      iterate 7 (refine A5y (v:=?_) rfl (by rfl) ?_ ?_;rotate_left;(· (intro w' hS;(try dsimp only at hS);go_simp;try with_reducible rfl));(try simp only [Act.put,List.setIfInBounds_toArray,List.set_cons_zero,List.set_cons_succ,List.getElem_toArray,List.getElem_cons_zero,List.getElem_cons_succ]))
      iterate 3 (refine A5Q (v:=?_) rfl (by rfl) ?_ ?_;rotate_left;(· (intro w';go_simp;try with_reducible rfl));(try simp only [Act.put,List.setIfInBounds_toArray,List.set_cons_zero,List.set_cons_succ,List.getElem_toArray,List.getElem_cons_zero,List.getElem_cons_succ]))
      iterate 2 (refine A5y (v:=?_) rfl (by rfl) ?_ ?_;rotate_left;(· (intro w' hS;(try dsimp only at hS);go_simp;try with_reducible rfl));(try simp only [Act.put,List.setIfInBounds_toArray,List.set_cons_zero,List.set_cons_succ,List.getElem_toArray,List.getElem_cons_zero,List.getElem_cons_succ]))
      iterate 3 (refine A5Q (v:=?_) rfl (by rfl) ?_ ?_;rotate_left;(· (intro w';go_simp;try with_reducible rfl));(try simp only [Act.put,List.setIfInBounds_toArray,List.set_cons_zero,List.set_cons_succ,List.getElem_toArray,List.getElem_cons_zero,List.getElem_cons_succ]))
      refine B0h rfl (by rfl) (fun K hK=>?_)
      go_simp
      refine hK _ _ ?_
      clear hK K
      (try simp only [Act.put,List.setIfInBounds_toArray,List.set_cons_zero,List.set_cons_succ,List.getElem_toArray,List.getElem_cons_zero,List.getElem_cons_succ])
      refine B0B ?_
      simp only [List.drop_succ_cons,List.drop_zero]
      have e1:((l.take a ++ m.take q) ++ (ya,yb,yc):: (xa,xb',xc):: (m.drop (q+1) ++ l.drop (i+1+1))).length=((l.take a ++ m.take q) ++ (ya,yb,yc):: (xa,xb',xc):: (m.drop (q+1) ++ l.drop (i+1+1))).length:=rfl
      have G7:=A1r.set G6.out (P+1) (by have:=HPL.out;rw [List.length_append,HPL.out];simp) (ya,yb,yc)
      have G8:=A1r.set G7 P (by have:=HPL.out;rw [List.length_set,List.length_append,HPL.out];simp) (xa,xb',xc)
      have hsp:=B3K (l.take a ++ m.take q) (m.drop (q+1) ++ l.drop (i+1+1)) (xa,xb',xc) (ya,yb,yc)
      rw [HPL.out] at hsp
      rw [hsp] at G8
      have hgetP:∀ hh,(((l.take a ++ m.take q) ++ (ya,yb,yc):: (xa,xb',xc):: (m.drop (q+1) ++ l.drop (i+1+1))).set (P+1) (ya,yb,yc))[P]'hh=(ya,yb,yc):=fun hh=>by
       rw [List.getElem_set_ne (by omega)]
       rw [List.getElem_append_right (by rw [HPL.out];exact Nat.le_refl _)]
       simp [HPL.out]
      obtain ⟨p1,p2,p3⟩:=A2y _ P (show P<(((l.take a ++ m.take q) ++ (ya,yb,yc):: (xa,xb',xc):: (m.drop (q+1) ++ l.drop (i+1+1))).set (P+1) (ya,yb,yc)).length by rw [List.length_set,List.length_append,HPL.out];simp)
      rw [hgetP] at p1 p2 p3
      have z1:=A0j G7 rfl p1
      have z2:=A0j G7 rfl p2
      have z3:=A0j G7 rfl p3
      dsimp only at G7 G8 z1 z2 z3
      have HG8:=A0b G8
      have fz7:∀ o,((((w6.setCell ⟨g,(P+1)*3,none⟩ (.int .i64 ya)).setCell ⟨g,(P+1)*3+1,none⟩ (.int .i64 yb)).setCell ⟨g,(P+1)*3+2,none⟩ (.int .i64 yc))).drew.frozen? ⟨g,o,none⟩=false:=fun o=>A0t G7 rfl o
      have K8:Hid (Chg (One g) wr (((((((w6.setCell ⟨g,(P+1)*3,none⟩ (.int .i64 ya)).setCell ⟨g,(P+1)*3+1,none⟩ (.int .i64 yb)).setCell ⟨g,(P+1)*3+2,none⟩ (.int .i64 yc)).drew.setCell ⟨g,P*3,none⟩ (.int .i64 xa)).setCell ⟨g,P*3+1,none⟩ (.int .i64 xb')).setCell ⟨g,P*3+2,none⟩ (.int .i64 xc)))):=
       ((((((K6.out.mono (S':=One g) fun _ _ h=>h.elim).setAt (b:=g) rfl _ _).setAt (b:=g) rfl _ _).setAt (b:=g) rfl _ _).drew.setAt (b:=g) rfl _ _).setAt (b:=g) rfl _ _).setAt (b:=g) rfl _ _
      have HG9:Hid ((((((((w6.setCell ⟨g,(P+1)*3,none⟩ (.int .i64 ya)).setCell ⟨g,(P+1)*3+1,none⟩ (.int .i64 yb)).setCell ⟨g,(P+1)*3+2,none⟩ (.int .i64 yc)).drew.setCell ⟨g,P*3,none⟩ (.int .i64 xa)).setCell ⟨g,P*3+1,none⟩ (.int .i64 xb')).setCell ⟨g,P*3+2,none⟩ (.int .i64 xc))).ownsRow 0 113 3 (.slice (some ⟨g,0,none⟩) n cap) n (A0x ((l.take a ++ m.take q) ++ (xa,xb',xc):: (ya,yb,yc):: (m.drop (q+1) ++ l.drop (i+1+1))))):=A0a HG8.out fun _ _=>rfl
      have w1':((((w6.setCell ⟨g,(P+1)*3,none⟩ (.int .i64 ya)).setCell ⟨g,(P+1)*3+1,none⟩ (.int .i64 yb)).setCell ⟨g,(P+1)*3+2,none⟩ (.int .i64 yc))).drew.cell? ⟨g,P*3,none⟩=some (.int .i64 ya):=z1
      have w2':((((w6.setCell ⟨g,(P+1)*3,none⟩ (.int .i64 ya)).setCell ⟨g,(P+1)*3+1,none⟩ (.int .i64 yb)).setCell ⟨g,(P+1)*3+2,none⟩ (.int .i64 yc))).drew.cell? ⟨g,P*3+1,none⟩=some (.int .i64 yb):=z2
      have w3':((((w6.setCell ⟨g,(P+1)*3,none⟩ (.int .i64 ya)).setCell ⟨g,(P+1)*3+1,none⟩ (.int .i64 yb)).setCell ⟨g,(P+1)*3+2,none⟩ (.int .i64 yc))).drew.cell? ⟨g,P*3+2,none⟩=some (.int .i64 yc):=z3
      clear G7 G8 hsp e1 z1 z2 z3 p1 p2 p3 hgetP HG8 y1 y2 y3 x1 x2 x3 fz
      generalize (((w6.setCell ⟨g,(P+1)*3,none⟩ (.int .i64 ya)).setCell ⟨g,(P+1)*3+1,none⟩ (.int .i64 yb)).setCell ⟨g,(P+1)*3+2,none⟩ (.int .i64 yc)).drew=w7 at fz7 K8 HG9 w1' w2' w3' ⊢
      go_wp2
      go_roundw
      case rel=>
       refine ⟨P,q,rfl,Nat.le_of_lt HJI.out,HP.out.symm,Nat.le_of_lt HQM.out,?_,?_,?_⟩
       ·have e2:(l.take a ++ m.take q) ++ (xa,xb',xc):: (m.drop q ++ l.drop (i+1+1))=(l.take a ++ m.take q) ++ (xa,xb',xc):: (ya,yb,yc):: (m.drop (q+1) ++ l.drop (i+1+1)):=by rw [HDQ.out];rfl
        rw [e2]
        exact A0a HG9.out fun _ _=>rfl
       ·intro z hz
        rw [HDQ.out] at hz
        rcases List.mem_cons.1 hz with rfl | hz
        ·exact HCL.out.1 hcn
        ·exact J4.out z hz
       ·exact J5.out.trans K8.out fun _ h _=>h
      case measure=>simp [intOf]
     ·have hge:0≤cc:=by omega
      have FIN:Hid (∀ wx,Chg (fun _=>False) wr wx→∃ m',wx.ownsRow 0 113 3 (.slice (some ⟨g,0,none⟩) n cap) n (A0x (l.take a ++ m' ++ l.drop (i+1+1)))∧m'.length=i+1+1 - a∧A2v (A1U len) ((l.take (i+1+1)).drop a) m'∧Asc (A1U len) m'∧Chg (One g) w wx):=fun wx hx=>
       DONE.out wx (q+1) HQM.out J4.out (fun z hz=>by
        rw [HLAST.out z hz]
        cases hk:A1U len (xa,xb',xc) (ya,yb,yc) with
        | false=>rfl
        | true=>exact absurd (HCL.out.2 hk) hcn) (A0a J3.out fun g' hg=>hx.block g' (A0c J3.out hg) (fun h=>h)) (J5.out.trans hx fun _ h _=>h.elim)
      clear DONE
      go_wp2
      refine A0e (fun w'=>w'.cell? ⟨g,P*3,none⟩=some (.int .i64 ya)∧w'.cell? ⟨g,P*3+1,none⟩=some (.int .i64 yb)∧w'.cell? ⟨g,P*3+2,none⟩=some (.int .i64 yc)∧w'.cell? ⟨g,(P+1)*3,none⟩=some (.int .i64 xa)∧w'.cell? ⟨g,(P+1)*3+1,none⟩=some (.int .i64 xb')∧w'.cell? ⟨g,(P+1)*3+2,none⟩=some (.int .i64 xc)) 16
       [(0,true),(1,true),(2,true),(3,true),(4,true),(5,true),(6,true),(7,true),(8,true),(9,true),(10,true),(11,true),(12,true),(13,true),(14,false),(15,true)] (by kernel_rfl) (by kernel_rfl) (fun _ _ _ _ _ h=>h) S0 ?_
      iterate 14 (refine A0d (v:=?_) rfl (by rfl) ?_ ?_;rotate_left;(· (intro w' hS;(try dsimp only at hS);go_simp;try with_reducible rfl));(try simp only [Act.put,List.setIfInBounds_toArray,List.set_cons_zero,List.set_cons_succ,List.getElem_toArray,List.getElem_cons_zero,List.getElem_cons_succ]))
      refine A0i rfl (by rfl) (fun K hK=>?_)
      go_simp
      refine CMD.out.mono ?_
      rintro e w6 ⟨rfl,hc6⟩
      have k6:Chg (fun _=>False) wr w6:=((Chg.refl (fun _=>False) wr).drew).trans hc6 fun _ h _=>h
      refine hK _ _ (SS.out w6 k6) (fun hS=>?_)
      have FIN6:=A0b (FIN.out w6 k6)
      clear hK K hS hc6 k6 S0 y1 y2 y3 x1 x2 x3 CMD FIN
      (try simp only [Act.put,List.setIfInBounds_toArray,List.set_cons_zero,List.set_cons_succ,List.getElem_toArray,List.getElem_cons_zero,List.getElem_cons_succ])
      (refine A0d (v:=?_) rfl (by rfl) ?_ ?_;rotate_left;(· (intro w' hS;(try dsimp only at hS);go_simp;try with_reducible rfl));(try simp only [Act.put,List.setIfInBounds_toArray,List.set_cons_zero,List.set_cons_succ,List.getElem_toArray,List.getElem_cons_zero,List.getElem_cons_succ]))
      refine A0k ?_
      simp only [List.drop_succ_cons,List.drop_zero]
      go_wp2
      go_roundw
      case rel=>exact ⟨i+1,by go_num,by omega,by omega,FIN6.out⟩
      case measure=>simp [intOf];omega
  ·have hbi:i+1=b:=by omega
   subst hbi
   have HI:=A0b hI.out
   have hki:¬ ((i:Int)+1<((i+1:Nat):Int)):=by omega
   clear hI i1 i2 i3 i4 i5
   go_wp2
   go_end0
   obtain ⟨m',q1,q2,q3,q4,q5⟩:=HI.out
   refine ⟨rfl,m',?_,q2,q3,q4,q5⟩
   unfold A1r
   rw [List.append_assoc] at q1
   try rw [List.append_assoc]
   have e:(l.take a ++ (m' ++ l.drop (i+1))).length=n:=by have:=HN.out;simp;omega
   rw [e]
   exact q1
end Go.Proofs.YtodcnkbblippnaaGreatDoor
