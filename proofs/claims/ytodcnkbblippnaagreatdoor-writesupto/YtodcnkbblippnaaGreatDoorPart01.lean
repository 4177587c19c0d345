/-
  The statement WritesUptoCardSaid is proved: the law Writes answers true for every setting and every script of at most 1048576 bytes; there is no other condition.
  Part 1 of 33.
-/
import Derived.Test.YtodcnkbblippnaaGreatDoorRows
import Derived.WalkKit
import Derived.WalkSpells
import Derived.WalkLawsBesides
import Derived.Deep.AppendLies
import Derived.Lib.Strings
import Derived.Deep.AppendSrc
import Derived.RegionTactic
import Derived.Laws.BitsAllLaws
import Derived.Laws.BytesString
namespace Go.Proofs.YtodcnkbblippnaaGreatDoor
open Go.RowKit
structure Chg (S:Nat→Prop) (w w':World):Prop where
 os:w'.os=w.os
 tape:w'.tape=w.tape
 output:w'.output=w.output
 size:w.heap.size≤w'.heap.size
 block:∀ k,k<w.heap.size→¬ S k→w'.heap[k]?=w.heap[k]?
theorem Chg.refl (S:Nat→Prop) (w:World):Chg S w w:=⟨rfl,rfl,rfl,Nat.le_refl _,fun _ _ _=>rfl⟩
theorem Chg.trans {S S':Nat→Prop} {a b c:World} (h:Chg S a b) (k:Chg S' b c) (hs:∀ x,S' x→x<a.heap.size→S x):Chg S a c:=
 ⟨k.os.trans h.os,k.tape.trans h.tape,k.output.trans h.output,Nat.le_trans h.size k.size,fun i hi hn=>
  (k.block i (Nat.lt_of_lt_of_le hi h.size) (fun hx=>hn (hs i hx hi))).trans (h.block i hi hn)⟩
theorem Chg.mono {S S':Nat→Prop} {a b:World} (h:Chg S a b) (hs:∀ x,x<a.heap.size→S x→S' x):Chg S' a b:=
 ⟨h.os,h.tape,h.output,h.size,fun k hk hn=>h.block k hk (fun hx=>hn (hs k hk hx))⟩
theorem Chg.drew {S:Nat→Prop} {a w:World} (h:Chg S a w):Chg S a w.drew:=⟨h.os,h.tape,h.output,h.size,h.block⟩
theorem Chg.drewN {S:Nat→Prop} {a w:World} (h:Chg S a w) (n:Nat):Chg S a (w.drewN n):=⟨h.os,h.tape,h.output,h.size,h.block⟩
theorem Chg.alloc {S:Nat→Prop} {a w:World} (h:Chg S a w) (o:Obj):Chg S a (w.alloc o):=
 ⟨h.os,h.tape,h.output,by have:=h.size;simp;omega,fun k hk hn=>(Below.heap_alloc _ _ _ (Nat.lt_of_lt_of_le hk h.size)).trans (h.block k hk hn)⟩
theorem Chg.setCell {S:Nat→Prop} {a w:World} (h:Chg S a w) {p:Addr} (hp:p.block<a.heap.size→S p.block) (u:Value):Chg S a (w.setCell p u):=
 ⟨h.os,h.tape,h.output,by simpa using h.size,fun k hk hn=>(Below.heap_setCell _ _ _ _ (fun e=>by subst e;exact hn (hp hk))).trans (h.block k hk hn)⟩
theorem Chg.grown {S:Nat→Prop} {a w w':World} {row:Option Nat} (h:Chg S a w) (hg:w.grownBy w' row) (hr:∀ k,row=some k→k<a.heap.size→S k):Chg S a w':=
 ⟨hg.os.trans h.os,hg.tape.trans h.tape,hg.output.trans h.output,Nat.le_trans h.size hg.size,fun k hk hn=>
  (hg.block k (Nat.lt_of_lt_of_le hk h.size) (fun e=>hn (hr k e.symm hk))).trans (h.block k hk hn)⟩
theorem Chg.below {S:Nat→Prop} {a b:World} {B:Nat} (h:Chg S a b) (hB:B≤a.heap.size) (hs:∀ k,k<B→¬ S k):Below B a b:=
 ⟨h.os,h.tape,h.output,h.size,fun k hk=>h.block k (Nat.lt_of_lt_of_le hk hB) (hs k hk)⟩
theorem Chg.keep {S:Nat→Prop} {a b:World} (h:Chg S a b) {k:Nat} {o:Obj} (ho:a.heap[k]?=some o) (hn:¬ S k):b.heap[k]?=some o:=
 (h.block k (lt_of_block ho) hn).trans ho
def One (b:Nat):Nat→Prop:=fun k=>k=b
theorem Chg.setAt {S:Nat→Prop} {a w:World} (h:Chg S a w) {b:Nat} (hb:S b) (o:Nat) (u:Value):Chg S a (w.setCell ⟨b,o,none⟩ u):=h.setCell (p:=⟨b,o,none⟩) (fun _=>hb) u
theorem A0b {p:Prop} (h:p):Hid p:=h
def A9f (S:Nat→Prop) (w w':World):Prop:=∀ k,S k→w'.heap[k]?=w.heap[k]?
theorem A9f.mono {S S':Nat→Prop} {w w':World} (h:A9f S w w') (hs:∀ k,S' k→S k):A9f S' w w':=fun k hk=>h k (hs k hk)
theorem Chg.same {S T:Nat→Prop} {w w':World} (h:Chg S w w') (hT:∀ k,T k→k<w.heap.size) (hd:∀ k,T k→¬ S k):A9f T w w':=fun k hk=>h.block k (hT k hk) (hd k hk)
theorem A0a {w w':World} {base e size n:Nat} {v:Value} {xs:List Value} (h:w.ownsRow base e size v n xs) (hs:∀ g,v.ownBlock=some g→w'.heap[g]?=w.heap[g]?):w'.ownsRow base e size v n xs:=by
 refine ⟨h.1,?_⟩
 rcases h.2 with h2 | ⟨g,cap,cur,rfl,hb,hg,r⟩
 ·exact .inl h2
 ·exact .inr ⟨g,cap,cur,rfl,hb,by rw [hs g rfl];exact hg,r⟩
theorem A0c {w:World} {base e size n:Nat} {v:Value} {xs:List Value} (h:w.ownsRow base e size v n xs) {g:Nat} (hg:v.ownBlock=some g):g<w.heap.size:=(h.lt g hg).2
theorem A0f {w:World} {base e size n:Nat} {v:Value} {xs:List Value} (h:w.ownsRow base e size v n xs) {g:Nat} (hg:v.ownBlock=some g):∃ cur,w.heap[g]?=some (.cells cur e (0,0)):=by
 rcases h.2 with ⟨rfl,_⟩ | ⟨g',cap,cur,rfl,_,hh,_⟩
 ·simp [Value.ownBlock] at hg
 ·simp [Value.ownBlock] at hg;subst hg;exact ⟨cur,hh⟩
theorem A0j {w:World} {base e size n:Nat} {v:Value} {xs:List Value} (h:w.ownsRow base e size v n xs) {g:Nat} (hg:v.ownBlock=some g) {j:Nat} {u:Value} (hu:xs[j]?=some u):w.cell? ⟨g,j,none⟩=some u:=by
 have:=h.cells hg j u hu
 unfold Addr.add at this
 split at this
 ·rename_i h0;rw [h0];exact this
 ·simpa using this
theorem A0t {w:World} {base e size n:Nat} {v:Value} {xs:List Value} (h:w.ownsRow base e size v n xs) {g:Nat} (hg:v.ownBlock=some g) (j:Nat):w.frozen? ⟨g,j,none⟩=false:=by
 obtain ⟨cur,hh⟩:=A0f h hg
 simp [World.frozen?,hh]
theorem A0g {w:World} {base e size n:Nat} {v:Value} {xs:List Value} (h:w.ownsRow base e size v n xs):
 ∃ a cap,v=.slice a n cap∧n≤cap∧cap≤maxLen∧(0<n→∃ g,a=some ⟨g,0,none⟩)∧(a=none→n=0∧cap=0)∧(∀ x,a=some x→∃ g,x=⟨g,0,none⟩):=by
 rcases h.2 with ⟨rfl,h0⟩ | ⟨g,cap,cur,rfl,_,hg,hcap,hm,hs,_⟩
 ·exact ⟨none,0,by rw [h0],by omega,by decide,by omega,fun _=>⟨h0,rfl⟩,fun x hx=>by cases hx⟩
 ·exact ⟨_,cap,rfl,hcap,hm,fun _=>⟨g,rfl⟩,by simp,fun x hx=>⟨g,by cases hx;rfl⟩⟩
theorem A9C {w:World} {base e size n cap:Nat} {a:Option Addr} {xs:List Value} (h:w.ownsRow base e size (.slice a n cap) n xs) {m:Nat} (hm:m≤n):w.ownsRow base e size (.slice a m cap) m (xs.take (m*size)):=by
 have hle:m*size≤n*size:=Nat.mul_le_mul_right _ hm
 refine ⟨by rw [List.length_take,h.1];omega,?_⟩
 rcases h.2 with ⟨h1,h2⟩ | ⟨g,cap',cur,h1,hb,hg,hcap,hmx,hs,ht⟩
 ·subst h2;cases h1;obtain rfl:m=0:=by omega
  exact .inl ⟨rfl,rfl⟩
 ·cases h1
  exact .inr ⟨g,cap,cur,rfl,hb,hg,by omega,hmx,hs,by rw [← ht,List.take_take,Nat.min_eq_left hle]⟩
theorem A3y (a b:ByteArray):(a.toList == b.toList)=true↔a=b:=by
 rw [beq_iff_eq,Lib.toList_data,Lib.toList_data]
 exact ⟨fun h=>WideShapes.bytes_inj h,fun h=>by rw [h]⟩
theorem A5f (a b:ByteArray):(a.toList == b.toList)=false↔a≠b:=by
 have:=A3y a b
 constructor
 ·intro h e;rw [this.2 e] at h;cases h
 ·intro h;cases hx:(a.toList == b.toList) with
  | false=>rfl
  | true=>exact absurd (this.1 hx) h
abbrev Ent:=ByteArray × Nat
def A0s:List Ent→List Value
 | []=>[]
 | (n,f):: r=>.string n :: .pointer (some ⟨f,0,none⟩):: A0s r
theorem A6t (es:List Ent):(A0s es).length=es.length*2:=by
 induction es with
 | nil=>rfl
 | cons e r ih=>obtain ⟨n,f⟩:=e;simp only [A0s,List.length_cons,ih];omega
theorem A1G (a b:List Ent):A0s (a ++ b)=A0s a ++ A0s b:=by
 induction a with
 | nil=>rfl
 | cons e r ih=>obtain ⟨n,f⟩:=e;simp [A0s,ih]
theorem A8B (es:List Ent) (k:Nat):(A0s es).take (k*2)=A0s (es.take k):=by
 induction es generalizing k with
 | nil=>simp [A0s]
 | cons e r ih=>
  obtain ⟨n,f⟩:=e
  match k with
  | 0=>simp [A0s]
  | k+1=>rw [show (k+1)*2=k*2+1+1 from by omega];simp [A0s,ih]
theorem A7F (es:List Ent) (k:Nat):(A0s es).drop (k*2)=A0s (es.drop k):=by
 induction es generalizing k with
 | nil=>simp [A0s]
 | cons e r ih=>
  obtain ⟨n,f⟩:=e
  match k with
  | 0=>simp [A0s]
  | k+1=>rw [show (k+1)*2=k*2+1+1 from by omega];simp [A0s,ih]
theorem A3C (es:List Ent) (k:Nat) (h:k<es.length):(A0s es)[k*2]?=some (.string (es[k]'h).1):=by
 induction es generalizing k with
 | nil=>simp at h
 | cons e r ih=>
  obtain ⟨n,f⟩:=e
  match k with
  | 0=>simp [A0s]
  | k+1=>
   have:=ih k (by simpa using h)
   rw [show (k+1)*2=k*2+1+1 from by omega]
   simpa [A0s] using this
theorem A4c (es:List Ent) (k:Nat) (h:k<es.length):(A0s es)[k*2+1]?=some (.pointer (some ⟨(es[k]'h).2,0,none⟩)):=by
 induction es generalizing k with
 | nil=>simp at h
 | cons e r ih=>
  obtain ⟨n,f⟩:=e
  match k with
  | 0=>simp [A0s]
  | k+1=>
   have:=ih k (by simpa using h)
   rw [show (k+1)*2+1=k*2+1+1+1 from by omega]
   simpa [A0s] using this
theorem A2A (es:List Ent):∀ u∈A0s es,u.oneCell'=true:=by
 induction es with
 | nil=>simp [A0s]
 | cons e r ih=>
  obtain ⟨n,f⟩:=e
  intro u hu
  simp only [A0s,List.mem_cons] at hu
  rcases hu with rfl | rfl | hu
  ·rfl
  ·rfl
  ·exact ih u hu
def A1l (w:World) (v:Value) (es:List Ent):Prop:=w.ownsRow 0 125 2 v es.length (A0s es)
theorem A1l.form {w:World} {v:Value} {es:List Ent} (h:A1l w v es):
 ∃ a cap,v=.slice a es.length cap∧es.length≤cap∧cap≤maxLen∧∀ k (hk:k<es.length),∃ g,a=some ⟨g,0,none⟩∧w.cell? ⟨g,k*2,none⟩=some (.string (es[k]'hk).1)∧w.cell? ⟨g,k*2+1,none⟩=some (.pointer (some ⟨(es[k]'hk).2,0,none⟩)):=by
 rcases A0g h with ⟨a,cap,rfl,h1,h2,h3,_,_⟩
 refine ⟨a,cap,rfl,h1,h2,fun k hk=>?_⟩
 obtain ⟨g,rfl⟩:=h3 (by omega)
 exact ⟨g,rfl,A0j h rfl (A3C es k hk),A0j h rfl (A4c es k hk)⟩
def A1x:List Ent→ByteArray→Int
 | [],_=>-1
 | e :: r,name=>if e.1=name then 0 else if A1x r name<0 then -1 else A1x r name+1
theorem B4w (es:List Ent) (name:ByteArray) (k:Nat) (hk:k<es.length) (h:(es[k]'hk).1=name) (hno:∀ m (hm:m<k),(es[m]'(by omega)).1≠name):A1x es name=k:=by
 induction es generalizing k with
 | nil=>simp at hk
 | cons e r ih=>
  match k with
  | 0=>simp only [List.getElem_cons_zero] at h;simp [A1x,h]
  | k+1=>
   have h0:=hno 0 (by omega)
   simp only [List.getElem_cons_zero] at h0
   have:=ih k (by simpa using hk) (by simpa using h) (fun m hm=>by simpa using hno (m+1) (by omega))
   simp only [A1x,h0,if_false,this]
   rw [if_neg (by omega)];omega
theorem B2e (es:List Ent) (name:ByteArray) (hno:∀ m (hm:m<es.length),(es[m]'hm).1≠name):A1x es name = -1:=by
 induction es with
 | nil=>rfl
 | cons e r ih=>
  have h0:=hno 0 (by simp)
  simp only [List.getElem_cons_zero] at h0
  have:=ih (fun m hm=>by have:=hno (m+1) (by simp;omega);simpa using this)
  simp [A1x,h0,this]
theorem B0J (es:List Ent) (name:ByteArray): -1≤A1x es name∧A1x es name<es.length:=by
 induction es with
 | nil=>simp [A1x]
 | cons e r ih=>
  simp only [A1x,List.length_cons]
  split
  ·omega
  ·split <;> omega
theorem B0Z (es:List Ent) (name:ByteArray):(A1x es name = -1∧∀ e∈es,e.1≠name)∨∃ k,∃ hk:k<es.length,A1x es name=(k:Int)∧(es[k]'hk).1=name:=by
 induction es with
 | nil=>exact .inl ⟨rfl,by simp⟩
 | cons e r ih=>
  by_cases h:e.1=name
  ·exact .inr ⟨0,by simp,by simp [A1x,h],by simpa using h⟩
  ·rcases ih with ⟨h1,h2⟩ | ⟨k,hk,h1,h2⟩
   ·exact .inl ⟨by simp [A1x,h,h1],fun x hx=>by rcases List.mem_cons.1 hx with rfl | hx;exact h;exact h2 x hx⟩
   ·exact .inr ⟨k+1,by simpa using hk,by simp only [A1x,h,if_false,h1];rw [if_neg (by omega)];omega,by simpa using h2⟩
structure DN where
 room:Int
 calls:Int
 cut:Int
 fail:Int
 part:Int
 refused:Int
 fulls:Int
 dead:Bool
def A3t (vd vs vc:Value) (n:DN):Array Value:=
 #[vd,vs,vc,.int .i64 n.room,.int .i64 n.calls,.int .i64 n.cut,.int .i64 n.fail,.int .i64 n.part,.int .i64 n.refused,.int .i64 n.fulls,.bool n.dead]
def A0H (w:World) (b:Nat) (vd vs vc:Value) (n:DN):Prop:=w.heap[b]?=some (.cells (A3t vd vs vc n) 95 (0,0))
section
variable {w:World} {b:Nat} {vd vs vc:Value} {n:DN}
theorem A0H.c0 (h:A0H w b vd vs vc n):w.cell? ⟨b,0,none⟩=some vd:=by unfold A0H at h;simp [World.cell?,h,A3t]
theorem A0H.c1 (h:A0H w b vd vs vc n):w.cell? ⟨b,1,none⟩=some vs:=by unfold A0H at h;simp [World.cell?,h,A3t]
theorem A0H.c2 (h:A0H w b vd vs vc n):w.cell? ⟨b,2,none⟩=some vc:=by unfold A0H at h;simp [World.cell?,h,A3t]
theorem A0H.c3 (h:A0H w b vd vs vc n):w.cell? ⟨b,3,none⟩=some (.int .i64 n.room):=by unfold A0H at h;simp [World.cell?,h,A3t]
theorem A0H.c4 (h:A0H w b vd vs vc n):w.cell? ⟨b,4,none⟩=some (.int .i64 n.calls):=by unfold A0H at h;simp [World.cell?,h,A3t]
theorem A0H.c5 (h:A0H w b vd vs vc n):w.cell? ⟨b,5,none⟩=some (.int .i64 n.cut):=by unfold A0H at h;simp [World.cell?,h,A3t]
theorem A0H.c6 (h:A0H w b vd vs vc n):w.cell? ⟨b,6,none⟩=some (.int .i64 n.fail):=by unfold A0H at h;simp [World.cell?,h,A3t]
theorem A0H.c7 (h:A0H w b vd vs vc n):w.cell? ⟨b,7,none⟩=some (.int .i64 n.part):=by unfold A0H at h;simp [World.cell?,h,A3t]
theorem A0H.c8 (h:A0H w b vd vs vc n):w.cell? ⟨b,8,none⟩=some (.int .i64 n.refused):=by unfold A0H at h;simp [World.cell?,h,A3t]
theorem A0H.c9 (h:A0H w b vd vs vc n):w.cell? ⟨b,9,none⟩=some (.int .i64 n.fulls):=by unfold A0H at h;simp [World.cell?,h,A3t]
theorem A0H.c10 (h:A0H w b vd vs vc n):w.cell? ⟨b,10,none⟩=some (.bool n.dead):=by unfold A0H at h;simp [World.cell?,h,A3t]
theorem A0H.fz (h:A0H w b vd vs vc n) (o:Nat):w.frozen? ⟨b,o,none⟩=false:=by unfold A0H at h;simp [World.frozen?,h]
theorem A0H.lt (h:A0H w b vd vs vc n):b<w.heap.size:=lt_of_block h
theorem A0h {w:World} {b:Nat} {c:Array Value} {e:Nat} {o:Nat} {v:Value} (h:w.heap[b]?=some (.cells c e (0,0))):(w.setCell ⟨b,o,none⟩ v).heap[b]?=some (.cells (c.setIfInBounds o v) e (0,0)):=by
 simp [World.setCell,Array.getElem?_modify,h]
theorem A0H.same {w':World} (h:A0H w b vd vs vc n) (he:w'.heap[b]?=w.heap[b]?):A0H w' b vd vs vc n:=he.trans h
theorem A0H.alloc (h:A0H w b vd vs vc n) (o:Obj):A0H (w.alloc o) b vd vs vc n:=h.same (Below.heap_alloc _ _ _ h.lt)
theorem A0H.grown {w':World} {row:Option Nat} (h:A0H w b vd vs vc n) (hg:w.grownBy w' row) (hr:row≠some b):A0H w' b vd vs vc n:=h.same (hg.block b h.lt (fun e=>hr e.symm))
theorem A0H.chg {S:Nat→Prop} {w':World} (h:A0H w b vd vs vc n) (hg:Chg S w w') (hr:¬ S b):A0H w' b vd vs vc n:=h.same (hg.block b h.lt hr)
theorem A0H.s0 (h:A0H w b vd vs vc n) (v:Value):A0H (w.setCell ⟨b,0,none⟩ v) b v vs vc n:=A0h h
theorem A0H.s1 (h:A0H w b vd vs vc n) (v:Value):A0H (w.setCell ⟨b,1,none⟩ v) b vd v vc n:=A0h h
theorem A0H.s2 (h:A0H w b vd vs vc n) (v:Value):A0H (w.setCell ⟨b,2,none⟩ v) b vd vs v n:=A0h h
theorem A0H.s4 (h:A0H w b vd vs vc n) (x:Int):A0H (w.setCell ⟨b,4,none⟩ (.int .i64 x)) b vd vs vc { n with calls:=x }:=A0h h
theorem A0H.s5 (h:A0H w b vd vs vc n) (x:Int):A0H (w.setCell ⟨b,5,none⟩ (.int .i64 x)) b vd vs vc { n with cut:=x }:=A0h h
theorem A0H.s6 (h:A0H w b vd vs vc n) (x:Int):A0H (w.setCell ⟨b,6,none⟩ (.int .i64 x)) b vd vs vc { n with fail:=x }:=A0h h
theorem A0H.s7 (h:A0H w b vd vs vc n) (x:Int):A0H (w.setCell ⟨b,7,none⟩ (.int .i64 x)) b vd vs vc { n with part:=x }:=A0h h
theorem A0H.s8 (h:A0H w b vd vs vc n) (x:Int):A0H (w.setCell ⟨b,8,none⟩ (.int .i64 x)) b vd vs vc { n with refused:=x }:=A0h h
theorem A0H.s9 (h:A0H w b vd vs vc n) (x:Int):A0H (w.setCell ⟨b,9,none⟩ (.int .i64 x)) b vd vs vc { n with fulls:=x }:=A0h h
theorem A0H.s10 (h:A0H w b vd vs vc n) (x:Bool):A0H (w.setCell ⟨b,10,none⟩ (.bool x)) b vd vs vc { n with dead:=x }:=A0h h
end
def A2Z (w:World) (f:Nat) (vb:Value) (safe:Int):Prop:=w.heap[f]?=some (.cells #[vb,.int .i64 safe] 129 (0,0))
section
variable {w:World} {f:Nat} {vb:Value} {safe:Int}
theorem A2Z.c0 (h:A2Z w f vb safe):w.cell? ⟨f,0,none⟩=some vb:=by unfold A2Z at h;simp [World.cell?,h]
theorem A2Z.c1 (h:A2Z w f vb safe):w.cell? ⟨f,1,none⟩=some (.int .i64 safe):=by unfold A2Z at h;simp [World.cell?,h]
theorem A2Z.fz (h:A2Z w f vb safe) (o:Nat):w.frozen? ⟨f,o,none⟩=false:=by unfold A2Z at h;simp [World.frozen?,h]
theorem A2Z.s0 (h:A2Z w f vb safe) (v:Value):A2Z (w.setCell ⟨f,0,none⟩ v) f v safe:=A0h h
theorem A2Z.s1 (h:A2Z w f vb safe) (x:Int):A2Z (w.setCell ⟨f,1,none⟩ (.int .i64 x)) f vb x:=A0h h
end
def A0K (bs:List UInt8):List Value:=bs.map fun b=>.int .u8 b.toNat
def BSl (w:World) (v:Value) (bs:List UInt8):Prop:=w.ownsRow 0 5 1 v bs.length (A0K bs)
theorem A6b (a b:List UInt8):A0K (a ++ b)=A0K a ++ A0K b:=List.map_append
theorem Chg.ofBelow {S:Nat→Prop} {w w':World} (h:Below w.heap.size w w'):Chg S w w':=⟨h.os,h.tape,h.output,h.size,fun k hk _=>h.block k hk⟩
theorem Chg.cellKeep {w w':World} (h:Chg (fun _=>False) w w') {p:Addr} {v:Value} (hc:w.cell? p=some v):w'.cell? p=some v:=by
 have hlt:p.block<w.heap.size:=by
  rcases Nat.lt_or_ge p.block w.heap.size with h | h
  ·exact h
  ·unfold World.cell? at hc
   rw [Array.getElem?_eq_none h] at hc
   simp at hc
 unfold World.cell? at hc ⊢
 rw [h.block _ hlt (fun h=>h)]
 exact hc
end Go.Proofs.YtodcnkbblippnaaGreatDoor
namespace Go.Proofs.YtodcnkbblippnaaGreatDoor
open Go.RowKit
structure App (w w':World) (e size:Nat) (v v':Value) (n:Nat) (xs:List Value):Prop where
 own:w'.ownsRow 0 e size v' n xs
 grown:w.grownBy w' v.ownBlock
 at_:v'.ownBlock=v.ownBlock∨v'.ownBlock=some w.heap.size
 form:∃ a cap,v'=.slice a n cap
theorem A8b {P:Program} (w:World) (t tx ty e:TypeId) (i:TypeInfo) (z:Value) (size bytes:Nat) (ht:P.underlying t=some (.slice e)) (hi:P.info? e=some i) (hz:i.zero=some z)
 (hsize:i.size=size) (hby:i.bytes=bytes) (hzs:z.cells.size=size) (hb0:0<bytes)
 (v:Value) (n:Nat) (xs:List Value) (hown:w.ownsRow 0 e size v n xs)
 (x:Value) (m:Nat) (news:List Value) (hs:Src P size tx x m news w) (hbytes:(n+m)*bytes≤140737488355328):
 ∃ v' w',(Builtin.append_ #[t,tx] ty #[v,x]).run P w=.ok v' w'∧App w w' e size v v' (n+m) (xs ++ news):=by
 subst hsize
 subst hby
 have hnm:n+m≤140737488355328:=Nat.le_trans (Nat.le_mul_of_pos_right _ hb0) hbytes
 have hlen:(xs ++ news).length=(n+m)*i.size:=by rw [List.length_append,hown.1,hs.newsLen,Nat.add_mul]
 obtain ⟨a,cap,rfl,hnc,hcm,_,hnil,hform⟩:=A0g hown
 by_cases hroom:n+m≤cap
 ·rcases hown.2 with ⟨h1,h2⟩ | ⟨g,cap',cur,h1,_,hg,_,_,hcs,htake⟩
  ·cases h1
   obtain rfl:m=0:=by omega
   have hn:news = []:=List.eq_nil_of_length_eq_zero (by simpa using hs.newsLen)
   subst hn
   have hx:xs = []:=List.eq_nil_of_length_eq_zero (by simpa using hown.1)
   subst hx
   refine ⟨.slice none 0 0,w,?_,⟨World.ownsRow_nil w 0 e i.size,⟨rfl,rfl,rfl,Nat.le_refl _,fun _ _ _=>rfl⟩,.inl rfl,⟨none,0,rfl⟩⟩⟩
   rcases hs.kind with ⟨e',hk⟩ | hk <;> simp [Builtin.append_,run_underlying ht,run_underlying hk,sizeOf,typeInfo,hi,hs.len,hs.cells]
  ·cases h1
   have hfit:n*i.size+news.length≤cur.size:=by rw [hs.newsLen,hcs,← Nat.add_mul];exact Nat.mul_le_mul_right _ hroom
   have hst:=run_storeCells_at P g (n*i.size) e news 0 cur w hg (by simpa using hfit) hs.one
   simp only [Nat.add_zero] at hst
   have hr:(Builtin.append_ #[t,tx] ty #[.slice (some ⟨g,0,none⟩) n cap,x]).run P w=.ok (.slice (some ⟨g,0,none⟩) (n+m) cap) (w.setRow g (cur.toList.take (n*i.size) ++ news ++ cur.toList.drop (n*i.size+news.length)).toArray):=by
    rcases hs.kind with ⟨e',hk⟩ | hk <;> simp [Builtin.append_,run_underlying ht,run_underlying hk,sizeOf,typeInfo,hi,hs.len,hroom,hs.cells,Addr.add_lit,hst]
   refine ⟨_,_,hr,⟨⟨hlen,.inr ⟨g,cap,_,rfl,Nat.zero_le _,setRow_heap w g cur _ e _ hg,hroom,hcm,?_,?_⟩⟩,⟨rfl,rfl,rfl,by simp,fun k _ hk=>setRow_other w g k _ (fun e=>hk (by simp [Value.ownBlock,e]))⟩,.inl rfl,⟨_,_,rfl⟩⟩⟩
   ·simp only [List.size_toArray,List.length_append,List.length_take,List.length_drop,Array.length_toList]
    omega
   ·rw [htake,← hlen]
    exact List.take_left
 ·have hold:(Builtin.firstCells i.size n (.slice a n cap)).run P w.drew=.ok xs.toArray w.drew:=by
   cases a with
   | none=>
    obtain ⟨rfl,_⟩:=hnil rfl
    have hx:xs = []:=List.eq_nil_of_length_eq_zero (by simpa using hown.1)
    subst hx
    exact run_firstCells_none w.drew i.size 0 0 cap
   | some ad=>
    obtain ⟨g,rfl⟩:=hform ad rfl
    exact run_firstCells_some w.drew i.size n _ n cap xs hown.1 (by simpa using hown.cells (g:=g) rfl)
  have hr:=run_append_grow_src (P:=P) w t tx ty e i z ht hi hz a n cap xs hold x m news hs (by omega) (by omega) (growslice_fits (by omega) hbytes)
  have hge:=grownCap_ge w (n+m) cap e
  have hgm:grownCap w (n+m) cap e≤maxLen:=grownCap_le_maxLen w (n+m) cap e (by unfold maxLen;omega)
  refine ⟨_,_,hr,⟨⟨hlen,.inr ⟨w.heap.size,_,_,rfl,Nat.zero_le _,heap_alloc_new w.drew _,hge,hgm,?_,?_⟩⟩,⟨rfl,rfl,rfl,by simp,fun k hk _=>Below.heap_alloc w.drew _ k hk⟩,.inr rfl,⟨_,_,rfl⟩⟩⟩
  ·simp only [Array.size_append,List.size_toArray,size_zeroCells,hzs,hlen,← Nat.add_mul]
   congr 1
   omega
  ·simp only [Array.toList_append]
   rw [← hlen]
   exact List.take_left
section
variable {P:Program} {w:World}
theorem A3q {o:Oper} {a:Act} {K:Act→World→Prop} {Q:Exit→Act→World→Prop} (s x:Operand) (t tx:TypeId)
 (ho:o.op=.call { callee:=.builtin .append,args:=#[s,x],argTypes:=#[t,tx] })
 (e:TypeId) (i:TypeInfo) (z:Value) (size bytes:Nat) (ht:P.underlying t=some (.slice e)) (hi:P.info? e=some i) (hz:i.zero=some z)
 (hsize:i.size=size) (hby:i.bytes=bytes) (hzs:z.cells.size=size) (hb0:0<bytes)
 (v:Value) (n:Nat) (xs:List Value) (hv:a.eval s=v) (hown:w.ownsRow 0 e size v n xs)
 (sv:Value) (m:Nat) (news:List Value) (hx:a.eval x=sv) (hs:Src P size tx sv m news w) (hbytes:(n+m)*bytes≤140737488355328)
 (h:∀ b cap w',App w w' e size v (.slice b (n+m) cap) (n+m) (xs ++ news)→K (a.put o.dst (.slice b (n+m) cap)) w'):o.wp P a w K Q:=by
 obtain ⟨v',w',hr,hA⟩:=A8b (P:=P) w t tx o.type e i z size bytes ht hi hz hsize hby hzs hb0 v n xs hown sv m news hs hbytes
 obtain ⟨b,cap,rfl⟩:=hA.form
 unfold Oper.wp execOp
 simp only [ho,resolve,invoke,builtin,Sem.run_bind,Sem.run_pure,Result.andThen_ok,List.map_toArray,List.map_cons,List.map_nil,hv,hx,hr]
 exact h b cap w' hA
theorem A0o {ops:Array Oper} {rest:List Oper} {o:Oper} {a:Act} {Q:Exit→Act→World→Prop} (hgd:o.guard=none) (s x:Operand) (t tx:TypeId)
 (ho:o.op=.call { callee:=.builtin .append,args:=#[s,x],argTypes:=#[t,tx] })
 (e:TypeId) (i:TypeInfo) (z:Value) (size bytes:Nat) (ht:P.underlying t=some (.slice e)) (hi:P.info? e=some i) (hz:i.zero=some z)
 (hsize:i.size=size) (hby:i.bytes=bytes) (hzs:z.cells.size=size) (hb0:0<bytes)
 (v:Value) (n:Nat) (xs:List Value) (hv:a.eval s=v) (hown:w.ownsRow 0 e size v n xs)
 (sv:Value) (m:Nat) (news:List Value) (hx:a.eval x=sv) (hs:Src P size tx sv m news w) (hbytes:(n+m)*bytes≤140737488355328)
 (h:∀ b cap w',App w w' e size v (.slice b (n+m) cap) (n+m) (xs ++ news)→wpList P ops Q rest (a.put o.dst (.slice b (n+m) cap)) w'):wpList P ops Q (o :: rest) a w:=
 wpList_plain hgd fun _ hK=>A3q s x t tx ho e i z size bytes ht hi hz hsize hby hzs hb0 v n xs hv hown sv m news hx hs hbytes fun b cap w' hA=>hK _ _ (h b cap w' hA)
theorem A3L {y:Nat→Option Bool} {o:Oper} {a:Act} {K:Act→World→Prop} {Q:Exit→Act→World→Prop} {E:Prop} (hgd:o.guard=none) (s x:Operand) (t tx:TypeId)
 (ho:o.op=.call { callee:=.builtin .append,args:=#[s,x],argTypes:=#[t,tx] })
 (e:TypeId) (i:TypeInfo) (z:Value) (size bytes:Nat) (ht:P.underlying t=some (.slice e)) (hi:P.info? e=some i) (hz:i.zero=some z)
 (hsize:i.size=size) (hby:i.bytes=bytes) (hzs:z.cells.size=size) (hb0:0<bytes)
 (v:Value) (n:Nat) (xs:List Value) (hv:a.eval s=v) (hown:w.ownsRow 0 e size v n xs)
 (sv:Value) (m:Nat) (news:List Value) (hx:a.eval x=sv) (hs:Src P size tx sv m news w) (hbytes:(n+m)*bytes≤140737488355328)
 (h:∀ b cap w',App w w' e size v (.slice b (n+m) cap) (n+m) (xs ++ news)→K (a.put o.dst (.slice b (n+m) cap)) w'):
 if Region.wanted o y=true then Oper.wp P o a w K Q else E:=by
 have hw:Region.wanted o y=true:=by simp [Region.wanted,hgd]
 rw [if_pos hw]
 exact A3q s x t tx ho e i z size bytes ht hi hz hsize hby hzs hb0 v n xs hv hown sv m news hx hs hbytes h
theorem Src.ofBlock {size:Nat} {tx e':TypeId} (hk:P.underlying tx=some (.slice e')) {B:Nat} {cs:Array Value} {t:TypeId} {fr:Nat × Nat} (hb:w.heap[B]?=some (.cells cs t fr)) (m c:Nat) (hl:cs.size=m*size)
 (h1:∀ u∈cs.toList,u.oneCell'=true):Src P size tx (.slice (some ⟨B,0,none⟩) m c) m cs.toList w:=
 Src.ofSlice w hk _ m c _ (by simpa using hl) (World.news_of_block hb) h1
theorem Src.ofNew {size:Nat} {tx e':TypeId} (hk:P.underlying tx=some (.slice e')) (w:World) (cs:Array Value) (t B:Nat) (hB:w.heap.size=B) (m c:Nat) (hl:cs.size=m*size)
 (h1:∀ u∈cs.toList,u.oneCell'=true):Src P size tx (.slice (some ⟨B,0,none⟩) m c) m cs.toList (w.alloc (.cells cs t)):=by
 subst hB;exact Src.ofBlock hk (heap_alloc_new _ _) m c hl h1
theorem Src.ofOwn {size:Nat} {tx e' e:TypeId} (hk:P.underlying tx=some (.slice e')) {v:Value} {m:Nat} {news:List Value} (h:w.ownsRow 0 e size v m news) (h1:∀ u∈news,u.oneCell'=true):Src P size tx v m news w:=by
 obtain ⟨a,cap,rfl,_,_,_,hnil,hform⟩:=A0g h
 cases a with
 | none=>
  obtain ⟨rfl,rfl⟩:=hnil rfl
  have hx:news = []:=List.eq_nil_of_length_eq_zero (by simpa using h.1)
  subst hx
  exact Src.ofNil w hk 0
 | some ad=>
  obtain ⟨g,rfl⟩:=hform ad rfl
  exact Src.ofSlice w hk _ m cap news h.1 (h.cells rfl) h1
theorem Src.ofPart {size:Nat} {tx e' e:TypeId} (hk:P.underlying tx=some (.slice e')) {g n cap:Nat} {xs:List Value} (h:w.ownsRow 0 e size (.slice (some ⟨g,0,none⟩) n cap) n xs) (h1:∀ u∈xs,u.oneCell'=true) (k m c:Nat) (hkm:k+m≤n):
 Src P size tx (.slice (some ((⟨g,0,none⟩:Addr).add (k*size))) m c) m ((xs.drop (k*size)).take (m*size)) w:=by
 have hle:k*size+m*size≤n*size:=by rw [← Nat.add_mul];exact Nat.mul_le_mul_right _ hkm
 refine Src.ofSlice w hk _ m c _ ?_ ?_ ?_
 ·rw [List.length_take,List.length_drop,h.1];omega
 ·intro j u hj
  rw [List.getElem?_take] at hj
  split at hj
  ·rw [List.getElem?_drop] at hj
   have:=A0j h (g:=g) rfl hj
   have hadd:((⟨g,0,none⟩:Addr).add (k*size)).add j=⟨g,k*size+j,none⟩:=by
    unfold Addr.add
    by_cases h0:k*size=0 <;> by_cases h1:j=0 <;> simp [h0,h1]
   rw [hadd];exact this
  ·cases hj
 ·intro u hu
  exact h1 u (List.mem_of_mem_drop (List.mem_of_mem_take hu))
end
end Go.Proofs.YtodcnkbblippnaaGreatDoor
namespace Go.Proofs.YtodcnkbblippnaaGreatDoor
open Go.RowKit
def A6J (s:Nat):Nat:=(s / 2) ^^^ (3988292384*(s &&& 1))
def A4M (s:Nat):Nat→Nat
 | 0=>s
 | n+1=>A6J (A4M s n)
def A7m (s:Nat) (b:UInt8):Nat:=A4M (s ^^^ b.toNat) 8
def A0w (s:Nat) (bs:List UInt8):Nat:=bs.foldl A7m s
theorem A6R (s:Nat):s &&& 1≤1:=Nat.and_le_right
theorem A7V (s:Nat) (h:s<4294967296):A6J s<4294967296:=by
 unfold A6J
 have:=A6R s
 exact Nat.xor_lt_two_pow (n:=32) (by omega) (by omega)
theorem B0m (s n:Nat) (h:s<4294967296):A4M s n<4294967296:=by
 induction n with
 | zero=>exact h
 | succ n ih=>exact A7V _ ih
theorem B1h (s:Nat) (b:UInt8) (h:s<4294967296):A7m s b<4294967296:=by
 have:=b.toNat_lt
 exact B0m _ _ (Nat.xor_lt_two_pow (n:=32) (by omega) (by omega))
theorem A3J (s:Nat) (bs:List UInt8) (h:s<4294967296):A0w s bs<4294967296:=by
 unfold A0w
 induction bs generalizing s with
 | nil=>exact h
 | cons b t ih=>exact ih _ (B1h s b h)
theorem A7N (s:Nat) (a b:List UInt8):A0w s (a ++ b)=A0w (A0w s a) b:=List.foldl_append
theorem A5F (s:Nat) (bs:List UInt8) (k:Nat) (hk:k<bs.length):A0w s (bs.take (k+1))=A7m (A0w s (bs.take k)) (bs[k]'hk):=by
 rw [List.take_succ_eq_append_getElem hk,A7N];rfl
set_option maxRecDepth 100000 in
set_option maxHeartbeats 1000000 in
theorem B0G (w:World) (s:Nat) (text:ByteArray) (hs:s<4294967296) (hl:text.size≤9223372036854775807):
 Calls Tryz.prog 165 #[.int .u32 s,.string text] w fun e w'=>e=.returned (.int .u32 (A0w s text.data.toList))∧w=w':=by
 go_enter Tryz.func165,Tryz.ntmps165
 go_wp2
 go_loop [0,8] (fun c i=>∃ k x:Nat,k≤text.size∧i=.int .i64 k∧c=.int .u32 x∧x<4294967296∧Hid (x=A0w s (text.data.toList.take k))) (fun _ i=>text.size - (intOf i).toNat)
 case atStart=>exact ⟨0,s,Nat.zero_le _,rfl,rfl,hs,rfl⟩
 case round=>
  obtain ⟨k,x,hk,rfl,rfl,hx,hq⟩:=hrel
  by_cases hlt:k<text.size
  ·have hb:=(text[k]'hlt).toNat_lt
   have e0:bits .xor .u32 (x:Int) (((text[k]'hlt).toNat:Int) % 4294967296)=((x ^^^ (text[k]'hlt).toNat:Nat):Int):=by
    rw [show (((text[k]'hlt).toNat:Int) % 4294967296)=(((text[k]'hlt).toNat:Nat):Int) by omega]
    exact u32_xor_nat _ _ hx (by omega)
   have hy:x ^^^ (text[k]'hlt).toNat<4294967296:=Nat.xor_lt_two_pow (n:=32) (by omega) (by omega)
   have hq2:Hid (A4M (x ^^^ (text[k]'hlt).toNat) 8=A0w s (text.data.toList.take (k+1))):=by
    unfold Hid
    rw [A5F s _ k (by simpa using hlt),← hq.out]
    simp [A7m]
    rfl
   obtain ⟨y,hyy⟩:∃ y,x ^^^ (text[k]'hlt).toNat=y:=⟨_,rfl⟩
   rw [hyy] at e0 hy hq2
   clear hyy hb hq
   go_wp2
   clear e0
   go_loop [0,17] (fun c i=>∃ j z:Nat,j≤8∧i=.int .i64 j∧c=.int .u32 z∧z<4294967296∧Hid (z=A4M y j)) (fun _ i=>8 - (intOf i).toNat)
   case atStart=>exact ⟨0,y,Nat.zero_le _,rfl,rfl,hy,rfl⟩
   case round=>
    obtain ⟨j,z,hj,rfl,rfl,hz,hqz⟩:=hrel
    by_cases hj8:j<8
    ·have e1:bits .xor .u32 ((z:Int) / 2) (3988292384*bits .and .u32 (z:Int) 1 % 4294967296)=((A6J z:Nat):Int):=by
      rw [show (1:Int)=((1:Nat):Int) from rfl,u32_and_nat z 1 hz (by omega)]
      have:=A6R z
      have e2:(3988292384:Int)*((z &&& 1:Nat):Int) % 4294967296=((3988292384*(z &&& 1):Nat):Int):=by omega
      rw [e2,show ((z:Int) / 2)=((z / 2:Nat):Int) by omega]
      exact u32_xor_nat _ _ (by omega) (by omega)
     have hs2:=A7V z hz
     have hq3:Hid (A6J z=A4M y (j+1)):=by unfold Hid;rw [hqz.out];rfl
     go_wp2
     exact ⟨⟨j+1,A6J z,by omega,by go_num,rfl,hs2,hq3⟩,by simp [intOf];omega⟩
    ·obtain rfl:j=8:=by omega
     have hq3:Hid (z=A0w s (text.data.toList.take (k+1))):=by unfold Hid;rw [hqz.out];exact hq2.out
     go_wp2
     exact ⟨⟨k+1,z,by omega,by go_num,rfl,hz,hq3⟩,by simp [intOf];omega⟩
  ·have hq3:Hid (x=A0w s text.data.toList):=by
    unfold Hid
    rw [hq.out,List.take_of_length_le]
    simpa using by omega
   go_wp2
   go_ret
   rw [hq3.out]
   exact ⟨rfl,rfl⟩
end Go.Proofs.YtodcnkbblippnaaGreatDoor
namespace Go.Proofs.YtodcnkbblippnaaGreatDoor
open Go.RowKit
theorem A1k (l:List UInt8) (i j:Nat):(ByteArray.mk l.toArray).extract i j=⟨((l.drop i).take (j - i)).toArray⟩:=by
 apply ByteArray.ext
 simp [ByteArray.data_extract]
theorem A2V (a b:List UInt8):(ByteArray.mk a.toArray) ++ (ByteArray.mk b.toArray)=⟨(a ++ b).toArray⟩:=by
 apply ByteArray.ext
 simp [ByteArray.data_append]
def leN:List UInt8→Nat
 | []=>0
 | b :: t=>b.toNat+256*leN t
theorem B0p (a b:List UInt8):leN (a ++ b)=leN a+256 ^ a.length*leN b:=by
 induction a with
 | nil=>simp [leN]
 | cons c t ih=>simp only [List.cons_append,leN,ih,List.length_cons,Nat.pow_succ];rw [Nat.mul_add,← Nat.mul_assoc,Nat.mul_comm (256 ^ t.length) 256];omega
theorem A7u (bs:List UInt8) (k:Nat) (hk:k<bs.length):leN (bs.take (k+1))=leN (bs.take k)+(bs[k]'hk).toNat*256 ^ k:=by
 rw [List.take_succ_eq_append_getElem hk,B0p]
 simp [leN,Nat.min_eq_left (Nat.le_of_lt hk),Nat.mul_comm]
set_option maxRecDepth 100000 in
set_option maxHeartbeats 1000000 in
theorem B1Z (w:World) (text:ByteArray) (hl:8≤text.size∧text.size≤9223372036854775807):
 Calls Tryz.prog 168 #[.string text] w fun e w'=>e=.returned (.int .i64 (wrap64 (leN (text.data.toList.take 8):Nat)))∧w=w':=by
 obtain ⟨hl1,hl2⟩:=hl
 go_enter Tryz.func168,Tryz.ntmps168
 go_wp2
 go_loop [3,5] (fun c i=>∃ k x:Nat,k≤8∧i=.int .i64 k∧c=.int .u64 x∧x<18446744073709551616∧Hid (x<256 ^ k)∧Hid (x=leN (text.data.toList.take k))) (fun _ i=>8 - (intOf i).toNat)
 case atStart=>exact ⟨0,0,Nat.zero_le _,rfl,rfl,by omega,(by unfold Hid;decide),rfl⟩
 case round=>
  obtain ⟨k,x,hk,rfl,rfl,hx,hxk,hq⟩:=hrel
  by_cases hlt:k<8
  ·have hlt2:k<text.size:=by omega
   have hb:=(text[k]'hlt2).toNat_lt
   have hb0:=hb
   have hstep:Hid (x+(text[k]'hlt2).toNat*256 ^ k=leN (text.data.toList.take (k+1))):=by
    unfold Hid
    rw [A7u _ k (by simpa using hlt2),← hq.out]
    rfl
   obtain ⟨b,hbb⟩:∃ b,(text[k]'hlt2).toNat=b:=⟨_,rfl⟩
   rw [hbb] at hb hstep
   obtain ⟨y,hyk,hy256,e1⟩:∃ y,y=x+b*256 ^ k∧y<256 ^ (k+1)∧bits .or .u64 (x:Int) (IntKind.u64.wrap (((text[k]'hlt2).toNat:Int)*2 ^ (8*k)))=((y:Nat):Int):=by
    have h1:=hxk.out
    have h2:(256:Nat) ^ k=2 ^ (8*k):=by rw [Nat.pow_mul]
    have h3:b*256 ^ k≤255*256 ^ k:=Nat.mul_le_mul_right _ (by omega)
    have h4:(256:Nat) ^ (k+1)=256*256 ^ k:=by rw [Nat.pow_succ,Nat.mul_comm]
    have h5:(256:Nat) ^ (k+1)≤256 ^ 8:=Nat.pow_le_pow_right (by omega) (by omega)
    have h6:(256:Nat) ^ 8=18446744073709551616:=by decide
    refine ⟨_,rfl,by omega,?_⟩
    rw [hbb,IntKind.wrap_u64,show ((b:Int)*2 ^ (8*k))=((b*2 ^ (8*k):Nat):Int) by push_cast;rfl]
    rw [← h2,show ((b*256 ^ k:Nat):Int) % 18446744073709551616=((b*256 ^ k:Nat):Int) by omega]
    rw [u64_or_nat _ _ hx (by omega)]
    congr 1
    have h7:=Nat.shiftLeft_add_eq_or_of_lt (i:=8*k) (b:=x) (by rw [← h2];exact h1) b
    rw [Nat.shiftLeft_eq,← h2] at h7
    rw [Nat.or_comm,← h7];omega
   have hy2:y<18446744073709551616:=by
    have h5:(256:Nat) ^ (k+1)≤256 ^ 8:=Nat.pow_le_pow_right (by omega) (by omega)
    have h6:(256:Nat) ^ 8=18446744073709551616:=by decide
    omega
   have hq3:Hid (y=leN (text.data.toList.take (k+1))):=by unfold Hid;rw [hyk];exact hstep.out
   have hy3:Hid (y<256 ^ (k+1)):=hy256
   clear hyk hbb hy256 hstep hq hxk
   go_wp2
   exact ⟨⟨k+1,y,by omega,by go_num,rfl,hy2,hy3,hq3⟩,by simp [intOf];omega⟩
  ·obtain rfl:k=8:=by omega
   go_wp2
   go_ret
   rw [hq.out]
   exact ⟨rfl,rfl⟩
def leB (n:Nat) (k:Nat):List UInt8:=(List.range k).map fun i=>UInt8.ofNat (n / 256 ^ i)
theorem B0v (n k:Nat):(leB n k).length=k:=by simp [leB]
theorem B4s (n k:Nat):leB n (k+1)=UInt8.ofNat n :: leB (n / 256) k:=by
 simp only [leB,List.range_succ_eq_map,List.map_cons,List.map_map,Nat.pow_zero,Nat.div_one]
 congr 1
 apply List.map_congr_left
 intro i _
 simp only [Function.comp,Nat.succ_eq_add_one,Nat.pow_succ,Nat.div_div_eq_div_mul]
 rw [Nat.mul_comm (256 ^ i) 256]
theorem B4Q (n k:Nat):leN (leB n k)=n % 256 ^ k:=by
 induction k generalizing n with
 | zero=>simp [leB,leN,Nat.mod_one]
 | succ k ih=>
  rw [B4s,leN,ih,Nat.pow_succ,Nat.mul_comm (256 ^ k) 256,Nat.mod_mul]
  simp
def asU (n:Int):Nat:=(n % 18446744073709551616).toNat
theorem B4B (n:Int):asU n<18446744073709551616:=by unfold asU;omega
theorem A9I (n:Int):n % 18446744073709551616=(asU n:Int):=by unfold asU;omega
def A1h (n:Int):List UInt8:=leB (asU n) 8
theorem A0v (n:Int):(A1h n).length=8:=B0v _ _
theorem A7q (n:Int) (h : -9223372036854775808≤n∧n≤9223372036854775807):wrap64 (leN (A1h n):Nat)=n:=by
 have h1:leN (A1h n)=asU n:=by
  unfold A1h
  rw [B4Q]
  have:=B4B n
  have h6:(256:Nat) ^ 8=18446744073709551616:=by decide
  rw [h6];omega
 rw [h1]
 have:=A9I n
 unfold wrap64
 omega
def B4C (n:Nat) (k:Nat):List Value:=A0K (leB n k) ++ List.replicate (8 - k) (.int .u8 0)
set_option maxRecDepth 100000 in
set_option maxHeartbeats 1000000 in
theorem A2h (w:World) (n:Int) (hn : -9223372036854775808≤n∧n≤9223372036854775807):
 Calls Tryz.prog 239 #[.int .i64 n] w fun e w'=>e=.returned (.string ⟨(A1h n).toArray⟩)∧Chg (fun _=>False) w w':=by
 obtain ⟨n1,n2⟩:=hn
 have eu:IntKind.u64.wrap n=(asU n:Int):=by rw [IntKind.wrap_u64];exact A9I n
 have hu:=B4B n
 go_enter Tryz.func239,Tryz.ntmps239
 go_wp2
 go_loopw [5] (fun i wr=>∃ k:Nat,k≤8∧i=.int .i64 k∧Hid (Chg (fun _=>False) w wr)∧Hid (wr.heap[w.heap.size]?=some (.cells (B4C (asU n) k).toArray 318 (0,0)))) (fun i _=>8 - (intOf i).toNat)
 case atStart=>exact ⟨0,Nat.zero_le _,rfl,(Chg.refl _ _).alloc _,by unfold Hid;show (w.heap.push _)[w.heap.size]?=_;rw [Array.getElem?_push_size];rfl⟩
 case round=>
  obtain ⟨k,hk,rfl,hc,hh⟩:=hrel
  by_cases hlt:k<8
  ·have hfz:wr.frozen? ⟨w.heap.size,k,none⟩=false:=by have:=hh.out;simp [World.frozen?,this]
   have hce:wr.cell? ⟨w.heap.size,k,none⟩=some (.int .u8 0):=by
    have:=hh.out
    have hl:(B4C (asU n) k)[k]?=some (.int .u8 0):=by
     have h1:(A0K (leB (asU n) k)).length=k:=by simp [A0K,leB]
     unfold B4C
     rw [List.getElem?_append_right (by omega),h1,List.getElem?_replicate]
     simp;omega
    simp [World.cell?,this,hl]
   have hh2:=A0b (A0h (o:=k) (v:=.int .u8 (asU n / 2 ^ (8*k) % 256:Nat)) hh.out)
   have hc2:Hid (Chg (fun _=>False) w (wr.setCell ⟨w.heap.size,k,none⟩ (.int .u8 (asU n / 2 ^ (8*k) % 256:Nat)))):=Chg.setCell hc.out (by simp) _
   have hst:Hid ((B4C (asU n) k).toArray.setIfInBounds k (.int .u8 (asU n / 2 ^ (8*k) % 256:Nat))=(B4C (asU n) (k+1)).toArray):=by
    unfold Hid
    rcases (show k=0∨k=1∨k=2∨k=3∨k=4∨k=5∨k=6∨k=7 by omega) with rfl | rfl | rfl | rfl | rfl | rfl | rfl | rfl <;> simp [B4C,A0K,leB,List.range_succ,List.replicate]
   have e1:(asU n:Int) / 2 ^ (8*k) % 256=((asU n / 2 ^ (8*k) % 256:Nat):Int):=by push_cast;rfl
   unfold Hid at hh2
   rw [hst.out] at hh2
   have hh3:=A0b hh2
   clear hh2 hst
   obtain ⟨q,hq⟩:∃ q,asU n / 2 ^ (8*k) % 256=q:=⟨_,rfl⟩
   rw [hq] at hh3 hc2 e1
   have hq2:q<256:=by omega
   clear hq
   go_wp2
   exact ⟨⟨k+1,by omega,by go_num,hc2,hh3⟩,by simp [intOf];omega⟩
  ·obtain rfl:k=8:=by omega
   have cv:(convert 127 9 (.slice (some ⟨w.heap.size,0,none⟩) 8 8)).run Tryz.prog wr=.ok (.string ⟨(A1h n).toArray⟩) wr:=by
    have hl:(A1h n).length=8:=A0v n
    have:=run_convert_bytes_back (P:=Tryz.prog) wr 127 9 5 ⟨w.heap.size,0,none⟩ 8 (A1h n) Tryz.underlying127 Tryz.underlying5 Tryz.underlying9 (by
     intro j hj
     have hadd:(⟨w.heap.size,0,none⟩:Addr).add j=⟨w.heap.size,j,none⟩:=by unfold Addr.add;split <;> simp_all
     rw [hadd]
     have h2:=hh.out
     have h3:(B4C (asU n) 8)=A0K (A1h n):=by simp [B4C,A1h]
     rw [h3] at h2
     simp [World.cell?,h2,A0K,List.getElem?_eq_getElem hj])
    rw [hl] at this;exact this
   go_wp2
   go_ret
   exact ⟨rfl,hc.out⟩
def A2x (s:Nat):List UInt8:=(A1h s).take 4
theorem A1i (s:Nat):(A2x s).length=4:=by simp [A2x,A0v]
set_option maxRecDepth 100000 in
set_option maxHeartbeats 1000000 in
theorem A8d (w:World) (s:Nat) (hs:s<4294967296):
 Calls Tryz.prog 250 #[.int .u32 s] w fun e w'=>e=.returned (.string ⟨(A2x s).toArray⟩)∧Chg (fun _=>False) w w':=by
 have hn : -9223372036854775808≤(s:Int)∧(s:Int)≤9223372036854775807:=by omega
 have hl:=A0v s
 go_enter Tryz.func250,Tryz.ntmps250
 go_wp2_with (go_at_call 239;refine (A2h _ _ hn).mono ?_;rintro e w' ⟨rfl,hc⟩)
 go_ret
 exact ⟨by rw [A1k];simp [A2x],hc⟩
end Go.Proofs.YtodcnkbblippnaaGreatDoor
