/-
  The statement WritesUptoCardSaid is proved: the law Writes answers true for every setting and every script of at most 1048576 bytes; there is no other condition.
  Part 28 of 33.
-/
import Derived.Test.YtodcnkbblippnaaGreatDoorPart27
import Derived.Test.YtodcnkbblippnaaGreatDoorPart24
import Derived.Test.YtodcnkbblippnaaGreatDoorPart09
import Derived.Test.YtodcnkbblippnaaGreatDoorPart26
namespace Go.Proofs.YtodcnkbblippnaaGreatDoor
open Go.RowKit
attribute [local go_sem ↓] Go.wp_at_zero Go.wp_at_succ
structure WN where
 life:Int
 window:Int
 room:Int
 clock0:Int
 dv:Value
 sv:Value
 pv:Value
 safe:Int
 fell:Bool
 broken:Bool
 clock:Int
 win:Int
 dirs:Int
 tv:Value
 lv:Value
 count:Int
def A1R (n:WN):Array Value:=
 #[.int .i64 n.life,.int .i64 n.window,.int .i64 n.room,.int .i64 n.clock0,n.dv,n.sv,n.pv,.int .i64 n.safe,.bool n.fell,.bool n.broken,.int .i64 n.clock,.int .i64 n.win,.int .i64 n.dirs,n.tv,n.lv,.int .i64 n.count]
def A1b (w:World) (wb:Nat) (n:WN):Prop:=w.heap[wb]?=some (.cells (A1R n) 40 (0,0))
section
variable {w w':World} {wb:Nat} {n:WN}
theorem A1b.c0 (h:A1b w wb n):w.cell? ⟨wb,0,none⟩=some (.int .i64 n.life):=by unfold A1b at h;simp [World.cell?,h,A1R]
theorem A1b.c2 (h:A1b w wb n):w.cell? ⟨wb,2,none⟩=some (.int .i64 n.room):=by unfold A1b at h;simp [World.cell?,h,A1R]
theorem A1b.c4 (h:A1b w wb n):w.cell? ⟨wb,4,none⟩=some (n.dv):=by unfold A1b at h;simp [World.cell?,h,A1R]
theorem A1b.s4 (h:A1b w wb n) (x:Value):A1b (w.setCell ⟨wb,4,none⟩ (x)) wb { n with dv:=x }:=A0h h
theorem A1b.c5 (h:A1b w wb n):w.cell? ⟨wb,5,none⟩=some (n.sv):=by unfold A1b at h;simp [World.cell?,h,A1R]
theorem A1b.s5 (h:A1b w wb n) (x:Value):A1b (w.setCell ⟨wb,5,none⟩ (x)) wb { n with sv:=x }:=A0h h
theorem A1b.c6 (h:A1b w wb n):w.cell? ⟨wb,6,none⟩=some (n.pv):=by unfold A1b at h;simp [World.cell?,h,A1R]
theorem A1b.s6 (h:A1b w wb n) (x:Value):A1b (w.setCell ⟨wb,6,none⟩ (x)) wb { n with pv:=x }:=A0h h
theorem A1b.c7 (h:A1b w wb n):w.cell? ⟨wb,7,none⟩=some (.int .i64 n.safe):=by unfold A1b at h;simp [World.cell?,h,A1R]
theorem A1b.c8 (h:A1b w wb n):w.cell? ⟨wb,8,none⟩=some (.bool n.fell):=by unfold A1b at h;simp [World.cell?,h,A1R]
theorem A1b.s8 (h:A1b w wb n) (x:Bool):A1b (w.setCell ⟨wb,8,none⟩ (.bool x)) wb { n with fell:=x }:=A0h h
theorem A1b.c9 (h:A1b w wb n):w.cell? ⟨wb,9,none⟩=some (.bool n.broken):=by unfold A1b at h;simp [World.cell?,h,A1R]
theorem A1b.s9 (h:A1b w wb n) (x:Bool):A1b (w.setCell ⟨wb,9,none⟩ (.bool x)) wb { n with broken:=x }:=A0h h
theorem A1b.c10 (h:A1b w wb n):w.cell? ⟨wb,10,none⟩=some (.int .i64 n.clock):=by unfold A1b at h;simp [World.cell?,h,A1R]
theorem A1b.s10 (h:A1b w wb n) (x:Int):A1b (w.setCell ⟨wb,10,none⟩ (.int .i64 x)) wb { n with clock:=x }:=A0h h
theorem A1b.c11 (h:A1b w wb n):w.cell? ⟨wb,11,none⟩=some (.int .i64 n.win):=by unfold A1b at h;simp [World.cell?,h,A1R]
theorem A1b.s11 (h:A1b w wb n) (x:Int):A1b (w.setCell ⟨wb,11,none⟩ (.int .i64 x)) wb { n with win:=x }:=A0h h
theorem A1b.c14 (h:A1b w wb n):w.cell? ⟨wb,14,none⟩=some (n.lv):=by unfold A1b at h;simp [World.cell?,h,A1R]
theorem A1b.s14 (h:A1b w wb n) (x:Value):A1b (w.setCell ⟨wb,14,none⟩ (x)) wb { n with lv:=x }:=A0h h
theorem A1b.c15 (h:A1b w wb n):w.cell? ⟨wb,15,none⟩=some (.int .i64 n.count):=by unfold A1b at h;simp [World.cell?,h,A1R]
theorem A1b.s15 (h:A1b w wb n) (x:Int):A1b (w.setCell ⟨wb,15,none⟩ (.int .i64 x)) wb { n with count:=x }:=A0h h
theorem A1b.fz (h:A1b w wb n) (o:Nat):w.frozen? ⟨wb,o,none⟩=false:=by unfold A1b at h;simp [World.frozen?,h]
theorem A1b.lt (h:A1b w wb n):wb<w.heap.size:=lt_of_block h
theorem A1b.chg {S:Nat→Prop} (h:A1b w wb n) (hg:Chg S w w') (hr:¬ S wb):A1b w' wb n:=(hg.block wb h.lt hr).trans h
theorem A1b.chg0 (h:A1b w wb n) (hg:Chg (fun _=>False) w w'):A1b w' wb n:=h.chg hg (fun h=>h)
set_option maxRecDepth 100000 in
set_option maxHeartbeats 2000000 in
theorem B2N {F:Nat→FC} (w:World) (life window room clock count:Int):
 Calls Tryz.prog 16 #[.agg #[.int .i64 life,.int .i64 window,.int .i64 room,.int .i64 clock],.int .i64 count] w fun e w'=>∃ wb b,e=.returned (.pointer (some ⟨wb,0,none⟩))∧
  A1b w' wb ⟨life,window,room,clock,.pointer (some ⟨b,0,none⟩),.pointer none,.slice none 0 0,0,false,false,clock,window,0,.slice none 0 0,.slice none 0 0,count⟩∧A0R w' b ⟨[],[],[],B1L (B2K room)⟩ F (One b)∧w.heap.size≤b∧b<wb∧Chg (fun _=>False) w w':=by
 have hA:=(Chg.refl (fun _=>False) w).alloc (.cells #[.int .i64 life,.int .i64 window,.int .i64 room,.int .i64 clock] 23)
 have hbx:=heap_alloc_new w (.cells #[.int .i64 life,.int .i64 window,.int .i64 room,.int .i64 clock] 23)
 generalize hw0:(w.alloc (.cells #[.int .i64 life,.int .i64 window,.int .i64 room,.int .i64 clock] 23))=w0 at hA hbx
 have q0:w0.cell? ⟨w.heap.size,0,none⟩=some (.int .i64 life):=by simp only [World.cell?,hbx];rfl
 have q1:w0.cell? ⟨w.heap.size,1,none⟩=some (.int .i64 window):=by simp only [World.cell?,hbx];rfl
 have q2:w0.cell? ⟨w.heap.size,2,none⟩=some (.int .i64 room):=by simp only [World.cell?,hbx];rfl
 have q3:w0.cell? ⟨w.heap.size,3,none⟩=some (.int .i64 clock):=by simp only [World.cell?,hbx];rfl
 have HA:=A0b hA
 have RM:=A0b (A7o w0.drew room)
 have NW:Hid (Calls Tryz.prog 21 #[.int .i64 (B2K room)] w0.drew fun e w'=>e=.returned (.pointer (some ⟨w0.heap.size,0,none⟩))∧A0R w' w0.heap.size ⟨[],[],[],B1L (B2K room)⟩ F (One w0.heap.size)∧Chg (fun _=>False) w0.drew w'∧w'.heap.size=w0.heap.size+1):=B5Y _ _
 clear hA hbx
 go_enter Tryz.func16,Tryz.ntmps16
 go_wp2
 refine A0e (fun w'=>w'.cell? ⟨w.heap.size,0,none⟩=some (.int .i64 life)∧w'.cell? ⟨w.heap.size,1,none⟩=some (.int .i64 window)∧w'.cell? ⟨w.heap.size,2,none⟩=some (.int .i64 room)∧w'.cell? ⟨w.heap.size,3,none⟩=some (.int .i64 clock)) 11
  [(0,true),(1,true),(2,true),(5,true),(6,true),(7,true),(8,true),(9,true),(3,false),(4,false),(10,true)] (by kernel_rfl) (by kernel_rfl) (fun _ _ _ _ _ h=>h) ⟨q0,q1,q2,q3⟩ ?_
 iterate 8 (refine A0d (v:=?_) rfl (by rfl) ?_ ?_;rotate_left;(· (intro w' hS;(try dsimp only at hS);go_simp;try with_reducible rfl));(try simp only [Act.put,List.setIfInBounds_toArray,List.set_cons_zero,List.set_cons_succ,List.getElem_toArray,List.getElem_cons_zero,List.getElem_cons_succ]))
 refine A0i rfl (by rfl) (fun K hK=>?_)
 go_simp
 refine RM.out.mono ?_
 rintro e w1 ⟨rfl,rfl⟩
 refine hK _ _ ⟨q0,q1,q2,q3⟩ (fun hS=>?_)
 clear hK K hS
 (try simp only [Act.put,List.setIfInBounds_toArray,List.set_cons_zero,List.set_cons_succ,List.getElem_toArray,List.getElem_cons_zero,List.getElem_cons_succ])
 refine A0i rfl (by rfl) (fun K hK=>?_)
 go_simp
 refine NW.out.mono ?_
 rintro e w1 ⟨rfl,hd,hc,hs⟩
 refine hK _ _ ⟨hc.cellKeep q0,hc.cellKeep q1,hc.cellKeep q2,hc.cellKeep q3⟩ (fun hS=>?_)
 have HD:=A0b hd
 have HC:=A0b hc
 have HZ:=A0b hs
 clear hK K hS hd hc hs
 (try simp only [Act.put,List.setIfInBounds_toArray,List.set_cons_zero,List.set_cons_succ,List.getElem_toArray,List.getElem_cons_zero,List.getElem_cons_succ])
 (refine A0d (v:=?_) rfl (by rfl) ?_ ?_;rotate_left;(· (intro w' hS;(try dsimp only at hS);go_simp;try with_reducible rfl));(try simp only [Act.put,List.setIfInBounds_toArray,List.set_cons_zero,List.set_cons_succ,List.getElem_toArray,List.getElem_cons_zero,List.getElem_cons_succ]))
 refine A0k ?_
 simp only [List.drop_succ_cons,List.drop_zero]
 go_wp2
 go_ret
 have hA2:=(Chg.refl (fun _=>False) w1).alloc (.cells (A1R ⟨life,window,room,clock,.pointer (some ⟨w0.heap.size,0,none⟩),.pointer none,.slice none 0 0,0,false,false,clock,window,0,.slice none 0 0,.slice none 0 0,count⟩) 40)
 refine ⟨w1.heap.size,w0.heap.size,rfl,heap_alloc_new w1 _,HD.out.same (fun k hk=>by unfold One at hk;have:=HZ.out;omega) hA2,HA.out.size,by have:=HZ.out;omega,?_⟩
 exact (HA.out.trans (S':=fun _=>False) (⟨HC.out.os,HC.out.tape,HC.out.output,HC.out.size,HC.out.block⟩:Chg (fun _=>False) w0 w1) fun _ h _=>h).trans hA2 fun _ h _=>h
end
end Go.Proofs.YtodcnkbblippnaaGreatDoor
namespace Go.Proofs.YtodcnkbblippnaaGreatDoor
open Go.RowKit
def A3p:List (Value × Int)→List Value
 | []=>[]
 | (v,i):: r=>v :: .int .i64 i :: A3p r
theorem A7r (a b:List (Value × Int)):A3p (a ++ b)=A3p a ++ A3p b:=by
 induction a with
 | nil=>rfl
 | cons e r ih=>obtain ⟨v,i⟩:=e;simp [A3p,ih]
def B5J (w:World) (v:Value) (l:List (Value × Int)):Prop:=w.ownsRow 0 91 2 v l.length (A3p l)
def A4G (wb:Nat) (n:WN) (k:Nat):Prop:=k=wb∨n.pv.ownBlock=some k∨n.lv.ownBlock=some k
abbrev B3Z:=World→(Nat→Prop)→Prop
def B5w (R:B3Z):Prop:=∀ (w w':World) (S FT:Nat→Prop),R w FT→(∀ k,FT k→k<w.heap.size)→Chg S w w'→(∀ k,FT k→¬ S k)→R w' FT
structure LW (w:World) (H wb:Nat) (n:WN) (b:Nat) (life:Int) (R:B3Z) (FT:Nat→Prop) (puts:List Pu) (ls:List (Value × Int)):Prop where
 blk:A1b w wb n
 hdv:n.dv=.pointer (some ⟨b,0,none⟩)
 hlf:n.life=life
 stab:B5w R
 dsk:R w FT
 lt:∀ k,FT k→k<w.heap.size
 pts:B1r w n.pv puts
 lst:B5J w n.lv ls
 nw:∀ k,A4G wb n k→¬ FT k
 upw:∀ k,A4G wb n k→H≤k
 ups:∀ k,FT k→H≤k
section
variable {w w':World} {H wb:Nat} {n:WN} {b:Nat} {life:Int} {R R':B3Z} {FT:Nat→Prop} {puts:List Pu} {ls:List (Value × Int)}
theorem LW.other {S:Nat→Prop} (h:LW w H wb n b life R FT puts ls) (hc:Chg S w w') (h1:∀ k,A4G wb n k→¬ S k) (h2:∀ k,FT k→¬ S k):LW w' H wb n b life R FT puts ls:=
 ⟨h.blk.chg hc (h1 wb (.inl rfl)),h.hdv,h.hlf,h.stab,h.stab _ _ _ _ h.dsk h.lt hc h2,fun k hk=>Nat.lt_of_lt_of_le (h.lt k hk) hc.size,A0a h.pts fun g hg=>hc.block g (A0c h.pts hg) (h1 g (.inr (.inl hg))),A0a h.lst fun g hg=>hc.block g (A0c h.lst hg) (h1 g (.inr (.inr hg))),h.nw,h.upw,h.ups⟩
theorem LW.chg0 (h:LW w H wb n b life R FT puts ls) (hc:Chg (fun _=>False) w w'):LW w' H wb n b life R FT puts ls:=h.other hc (fun _ _ h=>h) fun _ _ h=>h
theorem LW.size (h:LW w H wb n b life R FT puts ls):H≤w.heap.size:=by
 have:=h.upw wb (.inl rfl);have:=h.blk.lt;omega
theorem LW.wlt (h:LW w H wb n b life R FT puts ls) {k:Nat} (hk:A4G wb n k):k<w.heap.size:=by
 rcases hk with rfl | hk | hk
 ·exact h.blk.lt
 ·exact A0c h.pts hk
 ·exact A0c h.lst hk
theorem LW.store (h:LW w H wb n b life R FT puts ls) (hs:B5w R') (hI:A0A w FT w' R'):Chg (Up H) w w'∧∃ FT',LW w' H wb n b life R' FT' puts ls:=by
 obtain ⟨hc,FT',h1,h2,h3⟩:=hI
 have hz:=h.size
 refine ⟨hc.mono fun x _ hx=>h.ups x hx,FT',h.blk.chg hc (h.nw wb (.inl rfl)),h.hdv,h.hlf,hs,h1,h2,?_,?_,?_,h.upw,?_⟩
 ·exact A0a h.pts fun g hg=>hc.block g (A0c h.pts hg) (h.nw g (.inr (.inl hg)))
 ·exact A0a h.lst fun g hg=>hc.block g (A0c h.lst hg) (h.nw g (.inr (.inr hg)))
 ·intro k hk hx
  rcases h3 k hx with hy | hy
  ·exact h.nw k hk hy
  ·have:=h.wlt hk;omega
 ·intro k hk
  rcases h3 k hk with hy | hy
  ·exact h.ups k hy
  ·exact Nat.le_trans hz hy
theorem LW.wne_p (h:LW w H wb n b life R FT puts ls):n.pv.ownBlock≠some wb:=fun e=>by
 obtain ⟨c,hh⟩:=A0f h.pts e
 have:=h.blk;unfold A1b at this
 rw [hh] at this;cases this
theorem LW.wne_l (h:LW w H wb n b life R FT puts ls):n.lv.ownBlock≠some wb:=fun e=>by
 obtain ⟨c,hh⟩:=A0f h.lst e
 have:=h.blk;unfold A1b at this
 rw [hh] at this;cases this
theorem LW.pne_l (h:LW w H wb n b life R FT puts ls) {g:Nat} (hp:n.pv.ownBlock=some g):n.lv.ownBlock≠some g:=fun e=>by
 obtain ⟨c,hh⟩:=A0f h.lst e
 obtain ⟨c',hh'⟩:=A0f h.pts hp
 rw [hh] at hh';cases hh'
theorem LW.cell {n':WN} (h:LW w H wb n b life R FT puts ls) (o:Nat) (u:Value) (hb:A1b (w.setCell ⟨wb,o,none⟩ u) wb n') (e1:n'.dv=n.dv) (e4:n'.life=n.life) (e6:n'.pv=n.pv) (e7:n'.lv=n.lv):
 Chg (Up H) w (w.setCell ⟨wb,o,none⟩ u)∧LW (w.setCell ⟨wb,o,none⟩ u) H wb n' b life R FT puts ls:=by
 have hc:=(Chg.refl (One wb) w).setAt (b:=wb) rfl o u
 have hf:∀ k,A4G wb n' k→A4G wb n k:=fun k hk=>by unfold A4G at hk ⊢;rwa [e6,e7] at hk
 refine ⟨hc.mono fun x _ e=>by cases e;exact h.upw _ (.inl rfl),hb,e1.trans h.hdv,e4.trans h.hlf,h.stab,h.stab _ _ _ _ h.dsk h.lt hc (fun k hk e=>h.nw wb (.inl rfl) (by cases e;exact hk)),fun k hk=>Nat.lt_of_lt_of_le (h.lt k hk) hc.size,?_,?_,fun k hk=>h.nw k (hf k hk),fun k hk=>h.upw k (hf k hk),h.ups⟩
 ·rw [e6]
  exact A0a h.pts fun g hg=>hc.block g (A0c h.pts hg) fun e=>h.wne_p (by cases e;exact hg)
 ·rw [e7]
  exact A0a h.lst fun g hg=>hc.block g (A0c h.lst hg) fun e=>h.wne_l (by cases e;exact hg)
theorem LW.newPts {v':Value} {puts':List Pu} (h:LW w H wb n b life R FT puts ls) (hp:B1r w v' puts') (hf:∀ g,v'.ownBlock=some g→H≤g∧¬ FT g):
 Chg (Up H) w (w.setCell ⟨wb,6,none⟩ v')∧LW (w.setCell ⟨wb,6,none⟩ v') H wb { n with pv:=v' } b life R FT puts' ls:=by
 have hc:=(Chg.refl (One wb) w).setAt (b:=wb) rfl 6 v'
 have hvw:v'.ownBlock≠some wb:=fun e=>by
  obtain ⟨c,hh⟩:=A0f hp e
  have:=h.blk;unfold A1b at this
  rw [hh] at this;cases this
 refine ⟨hc.mono fun x _ e=>by cases e;exact h.upw _ (.inl rfl),h.blk.s6 v',h.hdv,h.hlf,h.stab,h.stab _ _ _ _ h.dsk h.lt hc (fun k hk e=>h.nw wb (.inl rfl) (by cases e;exact hk)),fun k hk=>Nat.lt_of_lt_of_le (h.lt k hk) hc.size,?_,?_,?_,?_,h.ups⟩
 ·exact A0a hp fun g hg=>hc.block g (A0c hp hg) fun e=>hvw (by cases e;exact hg)
 ·exact A0a h.lst fun g hg=>hc.block g (A0c h.lst hg) fun e=>h.wne_l (by cases e;exact hg)
 ·rintro k (rfl | hk | hk)
  ·exact h.nw _ (.inl rfl)
  ·exact (hf k hk).2
  ·exact h.nw k (.inr (.inr hk))
 ·rintro k (rfl | hk | hk)
  ·exact h.upw _ (.inl rfl)
  ·exact (hf k hk).1
  ·exact h.upw k (.inr (.inr hk))
theorem App.chgOwn {e size:Nat} {v v':Value} {n:Nat} {xs:List Value} (h:App w w' e size v v' n xs):Chg (fun k=>v.ownBlock=some k) w w':=(Chg.refl _ w).grown h.grown fun _ e _=>e
theorem LW.ptsApp {v':Value} {p:Pu} (h:LW w H wb n b life R FT puts ls) (hA:App w w' 141 3 n.pv v' (puts.length+1) (A0x puts ++ A0x [p])):
 w'.cell? ⟨wb,6,none⟩=some n.pv∧w'.frozen? ⟨wb,6,none⟩=false∧Chg (Up H) w (w'.setCell ⟨wb,6,none⟩ v')∧LW (w'.setCell ⟨wb,6,none⟩ v') H wb { n with pv:=v' } b life R FT (puts ++ [p]) ls:=by
 have hc:=hA.chgOwn
 have hwb:A1b w' wb n:=h.blk.chg hc h.wne_p
 have hc2:=(Chg.refl (One wb) w').setAt (b:=wb) rfl 6 v'
 have hlt':∀ k,FT k→k<w'.heap.size:=fun k hk=>Nat.lt_of_lt_of_le (h.lt k hk) hc.size
 have hst:R w' FT:=h.stab _ _ _ _ h.dsk h.lt hc fun k hk e=>h.nw k (.inr (.inl e)) hk
 have hls:B5J w' n.lv ls:=A0a h.lst fun g hg=>hc.block g (A0c h.lst hg) fun e=>h.pne_l e hg
 have hown:B1r w' v' (puts ++ [p]):=by
  unfold B1r
  have:=hA.own
  rw [← A0Y] at this
  simpa using this
 have hvw:v'.ownBlock≠some wb:=fun e=>by
  obtain ⟨c,hh⟩:=A0f hown e
  unfold A1b at hwb;rw [hh] at hwb;cases hwb
 have hsz:=h.size
 have hH:∀ g,v'.ownBlock=some g→H≤g∧¬ FT g:=fun g hg=>by
  rcases hA.at_ with e | e
  ·rw [e] at hg;exact ⟨h.upw g (.inr (.inl hg)),h.nw g (.inr (.inl hg))⟩
  ·rw [e] at hg;cases hg
   exact ⟨hsz,fun hx=>by have:=h.lt _ hx;omega⟩
 refine ⟨hwb.c6,hwb.fz 6,(hc.mono fun x _ e=>h.upw x (.inr (.inl e))).setAt (h.upw wb (.inl rfl)) 6 _,⟨hwb.s6 v',h.hdv,h.hlf,h.stab,h.stab _ _ _ _ hst hlt' hc2 (fun k hk e=>h.nw wb (.inl rfl) (by cases e;exact hk)),fun k hk=>Nat.lt_of_lt_of_le (hlt' k hk) hc2.size,?_,?_,?_,?_,h.ups⟩⟩
 ·exact A0a hown fun g hg=>Below.heap_setCell _ _ _ _ fun e=>hvw (by rw [hg];congr 1)
 ·exact A0a hls fun g hg=>Below.heap_setCell _ _ _ _ fun e=>h.wne_l (by rw [hg];congr 1)
 ·rintro k (rfl | hk | hk)
  ·exact h.nw _ (.inl rfl)
  ·exact (hH k hk).2
  ·exact h.nw k (.inr (.inr hk))
 ·rintro k (rfl | hk | hk)
  ·exact h.upw _ (.inl rfl)
  ·exact (hH k hk).1
  ·exact h.upw k (.inr (.inr hk))
theorem LW.lstApp {v':Value} {p:Value × Int} (h:LW w H wb n b life R FT puts ls) (hA:App w w' 91 2 n.lv v' (ls.length+1) (A3p ls ++ A3p [p])):
 w'.cell? ⟨wb,14,none⟩=some n.lv∧w'.frozen? ⟨wb,14,none⟩=false∧Chg (fun k=>k=wb∨n.lv.ownBlock=some k) w (w'.setCell ⟨wb,14,none⟩ v')∧LW (w'.setCell ⟨wb,14,none⟩ v') H wb { n with lv:=v' } b life R FT puts (ls ++ [p])∧(v'.ownBlock=n.lv.ownBlock∨v'.ownBlock=some w.heap.size):=by
 have hc:=hA.chgOwn
 have hwb:A1b w' wb n:=h.blk.chg hc h.wne_l
 have hc2:=(Chg.refl (One wb) w').setAt (b:=wb) rfl 14 v'
 have hlt':∀ k,FT k→k<w'.heap.size:=fun k hk=>Nat.lt_of_lt_of_le (h.lt k hk) hc.size
 have hst:R w' FT:=h.stab _ _ _ _ h.dsk h.lt hc fun k hk e=>h.nw k (.inr (.inr e)) hk
 have hps:B1r w' n.pv puts:=A0a h.pts fun g hg=>hc.block g (A0c h.pts hg) fun e=>h.pne_l hg e
 have hown:B5J w' v' (ls ++ [p]):=by
  unfold B5J
  have:=hA.own
  rw [← A7r] at this
  simpa using this
 have hvw:v'.ownBlock≠some wb:=fun e=>by
  obtain ⟨c,hh⟩:=A0f hown e
  unfold A1b at hwb;rw [hh] at hwb;cases hwb
 have hsz:=h.size
 have hH:∀ g,v'.ownBlock=some g→H≤g∧¬ FT g:=fun g hg=>by
  rcases hA.at_ with e | e
  ·rw [e] at hg;exact ⟨h.upw g (.inr (.inr hg)),h.nw g (.inr (.inr hg))⟩
  ·rw [e] at hg;cases hg
   exact ⟨hsz,fun hx=>by have:=h.lt _ hx;omega⟩
 refine ⟨hwb.c14,hwb.fz 14,(hc.mono (S':=fun k=>k=wb∨n.lv.ownBlock=some k) fun x _ e=>.inr e).setAt (.inl rfl) 14 _,⟨hwb.s14 v',h.hdv,h.hlf,h.stab,h.stab _ _ _ _ hst hlt' hc2 (fun k hk e=>h.nw wb (.inl rfl) (by cases e;exact hk)),fun k hk=>Nat.lt_of_lt_of_le (hlt' k hk) hc2.size,?_,?_,?_,?_,h.ups⟩,hA.at_⟩
 ·exact A0a hps fun g hg=>Below.heap_setCell _ _ _ _ fun e=>h.wne_p (by rw [hg];congr 1)
 ·exact A0a hown fun g hg=>Below.heap_setCell _ _ _ _ fun e=>hvw (by rw [hg];congr 1)
 ·rintro k (rfl | hk | hk)
  ·exact h.nw _ (.inl rfl)
  ·exact h.nw k (.inr (.inl hk))
  ·exact (hH k hk).2
 ·rintro k (rfl | hk | hk)
  ·exact h.upw _ (.inl rfl)
  ·exact h.upw k (.inr (.inl hk))
  ·exact (hH k hk).1
end
def KD (b:Nat) (P:PD):B3Z:=fun w FT=>A1A w b P FT
def KS (sb ab b:Nat) (life win clock:Int) (ro:Bool) (L:Nat→List Pt) (A:Ar) (P:PD):B3Z:=fun w FT=>SF w sb ab b 0 life win clock ro L A P FT
theorem KD.stab (b:Nat) (P:PD):B5w (KD b P):=fun _ _ _ _ h hl hc hn=>A1A.frame h fun k hk=>hc.block k (hl k hk) (hn k hk)
theorem KS.stab (sb ab b:Nat) (life win clock:Int) (ro:Bool) (L:Nat→List Pt) (A:Ar) (P:PD):B5w (KS sb ab b life win clock ro L A P):=fun w w' S FT h hl hc hn=>by
 obtain ⟨lv,F0,h1,h2⟩:=h
 exact ⟨lv,F0,h1.chg hc fun k hk=>hn k (h2 k hk),h2⟩
theorem SF.dk {w:World} {sb ab b:Nat} {mu life win clock:Int} {ro:Bool} {L:Nat→List Pt} {A:Ar} {P:PD} {FT:Nat→Prop} (h:SF w sb ab b mu life win clock ro L A P FT):∃ Ft,A1A w b P Ft∧(∀ k,Ft k→k<w.heap.size)∧∀ k,Ft k→FT k:=by
 obtain ⟨lv,F0,h1,h2⟩:=h
 obtain ⟨xb,jb,sv,ov,l,jo,Ft,h3,h4⟩:=h1.ar
 exact ⟨Ft,h3.dk,h3.lt,fun k hk=>h2 k (.inl (h4 k (.inl hk)))⟩
end Go.Proofs.YtodcnkbblippnaaGreatDoor
namespace Go.Proofs.YtodcnkbblippnaaGreatDoor
open Go.RowKit
attribute [local go_sem ↓] Go.wp_at_zero Go.wp_at_succ
theorem Chg.newer {S:Nat→Prop} {a b c:World} (h:Chg (fun _=>False) a b) (k:Chg S b c) (hs:∀ x,S x→a.heap.size≤x):Chg (fun _=>False) a c:=h.trans k fun x hx hlt=>by have:=hs x hx;omega
section
variable {w w':World} {wb:Nat} {n:WN} {b:Nat} {D:DS} {F:Nat→FC} {Ft:Nat→Prop}
set_option maxRecDepth 100000 in
set_option maxHeartbeats 2000000 in
theorem A6j (w:World) (h:A1b w wb n) (hd:n.dv=.pointer (some ⟨b,0,none⟩)) (hr:A0R w b D F Ft) (hlt:∀ k,Ft k→k<w.heap.size):
 Calls Tryz.prog 48 #[.pointer (some ⟨wb,0,none⟩)] w fun e w'=>e=.returned (.agg #[.int .i64 D.n.refused,.int .i64 D.n.fulls])∧Chg (fun _=>False) w w':=by
 have hA:=(Chg.refl (fun _=>False) w).alloc (.cells #[.int .i64 0,.int .i64 0] 85)
 have hbx:=heap_alloc_new w (.cells #[.int .i64 0,.int .i64 0] 85)
 have c4:=(h.chg0 hA).c4
 rw [hd] at c4
 have hr1:=hr.same hlt hA
 have hwl:=h.lt
 generalize hw0:(w.alloc (.cells #[.int .i64 0,.int .i64 0] 85))=w0 at hA hbx c4 hr1
 have RF:=A0b (A7t hr1.drew)
 have FU:=A0b (B5u hr1.drew)
 obtain ⟨rf,hrf⟩:∃ rf,D.n.refused=rf:=⟨_,rfl⟩
 obtain ⟨fu,hfu⟩:∃ fu,D.n.fulls=fu:=⟨_,rfl⟩
 rw [hrf] at RF ⊢
 rw [hfu] at FU ⊢
 have HA:=A0b hA
 have HB:=A0b hbx
 have r0:w0.cell? ⟨w.heap.size,0,none⟩=some (.int .i64 0):=by simp only [World.cell?,hbx];rfl
 have r1:w0.cell? ⟨w.heap.size,1,none⟩=some (.int .i64 0):=by simp only [World.cell?,hbx];rfl
 have f0:w0.frozen? ⟨w.heap.size,0,none⟩=false:=by simp [World.frozen?,hbx]
 have f1:w0.frozen? ⟨w.heap.size,1,none⟩=false:=by simp [World.frozen?,hbx]
 clear h hd hr hlt hA hbx hr1 hrf hfu
 go_enter Tryz.func48,Tryz.ntmps48
 go_wp2
 refine A0e (fun w'=>w'.cell? ⟨wb,4,none⟩=some (.pointer (some ⟨b,0,none⟩))) 11
  [(0,true),(1,true),(2,true),(3,true),(5,true),(6,true),(7,true),(8,true),(4,false),(9,false),(10,true)] (by kernel_rfl) (by kernel_rfl) (fun _ _ _ _ _ h=>h) c4 ?_
 iterate 8 (refine A0d (v:=?_) rfl (by rfl) ?_ ?_;rotate_left;(· (intro w' hS;(try dsimp only at hS);go_simp;try with_reducible rfl));(try simp only [Act.put,List.setIfInBounds_toArray,List.set_cons_zero,List.set_cons_succ,List.getElem_toArray,List.getElem_cons_zero,List.getElem_cons_succ]))
 refine A0i rfl (by rfl) (fun K hK=>?_)
 go_simp
 refine RF.out.mono ?_
 rintro e w1 ⟨rfl,rfl⟩
 refine hK _ _ c4 (fun hS=>?_)
 clear hK K hS
 (try simp only [Act.put,List.setIfInBounds_toArray,List.set_cons_zero,List.set_cons_succ,List.getElem_toArray,List.getElem_cons_zero,List.getElem_cons_succ])
 refine A0i rfl (by rfl) (fun K hK=>?_)
 go_simp
 refine FU.out.mono ?_
 rintro e w1 ⟨rfl,rfl⟩
 refine hK _ _ c4 (fun hS=>?_)
 clear hK K hS
 (try simp only [Act.put,List.setIfInBounds_toArray,List.set_cons_zero,List.set_cons_succ,List.getElem_toArray,List.getElem_cons_zero,List.getElem_cons_succ])
 (refine A0d (v:=?_) rfl (by rfl) ?_ ?_;rotate_left;(· (intro w' hS;(try dsimp only at hS);go_simp;try with_reducible rfl));(try simp only [Act.put,List.setIfInBounds_toArray,List.set_cons_zero,List.set_cons_succ,List.getElem_toArray,List.getElem_cons_zero,List.getElem_cons_succ]))
 refine A0k ?_
 simp only [List.drop_succ_cons,List.drop_zero]
 go_wp2
 have hk:Chg (fun _=>False) w ((w0.setCell ⟨w.heap.size,0,none⟩ (.int .i64 rf)).setCell ⟨w.heap.size,1,none⟩ (.int .i64 fu)):=by
  have k:∀ (p:Addr),p.block=w.heap.size→p.block<w.heap.size→False:=fun p e h=>by omega
  exact (HA.out.setCell (k _ rfl) _).setCell (k _ rfl) _
 have hh:((w0.setCell ⟨w.heap.size,0,none⟩ (.int .i64 rf)).setCell ⟨w.heap.size,1,none⟩ (.int .i64 fu)).heap[w.heap.size]?=some (.cells #[.int .i64 rf,.int .i64 fu] 85 (0,0)):=A0h (A0h HB.out)
 generalize ((w0.setCell ⟨w.heap.size,0,none⟩ (.int .i64 rf)).setCell ⟨w.heap.size,1,none⟩ (.int .i64 fu))=w2 at hk hh ⊢
 have d0:w2.cell? ⟨w.heap.size,0,none⟩=some (.int .i64 rf):=by simp [World.cell?,hh]
 have d1:w2.cell? ⟨w.heap.size,1,none⟩=some (.int .i64 fu):=by simp [World.cell?,hh]
 refine bodyPost_ret (v:=.agg #[.int .i64 rf,.int .i64 fu]) (by simp [results,Tryz.results48,go_sem,d0,d1]) rfl ⟨rfl,hk.drew⟩
end
section
variable {H wb sb ab b:Nat} {n:WN} {life win clock:Int} {ro:Bool} {L:Nat→List Pt} {A:Ar} {P:PD} {FT:Nat→Prop} {puts:List Pu} {ls:List (Value × Int)}
set_option maxRecDepth 100000 in
set_option maxHeartbeats 4000000 in
theorem B3J (w:World) (m:Nat) (h:LW w H wb n b life (KS sb ab b life win clock ro L A P) FT puts ls) (hsv:n.sv=.pointer (some ⟨sb,0,none⟩)) (hbr:n.broken=ro) (hck:n.clock=clock)
 (hm:m≤puts.length) (hpl:puts.length<1099511627776) (hpi:∀ p∈puts,A0P p.2.1) (hLL:∀ k,k<8→(L k).length<1099511627776) (hl:1≤life∧life≤4611686018427387904) (hc:A0P clock):
 Calls Tryz.prog 89 #[.pointer (some ⟨wb,0,none⟩),.int .i64 m] w fun e w'=>∃ t,e=.returned (.bool t)∧(t=true↔A9D L (puts.take m) life clock)∧Chg (fun _=>False) w w':=by
 obtain ⟨lv,F0,hs0,-⟩:=h.dsk
 have hs:=hs0.blk
 have hr:=hs0.rows
 have c5:=h.blk.c5
 rw [hsv] at c5
 have ST:=A0b (A8i w hs)
 have HW:=A0b h.blk
 have hp:=h.pts
 have hlf:=h.hlf
 have QU:Hid (∀ w' (k:Nat),Chg (fun _=>False) w w'→k<8→_):=fun w' k hw hk=>A5v w' k (-9223372036854775808) 9223372036854775807 (hs.chg hw (fun h=>h)) (hr.chg hw (fun _ _ h=>h)) hk hl hc
 have hpw:∀ w',Chg (fun _=>False) w w'→B1r w' n.pv puts:=fun w' hw=>A0a hp fun g hg=>hw.block g (A0c hp hg) (fun h=>h)
 have RQ:Hid (∀ w' (k:Nat),Chg (fun _=>False) w w'→_):=fun w' k hw=>A8G w' n.pv puts m (hpw w' hw) hm hpl hpi k (-9223372036854775808) 9223372036854775807 life clock hl hc
 have HLN:Hid (∀ k:Nat,(A4r (puts.take m) k (-9223372036854775808) 9223372036854775807 life clock).length<1099511627776):=fun k=>by
  have:=A9G (puts.take m) k (-9223372036854775808) 9223372036854775807 life clock
  rw [List.length_take] at this;omega
 have HLP:Hid (∀ k:Nat,k<8→(A1Z (L k) (max (-9223372036854775808) (A0m clock life)) 9223372036854775807).length<1099511627776):=fun k hk=>Nat.lt_of_le_of_lt (List.length_filter_le _ _) (hLL k hk)
 have HT:Hid ((∀ k:Nat,k<8→A1Z (L k) (max (-9223372036854775808) (A0m clock life)) 9223372036854775807=A4r (puts.take m) k (-9223372036854775808) 9223372036854775807 life clock)↔A9D L (puts.take m) life clock):=Iff.rfl
 clear h hs hr hp hpw hpi hl hc hs0 hLL
 go_enter Tryz.func89,Tryz.ntmps89
 go_wp2_with (go_at_call 38;refine ST.out.mono ?_;rintro e w1 ⟨rfl,hc1⟩;have HC1:=A0b hc1;clear hc1)
 have hA2:Chg (fun _=>False) w (w1.alloc (.cells #[.bool ro,.int .i64 clock] 74)):=HC1.out.alloc _
 have hbx:=heap_alloc_new w1 (.cells #[.bool ro,.int .i64 clock] 74)
 have d0:(w1.alloc (.cells #[.bool ro,.int .i64 clock] 74)).cell? ⟨w1.heap.size,0,none⟩=some (.bool ro):=by simp only [World.cell?,hbx];rfl
 have d1:(w1.alloc (.cells #[.bool ro,.int .i64 clock] 74)).cell? ⟨w1.heap.size,1,none⟩=some (.int .i64 clock):=by simp only [World.cell?,hbx];rfl
 clear hbx
 generalize (w1.alloc (.cells #[.bool ro,.int .i64 clock] 74))=w2 at hA2 d0 d1 ⊢
 have b9:=(HW.out.chg0 hA2).c9
 rw [hbr] at b9
 have b10:=(HW.out.chg0 hA2).c10
 rw [hck] at b10
 have HC2:=A0b hA2
 clear hA2 HC1 ST
 refine A0e (fun w'=>w'.cell? ⟨w1.heap.size,0,none⟩=some (.bool ro)∧w'.cell? ⟨w1.heap.size,1,none⟩=some (.int .i64 clock)∧w'.cell? ⟨wb,9,none⟩=some (.bool ro)∧w'.cell? ⟨wb,10,none⟩=some (.int .i64 clock)) 15
  [(0,true),(1,true),(2,true),(3,true),(4,true),(5,true),(6,true),(7,true),(8,true),(9,true),(10,true),(11,true),(12,true),(13,true),(14,true)] (by kernel_rfl) (by kernel_rfl) (fun _ _ _ _ _ h=>h) ⟨d0,d1,b9,b10⟩ ?_
 iterate 15 (refine A0d (v:=?_) rfl (by rfl) ?_ ?_;rotate_left;(· (intro w' hS;(try dsimp only at hS);go_simp;try with_reducible rfl));(try simp only [Act.put,List.setIfInBounds_toArray,List.set_cons_zero,List.set_cons_succ,List.getElem_toArray,List.getElem_cons_zero,List.getElem_cons_succ]))
 refine A0k ?_
 simp only [List.drop_succ_cons,List.drop_zero]
 go_wp2
 clear d0 d1 b9 b10
 have HC3:Hid (Chg (fun _=>False) w w2.drew):=HC2.out.drew
 go_loopw [6] (fun iv wr=>∃ k:Nat,k≤8∧iv=.int .i64 k∧Hid (Chg (fun _=>False) w wr)∧Hid (∀ i:Nat,i<k→A1Z (L i) (max (-9223372036854775808) (A0m clock life)) 9223372036854775807=A4r (puts.take m) i (-9223372036854775808) 9223372036854775807 life clock)) (fun iv _=>8 - (intOf iv).toNat)
 case atStart=>exact ⟨0,by omega,rfl,HC3.out,fun i hi=>absurd hi (Nat.not_lt_zero _)⟩
 case round=>
  obtain ⟨k,hk,rfl,hcw,hE⟩:=hrel
  obtain ⟨w0,hw0⟩:∃ w0,w0=wr:=⟨_,rfl⟩
  subst hw0
  have k0:(0:Int)≤(k:Int):=Int.natCast_nonneg _
  by_cases hlk:k<8
  ·have k1:(k:Int)<8:=by omega
   have e5:=(HW.out.chg0 hcw.out).c5
   rw [hsv] at e5
   have QK:=A0b (QU.out w0 k hcw.out hlk)
   obtain ⟨pk,hpk⟩:∃ pk,A1Z (L k) (max (-9223372036854775808) (A0m clock life)) 9223372036854775807=pk:=⟨_,rfl⟩
   have hpkl:=HLP.out k hlk
   rw [hpk] at QK hpkl
   have HPL:=A0b hpkl
   clear QU HC3 HC2 c5 hpkl HLP
   go_wp2_with (go_at_call 37;refine QK.out.mono ?_;rintro e w3 ⟨v,rfl,hv,hc3,hfr⟩;have HV:=A0b hv;have HC3:Hid (Chg (fun _=>False) w w3):=hcw.out.trans hc3 (fun _ h _=>h);clear hv hc3 hfr)
   have g6:=(HW.out.chg0 HC3.out).c6
   have g0:=(HW.out.chg0 HC3.out).c0
   rw [hlf] at g0
   have g10:=(HW.out.chg0 HC3.out).c10
   rw [hck] at g10
   have RK:=A0b (RQ.out w3.drew k HC3.out.drew)
   obtain ⟨rk,hrk⟩:∃ rk,A4r (puts.take m) (k:Int) (-9223372036854775808) 9223372036854775807 life clock=rk:=⟨_,rfl⟩
   have hrkl:=HLN.out k
   rw [hrk] at RK hrkl
   have HRL:=A0b hrkl
   clear RQ hrkl
   refine A0e (fun w'=>w'.cell? ⟨wb,6,none⟩=some n.pv∧w'.cell? ⟨wb,0,none⟩=some (.int .i64 life)∧w'.cell? ⟨wb,10,none⟩=some (.int .i64 clock)) 16
    [(0,true),(1,true),(2,true),(3,true),(4,true),(5,true),(6,true),(7,true),(8,true),(9,true),(10,true),(11,true),(12,true),(13,true),(14,true),(15,false)] (by kernel_rfl) (by kernel_rfl) (fun _ _ _ _ _ h=>h) ⟨g6,g0,g10⟩ ?_
   iterate 15 (refine A0d (v:=?_) rfl (by rfl) ?_ ?_;rotate_left;(· (intro w' hS;(try dsimp only at hS);go_simp;try with_reducible rfl));(try simp only [Act.put,List.setIfInBounds_toArray,List.set_cons_zero,List.set_cons_succ,List.getElem_toArray,List.getElem_cons_zero,List.getElem_cons_succ]))
   refine A0i rfl (by rfl) (fun K hK=>?_)
   go_simp
   refine RK.out.mono ?_
   rintro e w4 ⟨v2,rfl,hv2,hc4,hfr4⟩
   refine hK _ _ ⟨hc4.cellKeep g6,hc4.cellKeep g0,hc4.cellKeep g10⟩ (fun hS=>?_)
   have HC4:Hid (Chg (fun _=>False) w w4):=HC3.out.drew.trans hc4 (fun _ h _=>h)
   have HSM:Hid (Calls Tryz.prog 93 #[v,v2] w4 fun e w'=>e=.returned (.bool (decide (pk=rk)))∧Chg (fun _=>False) w4 w'):=by
    have hva:A2r w4 v _:=A0a HV.out fun g hg=>hc4.block g (A0c HV.out hg) (fun h=>h)
    exact A9U w4 v v2 _ _ hva hv2 HPL.out HRL.out
   clear hK K hS hv2 hc4 hfr4 HV RK QK g6 g0 g10 e5
   (try simp only [Act.put,List.setIfInBounds_toArray,List.set_cons_zero,List.set_cons_succ,List.getElem_toArray,List.getElem_cons_zero,List.getElem_cons_succ])
   refine A0k ?_
   simp only [List.drop_succ_cons,List.drop_zero]
   by_cases hpr:pk=rk
   ·have HSM2:Hid (Calls Tryz.prog 93 #[v,v2] w4 fun e w'=>e=.returned (.bool true)∧Chg (fun _=>False) w4 w'):=by
     have:=HSM.out
     rw [decide_eq_true hpr] at this;exact this
    have NEX:Hid (∀ i:Nat,i<k+1→A1Z (L i) (max (-9223372036854775808) (A0m clock life)) 9223372036854775807=A4r (puts.take m) i (-9223372036854775808) 9223372036854775807 life clock):=fun i hi=>by
     by_cases e:i=k
     ·subst e;rw [hpk,hrk];exact hpr
     ·exact hE.out i (by omega)
    clear HSM hpr hpk hrk hE
    go_wp2_with (go_at_call 93;refine HSM2.out.mono ?_;rintro e w5 ⟨rfl,hc5⟩;have HC5:Hid (Chg (fun _=>False) w w5):=HC4.out.trans hc5 (fun _ h _=>h);clear hc5)
    go_roundw
    case rel=>exact ⟨k+1,by omega,by go_num,HC5.out,NEX.out⟩
    case measure=>simp [intOf];omega
   ·have HSM2:Hid (Calls Tryz.prog 93 #[v,v2] w4 fun e w'=>e=.returned (.bool false)∧Chg (fun _=>False) w4 w'):=by
     have:=HSM.out
     rw [decide_eq_false hpr] at this;exact this
    have NO:Hid (¬ A9D L (puts.take m) life clock):=fun hT=>hpr (by rw [← hpk,← hrk];exact HT.out.2 hT k hlk)
    clear HSM hpr hpk hrk hE
    go_wp2_with (go_at_call 93;refine HSM2.out.mono ?_;rintro e w5 ⟨rfl,hc5⟩;have HC5:Hid (Chg (fun _=>False) w w5):=HC4.out.trans hc5 (fun _ h _=>h);clear hc5)
    go_ret
    exact ⟨false,rfl,⟨fun h=>(by cases h),fun hT=>absurd hT NO.out⟩,HC5.out⟩
  ·obtain rfl:k=8:=by omega
   have YES:Hid (A9D L (puts.take m) life clock):=HT.out.1 hE.out
   clear QU RQ HC3 HC2 c5 hE
   go_wp2
   go_ret
   exact ⟨true,rfl,⟨fun _=>YES.out,fun _=>rfl⟩,hcw.out⟩
theorem B0O:(Tryz.prog.info? 141).map (fun i=>(i.zero,i.size,i.bytes))=some (some (.agg #[.int .i64 0,.int .i64 0,.int .i64 0]),3,24):=by kernel_rfl
set_option maxRecDepth 100000 in
set_option maxHeartbeats 8000000 in
theorem B1N (w:World) (h:LW w H wb n b life (KS sb ab b life win clock ro L A P) FT puts ls) (hsv:n.sv=.pointer (some ⟨sb,0,none⟩)) (hbr:n.broken=ro) (hck:n.clock=clock) {n0 safe:Nat} (hsafe:n.safe=safe) (h0:safe≤n0∧n0≤puts.length) (hfell:n.fell=false→n0=puts.length)
 (hT:A9D L (puts.take n0) life clock) (hpl:puts.length<1099511627776) (hpi:∀ p∈puts,A0P p.2.1) (hLL:∀ k,k<8→(L k).length<1099511627776) (hl:1≤life∧life≤4611686018427387904) (hc:A0P clock):
 Calls Tryz.prog 52 #[.pointer (some ⟨wb,0,none⟩)] w fun e w'=>e=.returned (.bool true)∧Chg (Up H) w w'∧∃ m pv,n0≤m∧m≤puts.length∧A9D L (puts.take m) life clock∧LW w' H wb { n with fell:=false,pv:=pv } b life (KS sb ab b life win clock ro L A P) FT (puts.take m) ls:=by
 obtain ⟨h01,h02⟩:=h0
 have TO:Hid (∀ w',Chg (fun _=>False) w w'→∀ m:Nat,m≤puts.length→_):=fun w' hw m hm=>B3J w' m (h.chg0 hw) hsv hbr hck hm hpl hpi hLL hl hc
 obtain ⟨ap,cp,hpv,hcap1,hcap2,hgg⟩:=h.pts.form
 unfold maxLen at hcap2
 obtain ⟨i0,hi,hz0,hz1,hz2⟩:=info_parts B0O
 have c6:=h.blk.c6
 rw [hpv] at c6
 have SR:Hid (∀ m,m≤puts.length→∀ w',Chg (fun _=>False) w w'→Src Tryz.prog 3 37 (.slice ap m cp) m (A0x (puts.take m)) w'):=fun m hm w' hw=>by
  have hp':=A0a h.pts fun g hg=>hw.block g (A0c h.pts hg) (fun h=>h)
  rw [hpv] at hp'
  by_cases e:m=puts.length
  ·subst e
   rw [List.take_length]
   exact Src.ofOwn Tryz.underlying37 hp' (A0G _)
  ·obtain ⟨a2,c2,q1,q2,q3,q4,-⟩:=A0g hp'
   cases q1
   obtain ⟨g,rfl⟩:=q4 (by omega)
   have:=Src.ofPart Tryz.underlying37 hp' (A0G _) 0 m cp (by omega)
   rw [Nat.zero_mul,List.drop_zero,A9a] at this
   exact this
 obtain ⟨M,hM⟩:∃ M,puts.length=M:=⟨_,rfl⟩
 have HLT:=A0b h
 have HM:=A0b hM
 have HT:=A0b hT
 rw [hM] at TO SR hcap1 c6 hpl h02
 have HF:=A0b hfell
 have c8:=h.blk.c8
 have c7:=h.blk.c7
 rw [hsafe] at c7
 obtain ⟨fl,hfl⟩:∃ fl,n.fell=fl:=⟨_,rfl⟩
 rw [hfl] at c8
 have HFL:=A0b hfl
 have H01:=A0b h01
 have H02:=A0b h02
 clear h hT hpi hM hpv hgg hfell hLL hl hc hfl h01 h02
 have NUM:Hid (∀ m':Nat,n0≤m'→m'<M→wrap64 (m':Int)=(m':Int)∧¬ ((m':Int)<(safe:Int))∧wrap64 (((m'+1:Nat):Int) - 1)=(m':Int)):=fun m' h1 h2=>by
  have h3:=H01.out
  refine ⟨by unfold wrap64;omega,by omega,by unfold wrap64;omega⟩
 go_enter Tryz.func52,Tryz.ntmps52
 go_wp2
 go_loopw [3] (fun nv wr=>∃ m:Nat,nv=.int .i64 m∧Hid (n0≤m∧m≤M∧Chg (fun _=>False) w wr)) (fun nv _=>(intOf nv).toNat)
 case atStart=>exact ⟨M,rfl,H02.out,Nat.le_refl _,Chg.refl _ _⟩
 case round=>
  obtain ⟨m,rfl,hI⟩:=hrel
  have TM:=A0b (TO.out wr hI.out.2.2 m hI.out.2.1)
  have m0:(0:Int)≤(m:Int):=Int.natCast_nonneg _
  have hmb:(m:Int)<1099511627776:=by have:=hI.out.2.1;omega
  go_wp2_with (fail)
  refine TM.out.mono ?_
  rintro e w1 ⟨t,rfl,ht,hc1⟩
  have HT1:=A0b ht
  have HC1:Hid (Chg (fun _=>False) w w1):=hI.out.2.2.trans hc1 fun _ h _=>h
  clear hc1 ht TM TO
  cases t with
  | true=>
   have d6:=HC1.out.cellKeep c6
   have HB:=HLT.out.chg0 HC1.out
   have e6:=HB.blk.fz 6
   have W1:=A0b HB
   have SR1:=A0b (SR.out m hI.out.2.1 w1 HC1.out)
   have hmcp:m≤cp:=Nat.le_trans hI.out.2.1 hcap1
   have HI:=A0b hI.out
   clear hI HB SR c6 c7 c8
   go_wp2_with (at_builtin;refine A0o rfl (.tmp 30) (.tmp 36) 37 37 rfl 141 i0 _ 3 24 Tryz.underlying37 hi hz0 hz1 hz2 rfl (by decide) (.slice none 0 0) 0 [] (by rfl) (World.ownsRow_nil _ 0 141 3) (.slice ap m cp) m (A0x (puts.take m)) (by rfl) SR1.out (by omega) ?_;intro a2 cap2 w2 hA;simp only [Nat.zero_add,List.nil_append] at hA;have HA:=A0b hA;clear hA SR1;have hC2:Chg (fun _=>False) w1 w2:=HA.out.chgNil;have d6:=hC2.cellKeep d6;have W2:=A0b (W1.out.chg0 hC2);have e8:=W2.out.blk.fz 8;have e6:=W2.out.blk.fz 6;have d8:=W2.out.blk.c8;have HC2:=A0b hC2;clear hC2)
   go_wp2
   go_ret
   have hml:(puts.take m).length=m:=by rw [List.length_take,HM.out];exact Nat.min_eq_left HI.out.2.1
   have h3:B1r w2 (.slice a2 m cap2) (puts.take m):=by
    have:=HA.out.own
    unfold B1r
    rw [hml];exact this
   have hfree:∀ g,(Value.slice a2 m cap2).ownBlock=some g→H≤g∧¬ FT g:=fun g hg=>by
    rcases HA.out.at_ with h | h
    ·rw [h] at hg;simp [Value.ownBlock] at hg
    ·rw [h] at hg;cases hg
     exact ⟨W1.out.size,fun hx=>by have:=W1.out.lt _ hx;omega⟩
   obtain ⟨k3,hL3⟩:=W2.out.newPts h3 hfree
   obtain ⟨k4,hL4⟩:=hL3.cell 8 (.bool false) (hL3.blk.s8 false) rfl rfl rfl rfl
   refine ⟨rfl,((HC1.out.trans HC2.out fun _ h _=>h).mono (S':=Up H) fun _ _ h=>h.elim).trans (k3.trans k4 fun _ h _=>h) fun _ h _=>h,m,_,HI.out.1,by rw [HM.out];exact HI.out.2.1,HT1.out.1 trivial,hL4⟩
  | false=>
   have hmn:n0<m:=by
    rcases Nat.lt_or_ge n0 m with h | h
    ·exact h
    ·have e:m=n0:=by have:=hI.out.1;omega
     subst e
     exact absurd (HT1.out.2 HT.out) (by simp)
   have hfl:fl=true:=by
    cases fl with
    | true=>rfl
    | false=>
     have:=HF.out HFL.out
     have h1:=hI.out.2.1
     have h2:=HM.out
     omega
   subst hfl
   obtain ⟨m',rfl⟩:∃ m',m=m'+1:=⟨m - 1,(Nat.sub_add_cancel (Nat.lt_of_le_of_lt (Nat.zero_le _) hmn)).symm⟩
   have d8:=HC1.out.cellKeep c8
   have d7:=HC1.out.cellKeep c7
   obtain ⟨e1,hsm,e2⟩:=NUM.out m' (Nat.le_of_lt_succ hmn) (Nat.lt_of_succ_le hI.out.2.1)
   have HN:Hid (n0≤m'∧m'≤M∧Chg (fun _=>False) w w1.drew):=⟨Nat.le_of_lt_succ hmn,Nat.le_of_succ_le hI.out.2.1,HC1.out.drew⟩
   have HN2:Hid (n0≤m'∧m'≤M∧Chg (fun _=>False) w w1):=⟨Nat.le_of_lt_succ hmn,Nat.le_of_succ_le hI.out.2.1,HC1.out⟩
   clear hI hmn HT1 SR c6 c7 c8 HT hi hz0 hz1 hz2 hcap1 hcap2 hsafe hsv hbr hck m0 hmb NUM hpl e2
   go_wp2
   rw [e1]
   go_roundw
   case rel=>exact ⟨m',rfl,HN2.out⟩
   case measure=>simp [intOf]
end
end Go.Proofs.YtodcnkbblippnaaGreatDoor
namespace Go.Proofs.YtodcnkbblippnaaGreatDoor
open Go.RowKit
def Env (B:Nat) (w:World):Prop:=A2i B w∧B3p w∧1<B∧2<B
theorem Env.keep {B:Nat} {w w':World} {S:Nat→Prop} (h:Env B w) (hc:Chg S w w') (hS:∀ k,S k→B≤k):Env B w':=by
 obtain ⟨h1,⟨⟨e1,a1,b1⟩,e2,a2,b2⟩,h3,h4⟩:=h
 refine ⟨h1.keep hc hS,⟨⟨e1,?_,b1⟩,e2,?_,b2⟩,h3,h4⟩
 ·rw [← a1]
  have:=hc.block 1 (Nat.lt_of_lt_of_le h3 h1.1) fun hk=>by have:=hS _ hk;omega
  simp only [World.cell?,this]
 ·rw [← a2]
  have:=hc.block 2 (Nat.lt_of_lt_of_le h4 h1.1) fun hk=>by have:=hS _ hk;omega
  simp only [World.cell?,this]
theorem Env.keep0 {B:Nat} {w w':World} (h:Env B w) (hc:Chg (fun _=>False) w w'):Env B w':=h.keep hc fun _ h=>h.elim
theorem A3e {n:Int} (h:A0W n=true):A1j n:=by
 unfold A0W at h;simp at h
 exact A2c (by omega) h.2
section
variable {w:World} {B sb ab b:Nat} {life win clock:Int} {L:Nat→List Pt} {A:Ar} {P:PD} {FT:Nat→Prop} {puts:List Pu} {safe t N:Nat} {o:Int}
theorem B2A {sg cl:List (Int × List Pu)} {ol:Option (List Pu)} (h:Lay P A sg cl ol):∀ n∈A.j.logs,A1j n:=fun n hn=>by
 rw [h.logNums] at hn
 obtain ⟨x,hx,rfl⟩:=List.mem_map.1 hn
 cases ol with
 | none=>exact A3e (h.clNum x hx).1.1
 | some l=>
  rcases List.mem_append.1 hx with hx | hx
  ·exact A3e (h.clNum x hx).1.1
  ·simp at hx;subst hx;exact A3e h.own.2.2.2.2
theorem B1W {x y a b:Nat} (h1:x≤a) (h2:y≤b) {c:Nat} (h3:a*b≤c):x*y≤c:=Nat.le_trans (Nat.mul_le_mul h1 h2) h3
end
end Go.Proofs.YtodcnkbblippnaaGreatDoor
namespace Go.Proofs.YtodcnkbblippnaaGreatDoor
open Go.RowKit Go.MuLone
attribute [local go_sem ↓] Go.wp_at_zero Go.wp_at_succ A0p
section
variable {w w' w2:World} {sb ab b:Nat} {mu life win clock:Int} {ro:Bool} {lv:Nat→Value} {L:Nat→List Pt} {A:Ar} {P:PD} {F0 FT:Nat→Prop}
set_option maxRecDepth 100000 in
set_option maxHeartbeats 4000000 in
theorem B5c (w:World) (k t v:Int) (h:SF w sb ab b 0 life win clock ro L A P FT) (hFT:∀ k,FT k→k<w.heap.size) (hk:¬ (0≤k∧k<8)):
 Calls Tryz.prog 23 #[.pointer (some ⟨sb,0,none⟩),.int .i64 k,.int .i64 t,.int .i64 v] w fun e w'=>e=.returned (.int .i64 2)∧A0A w FT w' (fun w' FT'=>SF w' sb ab b 0 life win clock ro L A P FT'):=by
 have IS:Hid (∀ w',Calls Tryz.prog 63 #[.int .i64 k] w' fun e w''=>e=.returned (.bool false)∧w'=w''):=fun w'=>by
  have:=A2H w' k
  rwa [decide_eq_false hk] at this
 have hA:=A7M w sb k t v
 have hX:=A7K w sb k t v
 generalize hw0:A7l w sb k t v=w0 at hA hX
 unfold A7l at hw0
 have hV:=h.chg0 hA
 have hlk:=hV.locked
 have hX1:A5X (w0.setCell ⟨sb,0,none⟩ (.int .i32 1)) w.heap.size sb k t v:=hX.chg hlk.1 fun i _ hx=>by have:=hFT _ hx;omega
 have HI1:Hid (A0A w FT (w0.setCell ⟨sb,0,none⟩ (.int .i32 1)) (fun w' FT'=>SF w' sb ab b 1 life win clock ro L A P FT')):=hlk.before hA
 have c0:w0.cell? ⟨sb,0,none⟩=some (.int .i32 0):=by obtain ⟨lv,F0,q,-⟩:=hV;exact q.blk.c0
 have f0:w0.frozen? ⟨sb,0,none⟩=false:=by obtain ⟨lv,F0,q,-⟩:=hV;exact q.blk.fz 0
 obtain ⟨x0,x1,x2,x3⟩:=hX
 obtain ⟨y0,y1,y2,y3⟩:=hX1
 clear h hFT hA hV hlk
 go_enter_defers Tryz.func23,Tryz.ntmps23
 go_wp2_with (first
  | (go_at_call 61;refine (lock_free Tryz.muLib ⟨sb,0,none⟩ _ c0 f0).mono ?_;rintro e w' ⟨rfl,rfl⟩)
  | (go_at_call 63;refine (IS.out _).mono ?_;rintro e w' ⟨rfl,rfl⟩))
 refine leaves_cons (f:=62) (args:=#[.pointer (some ⟨sb,0,none⟩)]) (by simp) (by simp [go_sem]) ?_
 refine (unlock_deferred Tryz.muLib ⟨sb,0,none⟩ .returning _ ?_ ?_).mono ?_
 ·obtain ⟨-,F2,⟨lv2,F3,a1,-⟩,-,-⟩:=HI1.out;exact a1.blk.c0
 ·obtain ⟨-,F2,⟨lv2,F3,a1,-⟩,-,-⟩:=HI1.out;exact a1.blk.fz 0
 rintro e u' w'' ⟨rfl,rfl,rfl⟩
 exact ⟨_,results_tmp rfl _ _ _,rfl,SFto.cell HI1.out 0 _ fun lv h=>h.s0 0⟩
end
end Go.Proofs.YtodcnkbblippnaaGreatDoor
