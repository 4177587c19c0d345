/-
  The statement WritesUptoCardSaid is proved: the law Writes answers true for every setting and every script of at most 1048576 bytes; there is no other condition.
  Part 26 of 33.
-/
import Derived.Test.YtodcnkbblippnaaGreatDoorPart25
import Derived.Test.YtodcnkbblippnaaGreatDoorPart13
import Derived.Test.YtodcnkbblippnaaGreatDoorPart16
import Derived.Test.YtodcnkbblippnaaGreatDoorPart15
namespace Go.Proofs.YtodcnkbblippnaaGreatDoor
open Go.RowKit Go.MuLone
attribute [local go_sem ↓] Go.wp_at_zero Go.wp_at_succ A0p
def A7l (w:World) (sb:Nat) (k t v:Int):World:=
 (((w.alloc (.cells #[.pointer (some ⟨sb,0,none⟩)] 36)).alloc (.cells #[.int .i64 k] 3)).alloc (.cells #[.int .i64 t] 3)).alloc (.cells #[.int .i64 v] 3)
def A5X (w:World) (x sb:Nat) (k t v:Int):Prop:=
 w.cell? ⟨x,0,none⟩=some (.pointer (some ⟨sb,0,none⟩))∧w.cell? ⟨x+1,0,none⟩=some (.int .i64 k)∧w.cell? ⟨x+2,0,none⟩=some (.int .i64 t)∧w.cell? ⟨x+3,0,none⟩=some (.int .i64 v)
section
variable {w w' w2:World} {sb ab b B:Nat} {mu life win clock:Int} {ro:Bool} {lv:Nat→Value} {L L':Nat→List Pt} {A A':Ar} {P P':PD} {F0 FT:Nat→Prop} {a c m N:Nat}
theorem A7M (w:World) (sb:Nat) (k t v:Int):Chg (fun _=>False) w (A7l w sb k t v):=((((Chg.refl _ w).alloc _).alloc _).alloc _).alloc _
theorem B1l (w:World) (sb:Nat) (k t v:Int):(A7l w sb k t v).heap.size=w.heap.size+4:=by unfold A7l;simp
theorem A7K (w:World) (sb:Nat) (k t v:Int):A5X (A7l w sb k t v) w.heap.size sb k t v:=by
 unfold A7l
 refine ⟨?_,?_,?_,?_⟩
 all_goals unfold World.cell?
 ·rw [Below.heap_alloc _ _ _ (by simp;try omega),Below.heap_alloc _ _ _ (by simp;try omega),Below.heap_alloc _ _ _ (by simp),heap_alloc_new];rfl
 ·rw [Below.heap_alloc _ _ _ (by simp;try omega),Below.heap_alloc _ _ _ (by simp)]
  have:=heap_alloc_new (w.alloc (.cells #[.pointer (some ⟨sb,0,none⟩)] 36)) (.cells #[.int .i64 k] 3)
  have e:(w.alloc (.cells #[.pointer (some ⟨sb,0,none⟩)] 36)).heap.size=w.heap.size+1:=by simp
  rw [e] at this;simp only [this];rfl
 ·rw [Below.heap_alloc _ _ _ (by simp)]
  have:=heap_alloc_new ((w.alloc (.cells #[.pointer (some ⟨sb,0,none⟩)] 36)).alloc (.cells #[.int .i64 k] 3)) (.cells #[.int .i64 t] 3)
  have e:((w.alloc (.cells #[.pointer (some ⟨sb,0,none⟩)] 36)).alloc (.cells #[.int .i64 k] 3)).heap.size=w.heap.size+2:=by simp
  rw [e] at this;simp only [this];rfl
 ·have:=heap_alloc_new (((w.alloc (.cells #[.pointer (some ⟨sb,0,none⟩)] 36)).alloc (.cells #[.int .i64 k] 3)).alloc (.cells #[.int .i64 t] 3)) (.cells #[.int .i64 v] 3)
  have e:(((w.alloc (.cells #[.pointer (some ⟨sb,0,none⟩)] 36)).alloc (.cells #[.int .i64 k] 3)).alloc (.cells #[.int .i64 t] 3)).heap.size=w.heap.size+3:=by simp
  rw [e] at this;simp only [this];rfl
theorem A5X.chg {S:Nat→Prop} {x:Nat} {k t v:Int} (h:A5X w x sb k t v) (hc:Chg S w w') (hS:∀ i,i<4→¬ S (x+i)):A5X w' x sb k t v:=by
 obtain ⟨h0,h1,h2,h3⟩:=h
 have kc:∀ i u,i<4→w.cell? ⟨x+i,0,none⟩=some u→w'.cell? ⟨x+i,0,none⟩=some u:=fun i u hi hu=>by
  have hb:=World.block_lt_of_cell? w _ hu
  have hh:=hc.block (x+i) hb (hS i hi)
  unfold World.cell? at hu ⊢;rw [hh];exact hu
 exact ⟨kc 0 _ (by omega) h0,kc 1 _ (by omega) h1,kc 2 _ (by omega) h2,kc 3 _ (by omega) h3⟩
set_option maxRecDepth 100000 in
set_option maxHeartbeats 2000000 in
theorem B5e (w:World) (x:Nat) (p:Pu) (n:Int) (Q:World→Prop) (hx:A5X w x sb p.1 p.2.1 p.2.2) (CL:Calls Tryz.prog 66 #[.pointer (some ⟨sb,0,none⟩),A2t p] w fun e w'=>e=.returned (.int .i64 n)∧Q w'):
 Calls Tryz.prog 65 #[.pointer (some ⟨x,0,none⟩),.pointer (some ⟨x+1,0,none⟩),.pointer (some ⟨x+2,0,none⟩),.pointer (some ⟨x+3,0,none⟩)] w fun e w'=>e=.returned (.int .i64 n)∧Q w':=by
 obtain ⟨p1,p2,p3⟩:=p
 unfold A2t at CL
 dsimp only at CL hx
 obtain ⟨x0,x1,x2,x3⟩:=hx
 have HC:=A0b CL
 clear CL
 go_enter Tryz.func65,Tryz.ntmps65
 go_wp2_with (go_at_call 66;refine HC.out.mono ?_;rintro e w2 ⟨rfl,hS⟩;have HS:=A0b hS;clear hS)
 go_ret
 exact ⟨rfl,HS.out⟩
theorem SF.locked (h:SF w sb ab b 0 life win clock ro L A P FT):A0A w FT (w.setCell ⟨sb,0,none⟩ (.int .i32 1)) (fun w' FT'=>SF w' sb ab b 1 life win clock ro L A P FT'):=h.cell 0 _ fun _ h=>h.s0 1
set_option maxRecDepth 100000 in
set_option maxHeartbeats 4000000 in
theorem B4y (w:World) (p:Pu) (h:SF w sb ab b 0 life win clock false L A P FT) (hFT:∀ k,FT k→k<w.heap.size) (hp:A4q p) (hn:A.j.own=none→A1j (A.j.last+1)∧A0P (A.j.last+1)∧A0P A.j.puts) (hll:A.j.logs.length≤1073741824)
 (hL:A2i B w) (hLB:∀ k,FT k→B≤k) (hF:Fit P a c m) (hlm:Lim (a+1) (c+1) (m+33)) (hsm:∀ k,k<8→(L k).length<1099511627000) (hl:1≤life∧life≤4611686018427387904) (hc:A0P clock):
 Calls Tryz.prog 23 #[.pointer (some ⟨sb,0,none⟩),.int .i64 p.1,.int .i64 p.2.1,.int .i64 p.2.2] w fun e w'=>e=.returned (.int .i64 (A.add P p).2.1)∧
  A0A w FT w' (fun w' FT'=>SF w' sb ab b 0 life win clock (decide ((A.add P p).2.1≠0)) (if (A.add P p).1=true then A2T L (A0m clock life) p.1.toNat p.2.1 p.2.2 else L) (A.add P p).2.2.1 (A.add P p).2.2.2 FT'):=by
 have IS:Hid (∀ w',Calls Tryz.prog 63 #[.int .i64 p.1] w' fun e w''=>e=.returned (.bool true)∧w'=w''):=fun w'=>by
  have:=A2H w' p.1
  rwa [decide_eq_true hp.1] at this
 have hA:=A7M w sb p.1 p.2.1 p.2.2
 have hX:=A7K w sb p.1 p.2.1 p.2.2
 have hZ:=B1l w sb p.1 p.2.1 p.2.2
 generalize hw0:A7l w sb p.1 p.2.1 p.2.2=w0 at hA hX hZ
 unfold A7l at hw0
 have hV:=h.chg0 hA
 have hLA:=hL.keep0 hA
 have hlk:=hV.locked
 have hX1:A5X (w0.setCell ⟨sb,0,none⟩ (.int .i32 1)) w.heap.size sb p.1 p.2.1 p.2.2:=hX.chg hlk.1 fun i _ hx=>by have:=hFT _ hx;omega
 have HI1:Hid (A0A w FT (w0.setCell ⟨sb,0,none⟩ (.int .i32 1)) (fun w' FT'=>SF w' sb ab b 1 life win clock false L A P FT')):=hlk.before hA
 obtain ⟨k1,F1,s1,s2,s3⟩:=HI1.out
 have hL1:=hLA.keep hlk.1 hLB
 have hBw:=hL.1
 have CH:=A0b (B0y (w0.setCell ⟨sb,0,none⟩ (.int .i32 1)) w.heap.size (A.add P p).2.1 s1 (B5e _ w.heap.size p _ _ hX1
  (B5D _ p s1 s2 hp hn hll hL1 (fun k hk=>(s3 k hk).elim (hLB k) fun h=>Nat.le_trans hBw h) hF hlm hsm hl hc)))
 have ST:Hid (∀ wx R,A0A (w0.setCell ⟨sb,0,none⟩ (.int .i32 1)) F1 wx R→A0A w FT wx R):=fun wx R h=>A0A.step k1 s3 h
 obtain ⟨x0,x1,x2,x3⟩:=hX
 obtain ⟨y0,y1,y2,y3⟩:=hX1
 have c0:w0.cell? ⟨sb,0,none⟩=some (.int .i32 0):=by obtain ⟨lv,F0,q,-⟩:=hV;exact q.blk.c0
 have f0:w0.frozen? ⟨sb,0,none⟩=false:=by obtain ⟨lv,F0,q,-⟩:=hV;exact q.blk.fz 0
 obtain ⟨p1,p2,p3⟩:=p
 dsimp only at *
 obtain ⟨R,hR⟩:∃ R,A.add P (p1,p2,p3)=R:=⟨_,rfl⟩
 rw [hR] at CH ⊢
 obtain ⟨R1,R2,R3,R4⟩:=R
 dsimp only at CH ⊢
 obtain ⟨L2,hL2⟩:∃ L2,(if R1=true then A2T L (A0m clock life) p1.toNat p2 p3 else L)=L2:=⟨_,rfl⟩
 rw [hL2] at CH ⊢
 clear hL2 hR h hFT hp hn hll hL hLB hF hlm hsm hl hc hA hZ hV hLA hlk s1 s2 hL1 hBw k1 s3 HI1
 go_enter_defers Tryz.func23,Tryz.ntmps23
 go_wp2_with (first
  | (go_at_call 61;refine (lock_free Tryz.muLib ⟨sb,0,none⟩ _ c0 f0).mono ?_;rintro e w' ⟨rfl,rfl⟩)
  | (go_at_call 63;refine (IS.out _).mono ?_;rintro e w' ⟨rfl,rfl⟩))
 refine CH.out.mono ?_
 rintro e w2 ⟨rfl,hS⟩
 have HS:=A0b (ST.out _ _ hS)
 clear hS CH x0 x1 x2 x3 y0 y1 y2 y3 ST
 go_wp2
 refine leaves_cons (f:=62) (args:=#[.pointer (some ⟨sb,0,none⟩)]) (by simp) (by simp [go_sem]) ?_
 refine (unlock_deferred Tryz.muLib ⟨sb,0,none⟩ .returning _ ?_ ?_).mono ?_
 ·obtain ⟨-,F2,⟨lv2,F3,a1,-⟩,-,-⟩:=HS.out;exact a1.blk.c0
 ·obtain ⟨-,F2,⟨lv2,F3,a1,-⟩,-,-⟩:=HS.out;exact a1.blk.fz 0
 rintro e u' w'' ⟨rfl,rfl,rfl⟩
 exact ⟨_,results_tmp rfl _ _ _,rfl,SFto.cell HS.out 0 _ fun lv h=>h.s0 0⟩
set_option maxRecDepth 100000 in
set_option maxHeartbeats 4000000 in
theorem B3d (w:World) (x:Nat) (n:Int) (Q:World→Prop) (h:A1w w sb mu (.pointer (some ⟨ab,0,none⟩)) life win clock ro lv) (hx:w.cell? ⟨x,0,none⟩=some (.pointer (some ⟨sb,0,none⟩)))
 (CL:Calls Tryz.prog 68 #[.pointer (some ⟨ab,0,none⟩),.int .i64 win] w.drew fun e w'=>e=.returned (.int .i64 n)∧Q w'):
 Calls Tryz.prog 67 #[.pointer (some ⟨x,0,none⟩)] w fun e w'=>e=.returned (.int .i64 n)∧Q w':=by
 have c2:=h.c2
 have cw:=h.cW
 have HC:=A0b CL
 clear h CL
 go_enter Tryz.func67,Tryz.ntmps67
 go_wp2
 refine A0e (fun w'=>w'.cell? ⟨x,0,none⟩=some (.pointer (some ⟨sb,0,none⟩))∧w'.cell? ⟨sb,2,none⟩=some (.pointer (some ⟨ab,0,none⟩))∧w'.cell? ⟨sb,4,none⟩=some (.int .i64 win)) 8
  [(0,true),(1,true),(2,true),(3,true),(4,true),(5,true),(6,true),(7,true)] (by kernel_rfl) (by kernel_rfl) (fun _ _ _ _ _ h=>h) ⟨hx,c2,cw⟩ ?_
 iterate 8 (refine A0d (v:=?_) rfl (by rfl) ?_ ?_;rotate_left;(· (intro w' hS;(try dsimp only at hS);go_simp;try with_reducible rfl));(try simp only [Act.put,List.setIfInBounds_toArray,List.set_cons_zero,List.set_cons_succ,List.getElem_toArray,List.getElem_cons_zero,List.getElem_cons_succ]))
 refine A0k ?_
 simp only [List.drop_succ_cons,List.drop_zero]
 go_wp2_with (go_at_call 68;refine HC.out.mono ?_;rintro e w2 ⟨rfl,hS⟩;have HS:=A0b hS;clear hS)
 go_ret
 exact ⟨rfl,HS.out⟩
set_option maxRecDepth 100000 in
set_option maxHeartbeats 4000000 in
theorem A9k (w:World) (n:Int) (Q:World→Prop) (c0:w.cell? ⟨sb,0,none⟩=some (.int .i32 0)) (f0:w.frozen? ⟨sb,0,none⟩=false) (hz:sb<w.heap.size)
 (CH:∀ w1,w1=(w.alloc (.cells #[.pointer (some ⟨sb,0,none⟩)] 36)).setCell ⟨sb,0,none⟩ (.int .i32 1)→Calls Tryz.prog 64 #[.pointer (some ⟨sb,0,none⟩),.func (Fn.func 67) #[] #[.pointer (some ⟨w.heap.size,0,none⟩)]] w1 fun e w'=>e=.returned (.int .i64 n)∧w'.cell? ⟨sb,0,none⟩=some (.int .i32 1)∧w'.frozen? ⟨sb,0,none⟩=false∧Q w'):
 Calls Tryz.prog 24 #[.pointer (some ⟨sb,0,none⟩)] w fun e w'=>e=.returned (.int .i64 n)∧∃ w2,Q w2∧w'=w2.setCell ⟨sb,0,none⟩ (.int .i32 0):=by
 have hA:Chg (fun _=>False) w (w.alloc (.cells #[.pointer (some ⟨sb,0,none⟩)] 36)):=(Chg.refl _ w).alloc _
 have hbx:=heap_alloc_new w (.cells #[.pointer (some ⟨sb,0,none⟩)] 36)
 have a0:=hA.cellKeep c0
 have fa:(w.alloc (.cells #[.pointer (some ⟨sb,0,none⟩)] 36)).frozen? ⟨sb,0,none⟩=false:=by
  have hb:=hA.block sb hz (fun h=>h)
  unfold World.frozen? at f0 ⊢;rw [hb];exact f0
 have HC:=A0b (CH _ rfl)
 have b0:(w.alloc (.cells #[.pointer (some ⟨sb,0,none⟩)] 36)).cell? ⟨w.heap.size,0,none⟩=some (.pointer (some ⟨sb,0,none⟩)):=by simp only [World.cell?,hbx];rfl
 have hne:w.heap.size≠sb:=by omega
 have b1:((w.alloc (.cells #[.pointer (some ⟨sb,0,none⟩)] 36)).setCell ⟨sb,0,none⟩ (.int .i32 1)).cell? ⟨w.heap.size,0,none⟩=some (.pointer (some ⟨sb,0,none⟩)):=by
  have hc1:=(Chg.refl (One sb) (w.alloc (.cells #[.pointer (some ⟨sb,0,none⟩)] 36))).setAt (b:=sb) rfl 0 (.int .i32 1)
  have hb:=hc1.block w.heap.size (by simp) (fun h=>hne h)
  unfold World.cell? at b0 ⊢;rw [hb];exact b0
 clear CH c0 f0 hA hbx hne
 generalize hw0:(w.alloc (.cells #[.pointer (some ⟨sb,0,none⟩)] 36))=w0 at a0 fa HC b0 b1
 go_enter_defers Tryz.func24,Tryz.ntmps24
 go_wp2_with (go_at_call 61;refine (lock_free Tryz.muLib ⟨sb,0,none⟩ _ a0 fa).mono ?_;rintro e w' ⟨rfl,rfl⟩)
 refine HC.out.mono ?_
 rintro e w2 ⟨rfl,u0,uf,hS⟩
 have HS:=A0b hS
 clear hS HC b0 b1
 go_wp2
 refine leaves_cons (f:=62) (args:=#[.pointer (some ⟨sb,0,none⟩)]) (by simp) (by simp [go_sem]) ?_
 refine (unlock_deferred Tryz.muLib ⟨sb,0,none⟩ .returning _ ?_ ?_).mono ?_
 ·exact u0
 ·exact uf
 rintro e u' w'' ⟨rfl,rfl,rfl⟩
 exact ⟨_,results_tmp rfl _ _ _,rfl,_,HS.out,rfl⟩
end
end Go.Proofs.YtodcnkbblippnaaGreatDoor
namespace Go.Proofs.YtodcnkbblippnaaGreatDoor
open Go.RowKit Go.MuLone
section
variable {w w' w2:World} {sb ab b B:Nat} {mu life win clock:Int} {ro:Bool} {lv:Nat→Value} {L L':Nat→List Pt} {A A':Ar} {P P':PD} {F0 FT:Nat→Prop} {a c m N:Nat}
theorem SF.c0 (h:SF w sb ab b mu life win clock ro L A P FT):w.cell? ⟨sb,0,none⟩=some (.int .i32 mu)∧w.frozen? ⟨sb,0,none⟩=false∧sb<w.heap.size∧w.cell? ⟨sb,2,none⟩=some (.pointer (some ⟨ab,0,none⟩)):=by
 obtain ⟨lv,F0,q,-⟩:=h
 exact ⟨q.blk.c0,q.blk.fz 0,q.blk.lt,q.blk.c2⟩
theorem SF.call (h:SF w sb ab b mu life win clock ro L A P FT) (hLB:∀ k,FT k→B≤k) (f:Nat) (args:List Value) (n:Int) (hL:A2i B w)
 (CL:∀ w1 F0,AD w1 ab b A P F0→(∀ k,F0 k→k<w1.heap.size)→A2i B w1→(∀ k,F0 k→B≤k)→Calls Tryz.prog f args.toArray w1 fun e w'=>e=.returned (.int .i64 n)∧A0A w1 F0 w' (fun w' FT'=>AD w' ab b A' P' FT')):
 Calls Tryz.prog f args.toArray w fun e w'=>e=.returned (.int .i64 n)∧A0A w FT w' (fun w' FT'=>SF w' sb ab b mu life win clock ro L A' P' FT'):=by
 obtain ⟨lv,F0,q,hs⟩:=h
 refine (CL w F0 q.ar q.lt hL (fun k hk=>hLB k (hs k (.inl hk)))).mono ?_
 rintro e w' ⟨rfl,hI⟩
 exact ⟨rfl,q.arTo hs hI⟩
theorem B4u (w:World) (n:Int) (h:SF w sb ab b 0 life win clock false L A P FT) (hFT:∀ k,FT k→k<w.heap.size) (hL:A2i B w) (hLB:∀ k,FT k→B≤k)
 (CL:∀ w1 F0,AD w1 ab b A P F0→(∀ k,F0 k→k<w1.heap.size)→A2i B w1→(∀ k,F0 k→B≤k)→Calls Tryz.prog 68 #[.pointer (some ⟨ab,0,none⟩),.int .i64 win] w1 fun e w'=>e=.returned (.int .i64 n)∧A0A w1 F0 w' (fun w' FT'=>AD w' ab b A' P' FT')):
 Calls Tryz.prog 24 #[.pointer (some ⟨sb,0,none⟩)] w fun e w'=>e=.returned (.int .i64 n)∧A0A w FT w' (fun w' FT'=>SF w' sb ab b 0 life win clock (decide (n≠0)) L A' P' FT'):=by
 obtain ⟨c0,f0,hz,-⟩:=h.c0
 have hA:Chg (fun _=>False) w (w.alloc (.cells #[.pointer (some ⟨sb,0,none⟩)] 36)):=(Chg.refl _ w).alloc _
 have hbx:=heap_alloc_new w (.cells #[.pointer (some ⟨sb,0,none⟩)] 36)
 have hBw:=hL.1
 refine (A9k w n (fun w2=>A0A w FT w2 (fun w' FT'=>SF w' sb ab b 1 life win clock (decide (n≠0)) L A' P' FT')) c0 f0 hz (fun w1 hw1=>?_)).mono ?_
 ·have hI1:=(h.chg0 hA).locked
  rw [← hw1] at hI1
  obtain ⟨k1,F1,s1,s2,s3⟩:=hI1
  have hL1:=(hL.keep0 hA).keep k1 hLB
  have b0:(w.alloc (.cells #[.pointer (some ⟨sb,0,none⟩)] 36)).cell? ⟨w.heap.size,0,none⟩=some (.pointer (some ⟨sb,0,none⟩)):=by simp only [World.cell?,hbx];rfl
  have hx:w1.cell? ⟨w.heap.size,0,none⟩=some (.pointer (some ⟨sb,0,none⟩)):=by
   have hb:=k1.block w.heap.size (by simp) (fun hx=>Nat.lt_irrefl _ (hFT _ hx))
   unfold World.cell? at b0 ⊢;rw [hb];exact b0
  have hLB1:∀ k,F1 k→B≤k:=fun k hk=>(s3 k hk).elim (hLB k) fun h=>Nat.le_trans hBw (Nat.le_trans hA.size h)
  obtain ⟨lv1,F2,q,hs⟩:=s1
  have s1:SF w1 sb ab b 1 life win clock false L A P F1:=⟨lv1,F2,q,hs⟩
  have body:Calls Tryz.prog 67 #[.pointer (some ⟨w.heap.size,0,none⟩)] w1 fun e w'=>e=.returned (.int .i64 n)∧A0A w1 F1 w' (fun w' FT'=>SF w' sb ab b 1 life win clock false L A' P' FT'):=by
   have kd:Chg (fun _=>False) w1 w1.drew:=(Chg.refl _ w1).drew
   refine B3d w1 w.heap.size n _ q.blk hx ?_
   refine ((s1.chg0 kd).call hLB1 _ [.pointer (some ⟨ab,0,none⟩),.int .i64 win] n (hL1.keep0 kd) CL).mono ?_
   rintro e w' ⟨rfl,hI⟩
   exact ⟨rfl,hI.before kd⟩
  refine (A8t w1 w.heap.size n s1 body).mono ?_
  rintro e w' ⟨rfl,hI⟩
  have hI':=(A0A.step k1 s3 hI).before hA
  obtain ⟨-,F3,q3,-,-⟩:=hI
  obtain ⟨d0,df,-,-⟩:=q3.c0
  exact ⟨rfl,d0,df,hI'⟩
 ·rintro e w' ⟨rfl,w2,hI,rfl⟩
  exact ⟨rfl,SFto.cell hI 0 _ fun lv h=>h.s0 0⟩
end
end Go.Proofs.YtodcnkbblippnaaGreatDoor
namespace Go.Proofs.YtodcnkbblippnaaGreatDoor
open Go.RowKit Go.MuLone
attribute [local go_sem ↓] Go.wp_at_zero Go.wp_at_succ A0p
theorem B5t (w:World):A1q w (fun _=>.slice none 0 0) (fun _=>[]):=
 ⟨fun _ _=>World.ownsRow_nil _ _ _ _,fun _ _=>List.Pairwise.nil,fun _ _=>by simp,fun _ _ _ _ _ g h=>by simp [Value.ownBlock] at h⟩
def A2z (o:Int) (ps:List Pu):Nat→List Pt:=ps.foldl (fun L p=>A2T L o p.1.toNat p.2.1 p.2.2) (fun _=>[])
theorem A5g (o:Int) (ps:List Pu) (p:Pu):A2z o (ps ++ [p])=A2T (A2z o ps) o p.1.toNat p.2.1 p.2.2:=by simp [A2z]
theorem A6r (o:Int) (k:Nat):∀ n (ps:List Pu),ps.length=n→(A2z o ps k).length≤n
 | 0,ps,h=>by obtain rfl:=List.length_eq_zero_iff.1 h;simp [A2z]
 | n+1,ps,h=>by
  have hne:ps≠[]:=fun e=>by subst e;simp at h
  have hs:=(List.dropLast_concat_getLast hne).symm
  rw [hs,A5g]
  have h1:=A6r o k n ps.dropLast (by rw [List.length_dropLast];omega)
  have h2:=A5E (A2z o ps.dropLast) o (ps.getLast hne).1.toNat (ps.getLast hne).2.1 (ps.getLast hne).2.2 k
  omega
theorem B0s {P:PD} {n:Int} (h:Ar.open P=.error n):n≠0:=by
 unfold Ar.open at h
 split at h
 ·cases h;decide
 ·split at h
  ·cases h;decide
  ·split at h
   ·cases h;decide
   ·split at h
    ·rename_i hx;cases h;exact hx
    ·cases h
section
variable {w w' w2:World} {sb ab b B:Nat} {mu life win clock:Int} {ro:Bool} {lv:Nat→Value} {L L':Nat→List Pt} {A A':Ar} {P P':PD} {F0 Ft FT:Nat→Prop} {a c m N:Nat}
set_option maxRecDepth 100000 in
set_option maxHeartbeats 8000000 in
theorem B4R (w:World) (life win clock:Int) (hl:1≤life∧life≤4611686018427387904) (hw:1≤win∧win≤4611686018427387904) (hc:A0P clock) (hlt:∀ k,Ft k→k<w.heap.size)
 (hps:∀ A ps,Ar.open P=.ok (A,ps)→ps.length<1099511627000∧∀ p∈ps,0≤p.1∧p.1<8)
 (CL:∀ w1,Chg (fun _=>False) w w1→Calls Tryz.prog 59 #[.pointer (some ⟨b,0,none⟩)] w1 fun e w'=>
  (∃ n,Ar.open P=.error n∧e=.returned (.tuple #[.pointer none,.slice none 0 0,.int .i64 n])∧Chg (fun _=>False) w1 w')∨
  (∃ A ps ab v FT,Ar.open P=.ok (A,ps)∧e=.returned (.tuple #[.pointer (some ⟨ab,0,none⟩),v,.int .i64 0])∧A1r w' v ps∧AD w' ab b A P FT∧(∀ k,FT k→Ft k∨w1.heap.size≤k)∧(∀ k,FT k→k<w'.heap.size)∧(∀ g,v.ownBlock=some g→¬ FT g∧w1.heap.size≤g)∧Chg (fun _=>False) w1 w')):
 Calls Tryz.prog 22 #[.pointer (some ⟨b,0,none⟩),.agg #[.int .i64 life,.int .i64 win],.int .i64 clock] w fun e w'=>
  (∃ n,Ar.open P=.error n∧e=.returned (.tuple #[.pointer none,.int .i64 n])∧Chg (fun _=>False) w w')∨
  (∃ A ps ab sb,Ar.open P=.ok (A,ps)∧e=.returned (.tuple #[.pointer (some ⟨sb,0,none⟩),.int .i64 0])∧w.heap.size≤sb∧A0A w Ft w' (fun w' FT'=>SF w' sb ab b 0 life win clock false (A2z (A0m clock life) ps) A P FT')):=by
 have IS1:Hid (∀ w',Calls Tryz.prog 58 #[.int .i64 life] w' fun e w''=>e=.returned (.bool true)∧w'=w''):=fun w'=>by
  have:=A2O w' life
  rwa [decide_eq_true hl] at this
 have IS2:Hid (∀ w',Calls Tryz.prog 58 #[.int .i64 win] w' fun e w''=>e=.returned (.bool true)∧w'=w''):=fun w'=>by
  have:=A2O w' win
  rwa [decide_eq_true hw] at this
 have hA:=(Chg.refl (fun _=>False) w).alloc (.cells #[.int .i64 life,.int .i64 win] 48)
 have hbx:=heap_alloc_new w (.cells #[.int .i64 life,.int .i64 win] 48)
 generalize hw0:(w.alloc (.cells #[.int .i64 life,.int .i64 win] 48))=w0 at hA hbx
 have q0:w0.cell? ⟨w.heap.size,0,none⟩=some (.int .i64 life):=by simp only [World.cell?,hbx];rfl
 have q1:w0.cell? ⟨w.heap.size,1,none⟩=some (.int .i64 win):=by simp only [World.cell?,hbx];rfl
 have AO:=A0b (CL w0 hA)
 have HA:=A0b hA
 have HLT:=A0b hlt
 have HPS:=A0b hps
 have HL:=A0b hl
 have HC:=A0b hc
 clear CL hA hbx hlt hps hl hw hc
 go_enter Tryz.func22,Tryz.ntmps22
 go_wp2_with (fail)
 refine (IS1.out _).mono ?_
 rintro e w' ⟨rfl,rfl⟩
 go_wp2_with (fail)
 refine (IS2.out _).mono ?_
 rintro e w' ⟨rfl,rfl⟩
 go_wp2_with (fail)
 refine AO.out.mono ?_
 rintro e w1 (⟨n,hO,rfl,hk⟩ | ⟨A,ps,ab,v,FT,hO,rfl,hp,ha,hf1,hf2,hf3,hk⟩)
 ·have hn:=B0s hO
  have hnb:(n != 0)=true:=by simpa using hn
  have HO:=A0b hO
  have HK:=A0b (HA.out.trans hk fun _ h _=>h)
  clear AO hO hk hn
  go_wp2
  go_ret2
  exact .inl ⟨n,HO.out,rfl,HK.out⟩
 ·obtain ⟨va,vcap,rfl,v1,v2,v3,-⟩:=A0g hp
  unfold maxLen at v2
  have r0:=hk.cellKeep q0
  have r1:=hk.cellKeep q1
  obtain ⟨hpl,hpo⟩:=HPS.out A ps hO
  have HK:Hid (Chg (fun _=>False) w w1):=HA.out.trans hk fun _ h _=>h
  have HP:=A0b hp
  have HAD:=A0b ha
  have HF1:Hid (∀ k,FT k→Ft k∨w.heap.size≤k):=fun k h=>(hf1 k h).imp id (Nat.le_trans HA.out.size)
  have HF2:=A0b hf2
  have HF3:=A0b hf3
  have HO:=A0b hO
  have HPL:=A0b hpl
  have HPO:=A0b hpo
  clear AO hO hk hp ha hf1 hf2 hf3 q0 q1 hpl hpo
  have hst:A1B 0 (.pointer (some ⟨ab,0,none⟩)) life win clock false (fun _=>.slice none 0 0) = #[.int .i32 0,.int .u32 0,.pointer (some ⟨ab,0,none⟩),.int .i64 life,.int .i64 win,.int .i64 clock,.bool false,.slice none 0 0,.slice none 0 0,.slice none 0 0,.slice none 0 0,.slice none 0 0,.slice none 0 0,.slice none 0 0,.slice none 0 0]:=rfl
  have ST:Hid (∀ w2,w2=w1.alloc (.cells (A1B 0 (.pointer (some ⟨ab,0,none⟩)) life win clock false (fun _=>.slice none 0 0)) 111)→
   A0A w Ft w2 (fun w' FT'=>SF w' w1.heap.size ab b 0 life win clock false (A2z (A0m clock life) (ps.take 0)) A P FT'∧∀ g,(Value.slice va ps.length vcap).ownBlock=some g→¬ FT' g)∧A1r w2 (.slice va ps.length vcap) ps):=fun w2 e=>by
   subst e
   have kA:Chg (fun _=>False) w1 (w1.alloc (.cells (A1B 0 (.pointer (some ⟨ab,0,none⟩)) life win clock false (fun _=>.slice none 0 0)) 111)):=(Chg.refl _ w1).alloc _
   have hb:A1w (w1.alloc (.cells (A1B 0 (.pointer (some ⟨ab,0,none⟩)) life win clock false (fun _=>.slice none 0 0)) 111)) w1.heap.size 0 (.pointer (some ⟨ab,0,none⟩)) life win clock false (fun _=>.slice none 0 0):=heap_alloc_new w1 _
   have nS:¬ FT w1.heap.size:=fun h=>Nat.lt_irrefl _ (HF2.out _ h)
   refine ⟨⟨(HK.out.trans kA fun _ h _=>h).mono fun _ _ h=>h.elim,fun k=>FT k∨Own w1.heap.size (fun _=>.slice none 0 0) k,⟨⟨_,FT,⟨hb,B5t _,HAD.out.chg0 kA,fun k hk=>Nat.lt_of_lt_of_le (HF2.out k hk) kA.size,nS,fun k hk=>?_⟩,fun _ h=>h⟩,fun g hg hx=>?_⟩,fun k hk=>?_,fun k hk=>?_⟩,A0a HP.out fun g hg=>kA.block g (A0c HP.out hg) (fun h=>h)⟩
   ·obtain ⟨i,_,hi⟩:=hk;simp [Value.ownBlock] at hi
   ·rcases hx with hx | rfl | ⟨i,_,hi⟩
    ·exact (HF3.out g hg).1 hx
    ·have:=A0c HP.out hg;omega
    ·simp [Value.ownBlock] at hi
   ·rcases hk with hk | rfl | ⟨i,_,hi⟩
    ·exact Nat.lt_of_lt_of_le (HF2.out k hk) kA.size
    ·simp
    ·simp [Value.ownBlock] at hi
   ·rcases hk with hk | rfl | ⟨i,_,hi⟩
    ·exact HF1.out k hk
    ·exact .inr HK.out.size
    ·simp [Value.ownBlock] at hi
  have HSB:Hid (w.heap.size≤w1.heap.size):=HK.out.size
  rw [hst] at ST
  have STA:=A0b (ST.out _ rfl)
  clear ST hst HF1 HF2 HF3 HAD HP HK
  go_wp2
  go_loopw [43] (fun iv wr=>∃ k:Nat,k≤ps.length∧iv=.int .i64 k∧Hid (A0A w Ft wr (fun w' FT'=>SF w' w1.heap.size ab b 0 life win clock false (A2z (A0m clock life) (ps.take k)) A P FT'∧∀ g,(Value.slice va ps.length vcap).ownBlock=some g→¬ FT' g)∧A1r wr (.slice va ps.length vcap) ps)) (fun iv _=>ps.length - (intOf iv).toNat)
  case atStart=>exact ⟨0,by omega,by go_num,STA.out⟩
  case round=>
   obtain ⟨k,hk,rfl,hI⟩:=hrel
   obtain ⟨w0',hw0'⟩:∃ w0',w0'=wr:=⟨_,rfl⟩
   subst hw0'
   have k0:(0:Int)≤(k:Int):=Int.natCast_nonneg _
   by_cases hk1:k<ps.length
   ·have kI:(k:Int)<(ps.length:Int):=by omega
    obtain ⟨g,o,rfl,hgl,c1,c2,c3⟩:=RdP.at hI.out.2.rd k hk1
    have htk:ps.take (k+1)=ps.take k ++ [ps[k]'hk1]:=List.take_succ_eq_append_getElem hk1
    have hpo:=HPO.out _ (List.getElem_mem hk1)
    have hpl:=HPL.out
    obtain ⟨p,hp⟩:∃ p,(ps[k]'hk1)=p:=⟨_,rfl⟩
    rw [hp] at c1 c2 c3 htk hpo
    have HA0:Hid (∀ w3,Chg (fun _=>False) w0' w3→Calls Tryz.prog 60 #[.pointer (some ⟨w1.heap.size,0,none⟩),A2t p] w3 fun e w'=>e=.returned (.tuple #[])∧(A0A w Ft w' (fun w' FT'=>SF w' w1.heap.size ab b 0 life win clock false (A2z (A0m clock life) (ps.take (k+1))) A P FT'∧∀ g',(Value.slice (some ⟨g,o,none⟩) ps.length vcap).ownBlock=some g'→¬ FT' g')∧A1r w' (.slice (some ⟨g,o,none⟩) ps.length vcap) ps)):=fun w3 k3=>by
     obtain ⟨⟨i1,F1,⟨i2,i3⟩,i4,i5⟩,i6⟩:=hI.out
     have hlen:∀ j,j<8→(A2z (A0m clock life) (ps.take k) j).length<1099511627000:=fun j _=>by
      have:=A6r (A0m clock life) j _ (ps.take k) rfl
      rw [List.length_take] at this;omega
     refine (B2V w3 p (i2.chg0 k3) hpo hlen HL.out HC.out).mono ?_
     rintro e w' ⟨rfl,q1,F2,q2,q3,q4⟩
     have i1':Chg Ft w w3:=i1.trans k3 fun _ h _=>h.elim
     have own3:∀ g',(Value.slice (some ⟨g,o,none⟩) ps.length vcap).ownBlock=some g'→g'<w0'.heap.size:=fun g' hg'=>A0c i6 hg'
     refine ⟨rfl,⟨i1'.trans q1 fun x hx hlt=>(i5 x hx).resolve_right (by omega),F2,⟨by rw [htk,A5g];exact q2,fun g' hg' hx=>?_⟩,q3,fun x hx=>?_⟩,?_⟩
     ·rcases q4 g' hx with hy | hy
      ·exact i3 g' hg' hy
      ·have:=own3 g' hg';have:=k3.size;omega
     ·rcases q4 x hx with hy | hy
      ·exact i5 x hy
      ·exact .inr (Nat.le_trans i1'.size hy)
     ·exact A0a (A0a i6 fun g' hg'=>k3.block g' (own3 g' hg') fun h=>h) fun g' hg'=>q1.block g' (Nat.lt_of_lt_of_le (own3 g' hg') k3.size) (i3 g' hg')
    obtain ⟨p1,p2,p3⟩:=p
    unfold A2t at HA0
    dsimp only at c1 c2 c3 HA0
    clear hI htk hpo hp hpl STA
    go_wp2_with (go_at_call 60;refine (HA0.out _ ((Chg.refl _ w0').alloc _)).mono ?_;rintro e w3 ⟨rfl,hS⟩;have HS:=A0b hS;clear hS)
    go_roundw
    case rel=>exact ⟨k+1,by omega,by go_num,HS.out⟩
    case measure=>simp [intOf];omega
   ·obtain rfl:k=ps.length:=by omega
    have HI:=A0b hI.out.1
    clear STA hI
    go_wp2
    go_ret2
    refine .inr ⟨A,ps,ab,w1.heap.size,HO.out,rfl,HSB.out,?_⟩
    have h:=HI.out
    rw [List.take_length] at h
    exact h.imp fun _ _ h=>h.1
end
end Go.Proofs.YtodcnkbblippnaaGreatDoor
namespace Go.Proofs.YtodcnkbblippnaaGreatDoor
open Go.RowKit
theorem B3L {α:Type} {l:List α} (h:l.Nodup) {i j:Nat} (hi:i<l.length) (hj:j<l.length) (e:l[i]'hi=l[j]'hj):i=j:=by
 have hp:=List.pairwise_iff_getElem.1 h
 rcases Nat.lt_trichotomy i j with hij | hij | hij
 ·exact absurd e (hp i j hi hj hij)
 ·exact hij
 ·exact absurd e.symm (hp j i hj hi hij)
theorem B2j {es:List Ent} (h:(es.map (·.2)).Nodup) {a b:Ent} (ha:a∈es) (hb:b∈es) (e:a.2=b.2):a=b:=by
 obtain ⟨i,hi,rfl⟩:=List.getElem_of_mem ha
 obtain ⟨j,hj,rfl⟩:=List.getElem_of_mem hb
 have:i=j:=B3L h (by simpa using hi) (by simpa using hj) (by simpa using e)
 subst this;rfl
theorem A2W {es:List Ent} {nm:ByteArray} {f:Nat} (h:A0u es nm=some f):(nm,f)∈es:=by
 induction es with
 | nil=>cases h
 | cons e r ih=>
  unfold A0u at h
  split at h
  ·rename_i he
   cases h;subst he;exact List.mem_cons_self ..
  ·exact List.mem_cons_of_mem _ (ih h)
theorem A9c {es:List Ent} {nm:ByteArray}:A0u es nm=none↔∀ e∈es,e.1≠nm:=by
 induction es with
 | nil=>simp [A0u]
 | cons e r ih=>
  unfold A0u
  by_cases he:e.1=nm
  ·simp [he]
  ·simp only [he,if_false,ih,List.mem_cons,forall_eq_or_imp,ne_eq,not_false_eq_true,true_and]
theorem A7v (es es':List Ent) (nm:ByteArray):A0u (es ++ es') nm=(A0u es nm).or (A0u es' nm):=by
 induction es with
 | nil=>simp [A0u]
 | cons e r ih=>
  simp only [List.cons_append,A0u]
  split
  ·simp
  ·exact ih
theorem A9B (es:List Ent) (nm:ByteArray):(A1x es nm<0↔A0u es nm=none):=by
 rcases A1M es nm with ⟨h1,h2⟩ | ⟨k,hk,h1,h2,h3⟩
 ·simp [h1,h2]
 ·simp only [h1,h2];exact ⟨fun h=>by omega,fun h=>by cases h⟩
theorem A4D (F:Nat→FC) (f:Nat) (c:FC) (es:List Ent) (h:∀ e∈es,e.2≠f):A0J (upd F f c) es=A0J F es:=by
 induction es with
 | nil=>simp [A0J]
 | cons e r ih=>
  simp only [A0J,upd,h e (List.mem_cons_self ..),if_false]
  rw [← ih fun x hx=>h x (List.mem_cons_of_mem _ hx)]
theorem A7H (F:Nat→FC) (f:Nat) (c:FC) (es:List Ent) (hn:(es.map (·.2)).Nodup) (h:∃ e∈es,e.2=f):A0J (upd F f c) es+(F f).1.length=A0J F es+c.1.length:=by
 induction es with
 | nil=>obtain ⟨e,he,_⟩:=h;cases he
 | cons e r ih=>
  have hn':e.2∉r.map (·.2)∧(r.map (·.2)).Nodup:=by simpa using hn
  by_cases he:e.2=f
  ·subst he
   have:A0J (upd F e.2 c) r=A0J F r:=A4D F _ c r fun x hx hxe=>hn'.1 (hxe ▸ List.mem_map_of_mem hx)
   simp only [A0J,this]
   simp [upd];omega
  ·obtain ⟨x,hx,hxe⟩:=h
   have hr:∃ x∈r,x.2=f:=by
    rcases List.mem_cons.1 hx with rfl | hx
    ·exact absurd hxe he
    ·exact ⟨x,hx,hxe⟩
   have:=ih hn'.2 hr
   simp only [A0J,upd,he,if_false] at this ⊢
   omega
def PD.fl (P:PD) (nm:Bs):Option FC:=(A0u P.D.dir (nmB nm)).map P.F
structure Cm (P:PD) (N R:Nat):Prop where
 dead:P.D.n.dead=false
 cut:P.D.n.cut=0
 fail:P.D.n.fail=0
 calls:0≤P.D.n.calls∧P.D.n.calls+N≤4611686018427387904
 room:(A0J P.F P.D.dir:Int)+R≤P.D.n.room
 ids:(P.D.dir.map (·.2)).Nodup
 nms:(P.D.dir.map (·.1)).Nodup
section
variable {P:PD} {N R:Nat} {nm:Bs}
theorem Cm.mono {N' R':Nat} (h:Cm P N R) (hN:N'≤N) (hR:R'≤R):Cm P N' R':=
 ⟨h.dead,h.cut,h.fail,⟨h.calls.1,by have:=h.calls.2;omega⟩,by have:=h.room;omega,h.ids,h.nms⟩
theorem Cm.bg (h:Cm P (N+1) R):bg P.D.n=(true,0,{ P.D.n with calls:=P.D.n.calls+1 }):=by
 obtain ⟨c1,c2⟩:=h.calls
 have e:wrap64 (P.D.n.calls+1)=P.D.n.calls+1:=by unfold wrap64;omega
 unfold Go.Proofs.YtodcnkbblippnaaGreatDoor.bg
 dsimp only
 rw [e,if_neg (by simp [h.dead]),if_neg (by rw [h.cut];omega),if_neg (by rw [h.fail];omega)]
theorem B5l:P.fl nm=none↔A0u P.D.dir (nmB nm)=none:=by unfold PD.fl;simp
theorem B2d {c:FC} (h:P.fl nm=some c):∃ f,A0u P.D.dir (nmB nm)=some f∧P.F f=c:=by
 unfold PD.fl at h;simpa using h
theorem B4V (h:nm≠[]):nmB nm≠ByteArray.empty:=fun e=>h (by have:nmB nm=nmB []:=e;exact A9g.1 this)
theorem Cm.create (h:Cm P (N+1) R) (h0:P.fl nm=none) (hne:nm≠[]):
 (P.create (nmB nm)).1=0∧Cm (P.create (nmB nm)).2 N R∧∀ m,(P.create (nmB nm)).2.fl m=if m=nm then some ([],0) else P.fl m:=by
 have hl:=B5l.1 h0
 have hx:¬ (nmB nm=ByteArray.empty∨A1x P.D.dir (nmB nm)≥0):=by
  rintro (h | h)
  ·exact B4V hne h
  ·have:=(A9B P.D.dir (nmB nm)).2 hl;omega
 have hfr:∀ e∈P.D.dir,e.2≠P.D.fresh:=fun e he hf=>P.D.fresh_not (.inl ⟨e,he,hf⟩)
 unfold PD.create A0I
 rw [if_neg hx]
 dsimp only
 rw [h.bg]
 dsimp only
 rw [if_pos rfl]
 refine ⟨rfl,⟨h.dead,h.cut,h.fail,by have:=h.calls;dsimp only;omega,?_,?_,?_⟩,fun m=>?_⟩
 ·have:=h.room
  dsimp only
  rw [A3H,A4D _ _ _ _ hfr]
  simp only [A0J,upd,if_true,List.length_nil];omega
 ·dsimp only
  rw [List.map_append,List.nodup_append]
  refine ⟨h.ids,by simp,fun a ha b hb=>?_⟩
  simp at hb;subst hb
  obtain ⟨e,he,rfl⟩:=List.mem_map.1 ha
  exact hfr e he
 ·dsimp only
  rw [List.map_append,List.nodup_append]
  refine ⟨h.nms,by simp,fun a ha b hb=>?_⟩
  simp at hb;subst hb
  obtain ⟨e,he,rfl⟩:=List.mem_map.1 ha
  exact (A9c.1 hl) e he
 ·unfold PD.fl
  dsimp only
  rw [A7v]
  by_cases hm:m=nm
  ·subst hm;rw [hl];simp [A0u,upd]
  ·have hne:¬ nmB nm=nmB m:=fun e=>hm (A9g.1 e).symm
   simp only [A0u,hne,if_false,Option.or_none,hm]
   cases hk:A0u P.D.dir (nmB m) with
   | none=>rfl
   | some f=>
    have:f≠P.D.fresh:=hfr _ (A2W hk)
    simp [upd,this]
theorem A9Q (l:Bs):(nmB l).size=l.length:=by simp [nmB,ByteArray.size]
theorem Cm.append {c:FC} (h:Cm P (N+1) R) (h0:P.fl nm=some c) (l:Bs) (hl:l.length≤R):
 (P.append (nmB nm) l).1=0∧Cm (P.append (nmB nm) l).2 N (R - l.length)∧∀ m,(P.append (nmB nm) l).2.fl m=if m=nm then some (c.1 ++ l,c.2) else P.fl m:=by
 obtain ⟨f,hf,rfl⟩:=B2d h0
 have hroom:=h.room
 have hleft:¬ ((nmB l).size:Int)>A5O { P.D with n:={ P.D.n with calls:=P.D.n.calls+1 } } P.F:=by
  unfold A5O;rw [A9Q];dsimp only;omega
 unfold PD.append A0q
 rw [hf]
 dsimp only
 rw [h.bg]
 dsimp only
 rw [if_pos rfl]
 unfold A3d
 rw [if_neg hleft]
 dsimp only
 have ht:(nmB l).data.toList.take ((nmB l).size:Int).toNat=l:=by rw [A9Q];simp [nmB]
 rw [ht]
 have hu:=A7H P.F f ((P.F f).1 ++ l,(P.F f).2) P.D.dir h.ids ⟨_,A2W hf,rfl⟩
 refine ⟨rfl,⟨h.dead,h.cut,h.fail,by have:=h.calls;dsimp only;omega,?_,h.ids,h.nms⟩,fun m=>?_⟩
 ·dsimp only
  simp only [List.length_append] at hu
  omega
 ·unfold PD.fl
  dsimp only
  by_cases hm:m=nm
  ·subst hm;rw [hf];simp [upd]
  ·rw [if_neg hm]
   cases hk:A0u P.D.dir (nmB m) with
   | none=>rfl
   | some g=>
    have:g≠f:=fun e=>hm (by
     have:=B2j h.ids (A2W hk) (A2W hf) e
     exact A9g.1 (Prod.mk.inj this).1)
    simp [upd,this]
theorem Cm.sync {c:FC} (h:Cm P (N+1) R) (h0:P.fl nm=some c):
 (P.sync (nmB nm)).1=0∧Cm (P.sync (nmB nm)).2 N R∧∀ m,((P.sync (nmB nm)).2.fl m).map (·.1)=(P.fl m).map (·.1):=by
 obtain ⟨f,hf,rfl⟩:=B2d h0
 unfold PD.sync A1X
 rw [hf]
 dsimp only
 rw [h.bg]
 dsimp only
 rw [if_pos rfl]
 have hu:=A7H P.F f ((P.F f).1,(P.F f).1.length) P.D.dir h.ids ⟨_,A2W hf,rfl⟩
 refine ⟨rfl,⟨h.dead,h.cut,h.fail,by have:=h.calls;dsimp only;omega,?_,h.ids,h.nms⟩,fun m=>?_⟩
 ·have:=h.room
  dsimp only at hu ⊢
  omega
 ·unfold PD.fl
  dsimp only
  cases hk:A0u P.D.dir (nmB m) with
  | none=>rfl
  | some g=>
   by_cases e:g=f
   ·subst e;simp [upd]
   ·simp [upd,e]
end
end Go.Proofs.YtodcnkbblippnaaGreatDoor
namespace Go.Proofs.YtodcnkbblippnaaGreatDoor
open Go.RowKit
def PD.bs (P:PD) (nm:Bs):Option Bs:=(P.fl nm).map (·.1)
section
variable {P P':PD} {N R:Nat} {nm:Bs}
theorem B5a:P.bs nm=none↔P.fl nm=none:=by unfold PD.bs;simp
theorem B5G {c:Bs} (h:P.bs nm=some c):∃ k,P.fl nm=some (c,k):=by
 unfold PD.bs at h
 cases hx:P.fl nm with
 | none=>rw [hx] at h;cases h
 | some x=>rw [hx] at h;obtain ⟨a,k⟩:=x;simp at h;subst h;exact ⟨k,rfl⟩
theorem Cm.createB (h:Cm P (N+1) R) (h0:P.bs nm=none) (hne:nm≠[]):
 (P.create (nmB nm)).1=0∧Cm (P.create (nmB nm)).2 N R∧∀ m,(P.create (nmB nm)).2.bs m=if m=nm then some [] else P.bs m:=by
 obtain ⟨h1,h2,h3⟩:=h.create (B5a.1 h0) hne
 refine ⟨h1,h2,fun m=>?_⟩
 unfold PD.bs;rw [h3 m];split <;> rfl
theorem Cm.appendB {c:Bs} (h:Cm P (N+1) R) (h0:P.bs nm=some c) (l:Bs) (hl:l.length≤R):
 (P.append (nmB nm) l).1=0∧Cm (P.append (nmB nm) l).2 N (R - l.length)∧∀ m,(P.append (nmB nm) l).2.bs m=if m=nm then some (c ++ l) else P.bs m:=by
 obtain ⟨k,hk⟩:=B5G h0
 obtain ⟨h1,h2,h3⟩:=h.append hk l hl
 refine ⟨h1,h2,fun m=>?_⟩
 unfold PD.bs;rw [h3 m];split <;> rfl
theorem Cm.syncB {c:Bs} (h:Cm P (N+1) R) (h0:P.bs nm=some c):
 (P.sync (nmB nm)).1=0∧Cm (P.sync (nmB nm)).2 N R∧∀ m,(P.sync (nmB nm)).2.bs m=P.bs m:=by
 obtain ⟨k,hk⟩:=B5G h0
 exact h.sync hk
theorem B5E:P.all nm=match P.bs nm with | some c=>(c,0) | none=>([],8):=by
 unfold PD.all A6s PD.bs PD.fl
 cases A0u P.D.dir (nmB nm) <;> rfl
theorem B3g:A1o P.D P.F (nmB nm)=match P.bs nm with | some c=>((c.length:Int),0) | none=>(0,8):=by
 unfold A1o PD.bs PD.fl
 cases A0u P.D.dir (nmB nm) <;> rfl
theorem A3f (s:Nat) (l:Bs):(A0L s l).length=l.length+4:=by simp [A0L,A1i]
theorem Cm.add {c:Bs} (h:Cm P (N+1) R) (h0:P.bs nm=some c) (s:Nat) (l:Bs) (hl:l.length+4≤R):
 (P.add (nmB nm) s l).1=true∧(P.add (nmB nm) s l).2.1=0∧Cm (P.add (nmB nm) s l).2.2 N (R - (l.length+4))∧∀ m,(P.add (nmB nm) s l).2.2.bs m=if m=nm then some (c ++ A0L s l) else P.bs m:=by
 have hp:=A3f s l
 obtain ⟨h1,h2,h3⟩:=h.appendB h0 (A0L s l) (by omega)
 rw [hp] at h2
 refine ⟨?_,h1,h2,h3⟩
 show A8p P.D P.F (nmB nm) (A0L s l)=true
 unfold A8p
 have e:=@B3g (P.append (nmB nm) (A0L s l)).2 nm
 have e2:A1o (A0q P.D P.F (nmB nm) ⟨(A0L s l).toArray⟩).2.1 (A0q P.D P.F (nmB nm) ⟨(A0L s l).toArray⟩).2.2 (nmB nm)=A1o (P.append (nmB nm) (A0L s l)).2.D (P.append (nmB nm) (A0L s l)).2.F (nmB nm):=rfl
 rw [e2,e,h3 nm,B3g,h0]
 simp only [if_true,List.length_append]
 simp only [decide_eq_true_eq]
 omega
theorem B2h (h:P.bs nm=none):P.read nm=([],8):=by
 unfold PD.read
 rw [B5E,h]
 simp
theorem Cm.syncAll:∀ (l:List Bs) {P:PD},Cm P (N+l.length) R→(∀ m∈l,P.bs m≠none)→(PD.syncAll l P).1=0∧Cm (PD.syncAll l P).2 N R∧∀ m,(PD.syncAll l P).2.bs m=P.bs m
 | [],P,h,_=>⟨rfl,h,fun _=>rfl⟩
 | x :: r,P,h,hm=>by
  obtain ⟨c,hc⟩:=Option.ne_none_iff_exists'.1 (hm x (List.mem_cons_self ..))
  obtain ⟨a1,a2,a3⟩:=Cm.syncB (N:=N+r.length) (by simpa [Nat.add_assoc] using h) hc
  obtain ⟨b1,b2,b3⟩:=Cm.syncAll r a2 fun m hm'=>by rw [a3];exact hm m (List.mem_cons_of_mem _ hm')
  unfold PD.syncAll
  rw [if_neg (by simp [a1])]
  exact ⟨b1,b2,fun m=>by rw [b3,a3]⟩
end
end Go.Proofs.YtodcnkbblippnaaGreatDoor
namespace Go.Proofs.YtodcnkbblippnaaGreatDoor
open Go.RowKit
structure B6b (ix:Ix):Prop where
 first:A0W ix.first=true
 segs:∀ n∈ix.segs,A0W n=true
 rise:A1Y A3u ix.segs=true
theorem B4g {n:Int} (h:A0W n=true):A0P n:=by
 unfold A0W at h;simp at h;constructor <;> omega
theorem A8a:A4o ([],8)=some ⟨1,[]⟩:=by simp [A4o]
theorem A8q (p:Pu):(A1N p.1 p.2.1 p.2.2).length=17:=by simp [A1N,A0v]
theorem B1M {p:Pu} (h:A4q p) (r:Bs):B5K (A1N p.1 p.2.1 p.2.2 ++ r)=p∧((A1N p.1 p.2.1 p.2.2 ++ r).headD 0).toNat<8:=by
 obtain ⟨a,t,v⟩:=p
 obtain ⟨⟨h1,h2⟩,h3,h4⟩:=h
 dsimp only at h1 h2 h3 h4 ⊢
 have h8:=A0v t
 have e1:((UInt8.ofNat (a % 256).toNat).toNat:Int)=a:=by
  have:(a % 256).toNat=a.toNat:=by omega
  rw [this]
  simp
  omega
 unfold B5K A1N
 simp only [List.cons_append,List.headD_cons,List.drop_succ_cons,List.drop_zero,List.append_assoc]
 rw [e1,A5Y t h3,List.drop_left' (by rw [h8]),A5Y v h4]
 exact ⟨rfl,by omega⟩
def A9t:Nat→List Pu→Bs
 | _,[]=>[]
 | s,p :: r=>A0L s (A1N p.1 p.2.1 p.2.2) ++ A9t (A0w s (A1N p.1 p.2.1 p.2.2)) r
def B4N:Nat→List Pu→Nat
 | s,[]=>s
 | s,p :: r=>B4N (A0w s (A1N p.1 p.2.1 p.2.2)) r
theorem A7G:∀ (l:List Pu) (s:Nat) (p:Pu),A9t s (l ++ [p])=A9t s l ++ A0L (B4N s l) (A1N p.1 p.2.1 p.2.2)∧B4N s (l ++ [p])=A0w (B4N s l) (A1N p.1 p.2.1 p.2.2)
 | [],s,p=>by simp [A9t,B4N]
 | x :: r,s,p=>by
  obtain ⟨h1,h2⟩:=A7G r (A0w s (A1N x.1 x.2.1 x.2.2)) p
  simp only [List.cons_append,A9t,B4N,h1,h2,List.append_assoc,and_self]
theorem A9W:∀ (l:List Pu) (s:Nat),(A9t s l).length=21*l.length
 | [],_=>rfl
 | p :: r,s=>by
  simp only [A9t,List.length_append,A3f,A8q,A9W r,List.length_cons];omega
theorem A8o:∀ (l:List Pu) (s k:Nat) (t:Bs),(∀ p∈l,A4q p)→l.length<k→t.length<21→A2f k s (A9t s l ++ t)=(l,true)
 | [],s,k,t,_,_,ht=>by simp only [A9t,List.nil_append];exact A5z ht
 | p :: r,s,k,t,hp,hk,ht=>by
  cases k with
  | zero=>simp at hk
  | succ k=>
   have hok:=hp p (List.mem_cons_self ..)
   have h17:=A8q p
   have ih:=A8o r (A0w s (A1N p.1 p.2.1 p.2.2)) k t (fun x hx=>hp x (List.mem_cons_of_mem _ hx)) (by simp at hk;omega) ht
   obtain ⟨h1,h2⟩:=B1M hok []
   have hp1:A1N p.1 p.2.1 p.2.2=UInt8.ofNat (p.1 % 256).toNat :: (A1h p.2.1 ++ A1h p.2.2):=rfl
   simp only [List.append_nil] at h1 h2
   have e:A9t s (p :: r) ++ t=UInt8.ofNat (p.1 % 256).toNat :: (A1h p.2.1 ++ A1h p.2.2) ++ A2x (A0w s (A1N p.1 p.2.1 p.2.2)) ++ (A9t (A0w s (A1N p.1 p.2.1 p.2.2)) r ++ t):=by
    simp only [A9t,A0L,hp1,List.append_assoc]
   rw [e,B0W (by simp [A0v]) (A1i _) (by rw [← hp1]) (by rw [hp1] at h2;exact h2)]
   rw [← hp1,ih]
   have h1':=h1
   unfold B5K at h1'
   rw [hp1] at h1'
   simp only [List.headD_cons,List.drop_succ_cons,List.drop_zero] at h1'
   rw [h1']
def B3D (nm:Bs) (ahead:Int) (l:List Pu):Bs:=A0L (A1m nm) (A1h ahead) ++ A9t (A0w (A1m nm) (A1h ahead)) l
def B4A (nm:Bs) (ahead:Int) (l:List Pu):Nat:=B4N (A0w (A1m nm) (A1h ahead)) l
theorem B1y (nm:Bs) (ahead:Int) (l:List Pu) (p:Pu):B3D nm ahead (l ++ [p])=B3D nm ahead l ++ A0L (B4A nm ahead l) (A1N p.1 p.2.1 p.2.2)∧B4A nm ahead (l ++ [p])=A0w (B4A nm ahead l) (A1N p.1 p.2.1 p.2.2):=by
 obtain ⟨h1,h2⟩:=A7G l (A0w (A1m nm) (A1h ahead)) p
 unfold B3D B4A
 rw [h1,h2,List.append_assoc]
 exact ⟨rfl,rfl⟩
theorem B1X (nm:Bs) (ahead:Int) (l:List Pu) (t:Bs) (ha:A0P ahead) (hp:∀ p∈l,A4q p) (ht:t.length<21):A8r (A1m nm) ahead (B3D nm ahead l ++ t)=(l,0):=by
 have e:B3D nm ahead l ++ t=A1h ahead ++ A2x (A0w (A1m nm) (A1h ahead)) ++ (A9t (A0w (A1m nm) (A1h ahead)) l ++ t):=by
  simp only [B3D,A0L,List.append_assoc]
 rw [e,A5Z (A0v _) (A1i _)]
 have hn:A1P (A1h ahead)=ahead:=by have:=A5Y ahead ha [];simpa using this
 rw [if_pos ⟨rfl,hn⟩,A8o l _ _ t hp (by rw [List.length_append,A9W];omega) ht]
 simp
section
variable {P:PD} {n ahead:Int}
theorem B5F {c:Bs} (h:P.bs (A0l n)=some c):P.log n ahead=A8r (A1m (A0l n)) ahead c:=by
 have hb:=@B5E P (A0l n)
 unfold PD.all at hb
 rw [h] at hb
 unfold PD.log A2q
 have e:A6s P.D P.F ⟨(A0l n).toArray⟩=(c,0):=hb
 rw [e];simp
theorem A7a (hb:P.bs A0N=none):P.index=some ⟨1,[]⟩:=by
 unfold PD.index;rw [B2h hb,A8a]
theorem B3Y {l:List Pu} {t:Bs} (ha:A0P ahead) (h:∀ p∈l,A4q p) (ht:t.length<21) (hb:P.bs (A0l n)=some (B3D (A0l n) ahead l ++ t)):P.log n ahead=(l,0):=by
 rw [B5F hb,B1X _ _ _ _ ha h ht]
end
end Go.Proofs.YtodcnkbblippnaaGreatDoor
