/-
  The statement WritesUptoCardSaid is proved: the law Writes answers true for every setting and every script of at most 1048576 bytes; there is no other condition.
  Part 20 of 33.
-/
import Derived.Test.YtodcnkbblippnaaGreatDoorPart19
namespace Go.Proofs.YtodcnkbblippnaaGreatDoor
open Go.RowKit
attribute [local go_sem ↓] A0p
theorem Fit.syncAll {a c m:Nat}:∀ (l:List Bs) (P:PD),Fit P a c m→Fit (PD.syncAll l P).2 a c m
 | [],P,h=>h
 | nm :: r,P,h=>by
  rw [A5h]
  split
  ·exact h.sync _
  ·exact Fit.syncAll r _ (h.sync _)
theorem Fit.settle {A:Ar} {P:PD} {a c m:Nat} (h:Fit P a c m):Fit (A.settle P).2.2 a c m:=by
 unfold Ar.settle
 split
 ·exact h.syncAll _ _
 ·exact h.syncAll _ _
theorem Fit.removeAll {a m:Nat}:∀ (l:List Bs) (P:PD) (c:Nat),Fit P a c m→Fit (PD.removeAll l P).2 a (c+l.length) m
 | [],P,c,h=>h
 | nm :: r,P,c,h=>by
  rw [A3Z]
  split
  ·exact (h.remove _).mono (Nat.le_refl _) (by simp) (Nat.le_refl _)
  ·exact (Fit.removeAll r _ _ (h.remove _)).mono (Nat.le_refl _) (by simp;omega) (Nat.le_refl _)
theorem Fit.sweep {A:Ar} {P:PD} {a c m:Nat} (h:Fit P a c m):Fit (A.sweep P).2 a (c+a) m:=by
 have h1:=Fit.removeAll (A.others P) P c h
 have h2:=A4C A P h
 exact h1.mono (Nat.le_refl _) (by omega) (Nat.le_refl _)
theorem A3i (A:Ar) (P:PD):(A.settle P).2.1.ix=A.ix∧(A.settle P).2.1.j=A.j∧(A.settle P).2.1.last=A.last:=by
 unfold Ar.settle;split <;> exact ⟨rfl,rfl,rfl⟩
def Ar.prep (A:Ar) (P:PD):Int × Ar × PD:=
 if (A.settle P).1≠0 then A.settle P else (((A.settle P).2.1.sweep (A.settle P).2.2).1,(A.settle P).2.1,((A.settle P).2.1.sweep (A.settle P).2.2).2)
theorem B2F (A:Ar) (P:PD):(A.prep P).2.1.ix=A.ix∧(A.prep P).2.1.j=A.j∧(A.prep P).2.1.last=A.last:=by
 unfold Ar.prep;split <;> exact A3i A P
theorem Fit.prep {A:Ar} {P:PD} {a c m:Nat} (h:Fit P a c m):Fit (A.prep P).2.2 a (c+a) m:=by
 unfold Ar.prep
 split
 ·exact h.settle.mono (Nat.le_refl _) (by omega) (Nat.le_refl _)
 ·exact h.settle.sweep
theorem B0q (A:Ar) (P:PD) (kept:List Int) (fresh:List (List Pu)):A.replace P kept fresh=if (A.prep P).1≠0 then A.prep P else
 if (PD.newSegs fresh (A.prep P).2.1.last kept (A.prep P).2.2).1≠0 then ((PD.newSegs fresh (A.prep P).2.1.last kept (A.prep P).2.2).1,{ (A.prep P).2.1 with last:=(PD.newSegs fresh (A.prep P).2.1.last kept (A.prep P).2.2).2.1 },(PD.newSegs fresh (A.prep P).2.1.last kept (A.prep P).2.2).2.2.2) else
 if (({ (A.prep P).2.1 with last:=(PD.newSegs fresh (A.prep P).2.1.last kept (A.prep P).2.2).2.1 }:Ar).turn (PD.newSegs fresh (A.prep P).2.1.last kept (A.prep P).2.2).2.2.2 (PD.newSegs fresh (A.prep P).2.1.last kept (A.prep P).2.2).2.2.1).1≠0 then
  ({ (A.prep P).2.1 with last:=(PD.newSegs fresh (A.prep P).2.1.last kept (A.prep P).2.2).2.1 }:Ar).turn (PD.newSegs fresh (A.prep P).2.1.last kept (A.prep P).2.2).2.2.2 (PD.newSegs fresh (A.prep P).2.1.last kept (A.prep P).2.2).2.2.1
 else (({ (A.prep P).2.1 with last:=(PD.newSegs fresh (A.prep P).2.1.last kept (A.prep P).2.2).2.1 }:Ar).turn (PD.newSegs fresh (A.prep P).2.1.last kept (A.prep P).2.2).2.2.2 (PD.newSegs fresh (A.prep P).2.1.last kept (A.prep P).2.2).2.2.1).2.1.close
  (({ (A.prep P).2.1 with last:=(PD.newSegs fresh (A.prep P).2.1.last kept (A.prep P).2.2).2.1 }:Ar).turn (PD.newSegs fresh (A.prep P).2.1.last kept (A.prep P).2.2).2.2.2 (PD.newSegs fresh (A.prep P).2.1.last kept (A.prep P).2.2).2.2.1).2.2:=by
 unfold Ar.replace Ar.prep
 dsimp only
 by_cases h1:(A.settle P).1=0
 ·by_cases h2:((A.settle P).2.1.sweep (A.settle P).2.2).1=0
  ·simp only [h1,h2,ne_eq,not_true,if_false]
  ·simp only [h1,h2,ne_eq,not_true,not_false_eq_true,if_false,if_true]
 ·simp only [h1,ne_eq,not_false_eq_true,if_true]
section
variable {w w':World} {ab b xb jb B:Nat} {sv ov lv jo:Value} {A:Ar} {P:PD} {Ft FT:Nat→Prop} {a c m:Nat}
theorem AD.cells (h:AD w ab b A P FT):w.cell? ⟨ab,0,none⟩=some (.pointer (some ⟨b,0,none⟩))∧w.cell? ⟨ab,3,none⟩=some (.int .i64 A.last)∧w.frozen? ⟨ab,3,none⟩=false∧ab<w.heap.size∧FT ab:=by
 obtain ⟨xb,jb,sv,ov,lv,jo,Ft,h1,h2⟩:=h
 exact ⟨h1.blk.c0,h1.blk.c3,h1.blk.fz 3,h1.blk.lt,h2 ab (.inr (.inl rfl))⟩
theorem AD.setLast (h:AD w ab b A P FT) (x:Int):AD (w.setCell ⟨ab,3,none⟩ (.int .i64 x)) ab b { A with last:=x } P FT:=by
 obtain ⟨xb,jb,sv,ov,lv,jo,Ft,hv,h2⟩:=h
 have kz:Chg (One ab) w (w.setCell ⟨ab,3,none⟩ (.int .i64 x)):=(Chg.refl (One ab) w).setAt (b:=ab) rfl 3 _
 have hs:∀ k,k≠ab→k<w.heap.size→(w.setCell ⟨ab,3,none⟩ (.int .i64 x)).heap[k]?=w.heap[k]?:=fun k hk hl=>kz.block k hl hk
 exact ⟨xb,jb,sv,ov,lv,jo,Ft,⟨hv.blk.s3 x,(hs xb hv.ne.symm hv.ix.lt).trans hv.ix,hv.segs.frame fun g hg=>hs g (hv.sepS g hg).1 (hv.segs.lt hg),hv.loose.frame fun g hg=>hs g (hv.sepO g hg).1 (hv.loose.lt hg),hv.jn.frame fun k hk=>hs k (hv.sepJ k hk).1 (hv.jn.lt hk),
  A0R.frame hv.dk fun k hk=>hs k (fun e=>by subst e;exact hv.sepD _ (.inl rfl) hk) (hv.lt k hk),fun k hk=>Nat.lt_of_lt_of_le (hv.lt k hk) kz.size,hv.sepD,hv.sepS,hv.sepO,hv.sepJ⟩,h2⟩
theorem B2M (h:A1A w b P Ft):
 Calls Tryz.prog 86 #[.pointer (some ⟨b,0,none⟩)] w fun e w'=>e=.returned (.int .i64 P.syncDir.1)∧A0A w Ft w' (fun w' Ft'=>A1A w' b P.syncDir.2 Ft'):=B3w h
theorem B1O (h:AD w ab b A P FT):
 Calls Tryz.prog 86 #[.pointer (some ⟨b,0,none⟩)] w fun e w'=>e=.returned (.int .i64 P.syncDir.1)∧A0A w FT w' (fun w' FT'=>AD w' ab b A P.syncDir.2 FT'):=by
 obtain ⟨xb,jb,sv,ov,lv,jo,Ft,hv,h2⟩:=h
 refine (B2M hv.dk).mono ?_
 rintro e w' ⟨h3,h4⟩
 exact ⟨h3,hv.diskInto h2 (hv.disk h4)⟩
theorem B3G (w:World) (g:Nat) (h:AD w ab b A P FT) (_hlt:∀ k,FT k→k<w.heap.size) (hg:¬ FT g) (hgl:g<w.heap.size) (hb:w.heap[g]?=some (.cells #[.func (Fn.func 118) #[.pointer (some ⟨ab,0,none⟩)] #[],.func (Fn.func 150) #[.pointer (some ⟨ab,0,none⟩)] #[]] 50 (0,0)))
 (hF:Fit P a c m) (hl:Lim a (c+a) m) (hn:∀ n∈A.ix.segs,A1j n) (hnl:∀ n∈A.j.logs,A1j n) (hsl:A.ix.segs.length≤1073741824) (hll:A.j.logs.length≤1073741824) (hL:A2i B w) (hLB:∀ k,FT k→B≤k):
 Calls Tryz.prog 117 #[.slice (some ⟨g,0,none⟩) 2 2] w fun e w'=>e=.returned (.int .i64 (A.prep P).1)∧A0A w FT w' (fun w' FT'=>AD w' ab b (A.prep P).2.1 (A.prep P).2.2 FT'):=by
 obtain ⟨s1,s2,s3⟩:=A3i A P
 refine (A4i w g ab ab (fun n w'=>n=(A.settle P).1∧A0A w FT w' (fun w' FT'=>AD w' ab b (A.settle P).2.1 (A.settle P).2.2 FT')) (fun n w'=>(A.settle P).1=0∧n=((A.settle P).2.1.sweep (A.settle P).2.2).1∧A0A w FT w' (fun w' FT'=>AD w' ab b (A.settle P).2.1 ((A.settle P).2.1.sweep (A.settle P).2.2).2 FT')) hb ?_ ?_).mono ?_
 ·refine (A6O w h).mono ?_
  rintro e w' ⟨h1,h2⟩
  exact ⟨_,h1,⟨rfl,h2⟩,h2.1.block g hgl hg⟩
 ·rintro w1 ⟨h0,c1,F1,h2,h3,h4⟩ -
  refine (A7R w1 h2 hF.settle hl (by rw [s1];exact hn) (by rw [s2];exact hnl) (by rw [s1];exact hsl) (by rw [s2];exact hll) (hL.keep c1 hLB)).mono ?_
  rintro e w' ⟨h5,h6⟩
  exact ⟨_,h5,h0.symm,rfl,A0A.step c1 h4 h6⟩
 ·rintro e w' ⟨n,rfl,⟨h1,h2,h3⟩ | ⟨h1,h2,h3⟩⟩
  ·subst h2
   unfold Ar.prep
   rw [if_pos h1]
   exact ⟨rfl,h3⟩
  ·subst h2
   unfold Ar.prep
   rw [if_neg (by simp [h1])]
   exact ⟨rfl,h3⟩
theorem B2U (w:World) (g:Nat) (h:AD w ab b A P FT) (_hlt:∀ k,FT k→k<w.heap.size) (hg:¬ FT g) (hgl:g<w.heap.size) (hb:w.heap[g]?=some (.cells #[.func (Fn.func 150) #[.pointer (some ⟨ab,0,none⟩)] #[],.func (Fn.func 86) #[.pointer (some ⟨b,0,none⟩)] #[]] 50 (0,0)))
 (hF:Fit P a c m) (hl:Lim a (c+a) m) (hn:∀ n∈A.ix.segs,A1j n) (hnl:∀ n∈A.j.logs,A1j n) (hsl:A.ix.segs.length≤1073741824) (hll:A.j.logs.length≤1073741824) (hL:A2i B w):
 Calls Tryz.prog 117 #[.slice (some ⟨g,0,none⟩) 2 2] w fun e w'=>e=.returned (.int .i64 (A.close P).1)∧A0A w FT w' (fun w' FT'=>AD w' ab b (A.close P).2.1 (A.close P).2.2 FT'):=by
 refine (A4A w g ab b (fun n w'=>n=(A.sweep P).1∧A0A w FT w' (fun w' FT'=>AD w' ab b A (A.sweep P).2 FT')) (fun n w'=>(A.sweep P).1=0∧n=(A.sweep P).2.syncDir.1∧A0A w FT w' (fun w' FT'=>AD w' ab b A (A.sweep P).2.syncDir.2 FT')) hb ?_ ?_).mono ?_
 ·refine (A7R w h hF hl hn hnl hsl hll hL).mono ?_
  rintro e w' ⟨h1,h2⟩
  exact ⟨_,h1,⟨rfl,h2⟩,h2.1.block g hgl hg⟩
 ·rintro w1 ⟨h0,c1,F1,h2,h3,h4⟩ -
  refine (B1O h2).mono ?_
  rintro e w' ⟨h5,h6⟩
  exact ⟨_,h5,h0.symm,rfl,A0A.step c1 h4 h6⟩
 ·rintro e w' ⟨n,rfl,⟨h1,h2,h3⟩ | ⟨h1,h2,h3⟩⟩
  ·subst h2
   unfold Ar.close
   rw [if_pos h1]
   exact ⟨rfl,h3⟩
  ·subst h2
   unfold Ar.close
   rw [if_neg (by simp [h1])]
   exact ⟨rfl,h3⟩
end
end Go.Proofs.YtodcnkbblippnaaGreatDoor
namespace Go.Proofs.YtodcnkbblippnaaGreatDoor
open Go.RowKit
attribute [local go_sem ↓] A0p
def B5v (w:World) (v:Value) (ls:List (List Pu)) (FT:Nat→Prop):Prop:=
 ∃ vs:List Value,vs.length=ls.length∧w.ownsRow 0 97 1 v ls.length vs∧(∀ k (h1:k<vs.length) (h2:k<ls.length),A1r w (vs[k]'h1) (ls[k]'h2))∧(∀ g,v.ownBlock=some g→¬ FT g)∧∀ x∈vs,∀ g,x.ownBlock=some g→¬ FT g
def A1F (l:List (List Pu)):Nat:=(l.map List.length).sum
theorem B1n (x:List Pu) (r:List (List Pu)):A1F (x :: r)=x.length+A1F r:=by simp [A1F]
theorem A2D (x y:List (List Pu)):A1F (x ++ y)=A1F x+A1F y:=by simp [A1F]
theorem A6X (l:List (List Pu)) (k:Nat):A1F (l.take k)≤A1F l:=by
 conv=>rhs;rw [← List.take_append_drop k l]
 rw [A2D];omega
theorem A8f (l:List Pu) (r:List (List Pu)) (last:Int) (kept:List Int) (P:PD):PD.newSegs (l :: r) last kept P=if (P.newSeg (last+1) l).1≠0 then ((P.newSeg (last+1) l).1,last+1,kept,(P.newSeg (last+1) l).2) else
 PD.newSegs r (last+1) (kept ++ [last+1]) (P.newSeg (last+1) l).2:=rfl
theorem Fit.newSeg {P:PD} {a c m:Nat} (h:Fit P a c m) (n:Int) (l:List Pu):Fit (P.newSeg n l).2 (a+1) (c+1) (m+17*l.length+4):=by
 have:=h.write (A1d n) (A1m (A1d n)) (A3c l)
 rw [A3B] at this
 exact this
theorem A8C {n:Int} (h0:0≤n) (h1:n≤9223372036854775807):A1j n:=by
 refine ⟨h0,h1,?_⟩
 rw [A7h h0,Lib.decDigits_length]
 have e:(10:Nat) ^ 19=10000000000000000000:=by decide
 exact A6H 19 _ (by rw [e];omega) (by omega)
section
variable {w:World} {ab b xb jb B:Nat} {sv ov lv jo:Value} {A:Ar} {P:PD} {Ft FT:Nat→Prop} {a c m:Nat}
theorem B3t (w:World) (h:AD w ab b A P FT) (n:Int) (pv:Value) (l:List Pu) (hF:Fit P a c m) (hl:Lim (a+1) (c+1) m) (hn:A1j n) (hL:A2i B w) (hp:RdP w pv l) (hpo:∀ p∈l,A4q p) (hpl:l.length≤134217728):
 Calls Tryz.prog 151 #[.pointer (some ⟨b,0,none⟩),.int .i64 n,pv] w fun e w'=>
  ((P.newSeg n l).1≠0∧e=.returned (.tuple #[.pointer none,.int .i64 (P.newSeg n l).1])∨(P.newSeg n l).1=0∧∃ gb,e=.returned (.tuple #[.pointer (some ⟨gb,0,none⟩),.int .i64 0]))∧A0A w FT w' (fun w' FT'=>AD w' ab b A (P.newSeg n l).2 FT'):=by
 obtain ⟨xb,jb,sv,ov,lv,jo,Ft,hv,h2⟩:=h
 refine (A6z w pv l hv.dk hv.lt hF hl hn hL hp hpo hpl).mono ?_
 rintro e w' ⟨h3,h4⟩
 exact ⟨h3,hv.diskInto h2 (hv.disk h4)⟩
theorem Fit.arTurn {A:Ar} {P:PD} {a c m:Nat} (h:Fit P a c m) (l:List Int):Fit (A.turn P l).2.2 (a+2) (c+2) (m+12+8*l.length):=by
 unfold Ar.turn
 split
 ·exact h.mono (by omega) (by omega) (by omega)
 ·split
  ·exact h.turnIx _ _
  ·exact h.turnIx _ _
theorem A8h (A:Ar) (P:PD) (l:List Int):((A.turn P l).2.1.ix.segs=A.ix.segs∨(A.turn P l).2.1.ix.segs=l)∧((A.turn P l).2.1.j.logs=A.j.logs∨(A.turn P l).2.1.j.logs = []):=by
 unfold Ar.turn
 split
 ·exact ⟨.inl rfl,.inl rfl⟩
 ·split
  ·exact ⟨.inl rfl,.inl rfl⟩
  ·exact ⟨.inr rfl,.inr rfl⟩
theorem AD.neInt {n:Nat} {v:Value} {xs:List Value} (h:AD w ab b A P FT) (ho:w.ownsRow 0 3 1 v n xs) {g:Nat} (hg:v.ownBlock=some g):g≠ab:=by
 obtain ⟨xb,jb,sv,ov,lv,jo,Ft,h1,h2⟩:=h
 obtain ⟨c,hc⟩:=A0f ho hg
 exact A0r hc h1.blk (by decide)
set_option maxRecDepth 100000 in
set_option maxHeartbeats 16000000 in
theorem A9y (w:World) (h:AD w ab b A P FT) (hFT:∀ k,FT k→k<w.heap.size) (kv:Value) (kept:List Int) (hkv:A5p w kv kept) (hks:∀ g,kv.ownBlock=some g→¬ FT g∧B≤g) (fv:Value) (fresh:List (List Pu)) (hfv:B5v w fv fresh FT)
 (hpo:∀ l∈fresh,(∀ p∈l,A4q p)∧l.length≤134217728) (hla:0≤A.last∧A.last+fresh.length≤9223372036854775807) (hjl:A0P (A.j.last+1)) (_hkr:∀ x∈kept,A0P x)
 (hF:Fit P a c m) (hl:Lim (a+fresh.length+2) (c+2*a+2*fresh.length+4) (m+17*A1F fresh+12*fresh.length+12+8*kept.length)) (hkl:kept.length+fresh.length≤134217728)
 (hn:∀ n∈A.ix.segs,A1j n) (hnl:∀ n∈A.j.logs,A1j n) (hkn:∀ n∈kept,A1j n) (hsl:A.ix.segs.length≤1073741824) (hll:A.j.logs.length≤1073741824) (hL:A2i B w) (hLB:∀ k,FT k→B≤k):
 Calls Tryz.prog 107 #[.pointer (some ⟨ab,0,none⟩),kv,fv] w fun e w'=>e=.returned (.int .i64 (A.replace P kept fresh).1)∧A0A w (fun k=>FT k∨kv.ownBlock=some k) w' (fun w' FT'=>AD w' ab b (A.replace P kept fresh).2.1 (A.replace P kept fresh).2.2 FT'):=by
 obtain ⟨i0,hi,hz0,hz1,hz2⟩:=B2W
 obtain ⟨ka,kcap,rfl,kc1,kc2,-⟩:=A0g hkv
 obtain ⟨vs,vl,hvr,hvp,hvo,hvi⟩:=hfv
 obtain ⟨fa,fcap,rfl,fc1,fc2,-⟩:=A0g hvr
 unfold maxLen at kc2 fc2
 obtain ⟨q1,q2,q3⟩:=B2F A P
 have hl1:Lim a (c+a) m:=⟨by have:=hl.a;omega,by have:=hl.c;omega,by have:=hl.m;omega⟩
 have hFp:=Fit.prep (A:=A) hF
 have ka1:Chg (fun _=>False) w (w.alloc (.cells #[.func (Fn.func 118) #[.pointer (some ⟨ab,0,none⟩)] #[],.func (Fn.func 150) #[.pointer (some ⟨ab,0,none⟩)] #[]] 50)):=(Chg.refl _ w).alloc _
 have PR:=A0b (B3G _ w.heap.size (h.chg0 ka1) (fun k hk=>Nat.lt_of_lt_of_le (hFT k hk) ka1.size) (fun hx=>Nat.lt_irrefl _ (hFT _ hx)) (by simp) (heap_alloc_new w _) hF hl1 hn hnl hsl hll (hL.keep0 ka1) hLB)
 have HE:=A0b (B0q A P kept fresh)
 obtain ⟨R,hR⟩:∃ R,A.replace P kept fresh=R:=⟨_,rfl⟩
 rw [hR] at HE ⊢
 obtain ⟨X,hX⟩:∃ X,A.prep P=X:=⟨_,rfl⟩
 rw [hX] at HE PR q1 q2 q3 hFp
 have KA1:=A0b ka1
 have HAB:Hid (FT ab):=h.cells.2.2.2.2
 have HFT:=A0b hFT
 have HVR:=A0b hvr
 have HVP:=A0b hvp
 have HVO:=A0b hvo
 have HVI:=A0b hvi
 have HKV:=A0b hkv
 have HKS:=A0b hks
 have HL:=A0b hL
 have HLB:=A0b hLB
 have HPO:=A0b hpo
 have HLIM:=A0b hl
 have HFP:=A0b hFp
 have HNUM:Hid ((∀ n∈A.ix.segs,A1j n)∧(∀ n∈A.j.logs,A1j n)∧(∀ n∈kept,A1j n)∧A.ix.segs.length≤1073741824∧A.j.logs.length≤1073741824∧A0P (A.j.last+1)):=⟨hn,hnl,hkn,hsl,hll,hjl⟩
 have HLA:Hid (0≤A.last∧A.last+fresh.length≤9223372036854775807):=hla
 have HKL:=A0b hkl
 have HVL:=A0b vl
 have NSC:=A0b A8f
 have WIDE:Hid (∀ wx AA PP,A0A w FT wx (fun w' FT'=>AD w' ab b AA PP FT')→A0A w (fun k=>FT k∨(Value.slice ka kept.length kcap).ownBlock=some k) wx (fun w' FT'=>AD w' ab b AA PP FT')):=fun wx AA PP hx=>hx.wide fun k hk=>.inl hk
 clear hX hR ka1 hFT hvr hvp hvo hvi hkv hks hL hLB hpo hl hFp hn hnl hkn hsl hll hjl hla hkl h hF hl1 _hkr
 go_enter Tryz.func107,Tryz.ntmps107
 go_wp2_with (fail)
 refine PR.out.mono ?_
 rintro e w1 ⟨rfl,hI1⟩
 have HI1:=A0b (hI1.before KA1.out)
 clear PR hI1
 obtain ⟨X1,X2,X3⟩:=X
 dsimp only at HE q1 q2 q3 HFP HI1
 have Q1:=A0b q1
 have Q2:=A0b q2
 have Q3:=A0b q3
 clear q1 q2 q3
 by_cases hx:X1=0
 case neg=>
  have hR1:R=(X1,X2,X3):=by rw [HE.out,if_pos hx]
  subst hR1
  have hxb:(X1 != 0)=true:=by simpa using hx
  go_wp2
  go_ret
  exact ⟨rfl,WIDE.out _ _ _ HI1.out⟩
 case pos=>
 subst hx
 have HE2:Hid (R=if (PD.newSegs fresh X2.last kept X3).1≠0 then ((PD.newSegs fresh X2.last kept X3).1,{ X2 with last:=(PD.newSegs fresh X2.last kept X3).2.1 },(PD.newSegs fresh X2.last kept X3).2.2.2) else
  if (({ X2 with last:=(PD.newSegs fresh X2.last kept X3).2.1 }:Ar).turn (PD.newSegs fresh X2.last kept X3).2.2.2 (PD.newSegs fresh X2.last kept X3).2.2.1).1≠0 then
   ({ X2 with last:=(PD.newSegs fresh X2.last kept X3).2.1 }:Ar).turn (PD.newSegs fresh X2.last kept X3).2.2.2 (PD.newSegs fresh X2.last kept X3).2.2.1
  else (({ X2 with last:=(PD.newSegs fresh X2.last kept X3).2.1 }:Ar).turn (PD.newSegs fresh X2.last kept X3).2.2.2 (PD.newSegs fresh X2.last kept X3).2.2.1).2.1.close
   (({ X2 with last:=(PD.newSegs fresh X2.last kept X3).2.1 }:Ar).turn (PD.newSegs fresh X2.last kept X3).2.2.2 (PD.newSegs fresh X2.last kept X3).2.2.1).2.2):=by unfold Hid;rw [HE.out,if_neg (by simp)]
 obtain ⟨S,hS⟩:∃ S,PD.newSegs fresh X2.last kept X3=S:=⟨_,rfl⟩
 have HS:=A0b hS
 rw [hS] at HE2
 clear hS HE
 have HKV1:Hid (A5p w1 (.slice ka kept.length kcap) kept):=A0a HKV.out fun g hg=>HI1.out.1.block g (A0c HKV.out hg) (HKS.out g hg).1
 go_wp2
 go_loopw [1,24] (fun v iv wr=>∃ (k:Nat) (kk:List Int) (Pk:PD),iv=.int .i64 k∧k≤fresh.length∧Hid (A5p wr v kk∧kk.length=kept.length+k∧(∀ g,v.ownBlock=some g→(Value.slice ka kept.length kcap).ownBlock=some g∨w.heap.size≤g)∧(∀ x∈kk,A1j x)∧
  A0A w (fun k=>FT k∨(Value.slice ka kept.length kcap).ownBlock=some k) wr (fun w' FT'=>AD w' ab b { X2 with last:=X2.last+k } Pk FT'∧∀ g,v.ownBlock=some g→¬ FT' g)∧Fit Pk (a+k) (c+a+k) (m+17*A1F (fresh.take k)+4*k)∧S=PD.newSegs (fresh.drop k) (X2.last+k) kk Pk)) (fun _ iv _=>fresh.length - (intOf iv).toNat)
 case atStart=>
  obtain ⟨c1,F1,r1,l1,s1⟩:=HI1.out
  refine ⟨0,kept,X3,rfl,by omega,HKV1.out,rfl,fun g hg=>.inl hg,HNUM.out.2.2.1,⟨c1.mono fun _ _ h=>.inl h,F1,⟨by simpa using r1,fun g hg hx=>?_⟩,l1,fun k hk=>(s1 k hk).imp .inl id⟩,by simpa [A1F] using HFP.out,by simpa using HS.out.symm⟩
  rcases s1 g hx with h | h
  ·exact (HKS.out g hg).1 h
  ·have:=A0c HKV.out hg;omega
 case round=>
  obtain ⟨k,kk,Pk,rfl,hk,hI⟩:=hrel
  obtain ⟨i1,i2,i3,i4,i5,i6,i7⟩:=hI.out
  obtain ⟨ap,cp,rfl,hcap1,hcap2,-⟩:=A0g i1
  unfold maxLen at hcap2
  by_cases hk1:k<fresh.length
  ·have hkv:k<vs.length:=by have:=HVL.out;omega
   have hgo:∀ g,(Value.slice fa fresh.length fcap).ownBlock=some g→g<w.heap.size∧¬ (FT g∨(Value.slice ka kept.length kcap).ownBlock=some g):=fun g hg=>⟨A0c HVR.out hg,fun h=>h.elim (HVO.out g hg) (A3F HVR.out HKV.out (by decide) hg)⟩
   obtain ⟨c1,F1,⟨r1,r1k⟩,l1,s1⟩:=i5
   obtain ⟨g,rfl⟩:∃ g,fa=some ⟨g,0,none⟩:=by
    obtain ⟨a',c',e,-,-,hz,-⟩:=A0g HVR.out
    cases e
    exact hz (by omega)
   have d0:w.cell? ⟨g,k,none⟩=some (vs[k]'hkv):=A0j HVR.out rfl (List.getElem?_eq_getElem hkv)
   have d1:=c1.cellKeepS d0 (hgo g rfl).2
   have hin:A1r wr (vs[k]'hkv) (fresh[k]'hk1):=A0a (HVP.out k hkv hk1) fun g' hg=>c1.block g' (A0c (HVP.out k hkv hk1) hg) fun h=>h.elim (HVI.out _ (List.getElem_mem hkv) g' hg) (A3F (HVP.out k hkv hk1) HKV.out (by decide) hg)
   have hpk:=HPO.out _ (List.getElem_mem hk1)
   have htk:fresh.take (k+1)=fresh.take k ++ [fresh[k]'hk1]:=List.take_succ_eq_append_getElem hk1
   have hdr:=List.drop_eq_getElem_cons hk1
   have hsm:=A6X fresh (k+1)
   obtain ⟨xv,hxv⟩:∃ xv,(vs[k]'hkv)=xv:=⟨_,rfl⟩
   rw [hxv] at d0 d1 hin
   obtain ⟨pl,hpl⟩:∃ pl,(fresh[k]'hk1)=pl:=⟨_,rfl⟩
   rw [hpl] at hin hpk htk hdr
   obtain ⟨pa,pcap,rfl,pc1,pc2,-⟩:=A0g hin
   unfold maxLen at pc2
   obtain ⟨L,hLe⟩:∃ L,X2.last+(k:Int)=L:=⟨_,rfl⟩
   have hLr:0≤L∧L+1≤9223372036854775807:=by have:=HLA.out;rw [← hLe,Q3.out];omega
   rw [hLe] at r1 i7
   rw [hdr,NSC.out] at i7
   obtain ⟨e0,e3,z3,hab,hFab⟩:=r1.cells
   dsimp only at e3
   have ew:wrap64 (L+1)=L+1:=by unfold wrap64;omega
   have ew2:IntKind.i64.wrap (L+1)=L+1:=by simp [IntKind.wrap,IntKind.bits,IntKind.signed];omega
   have r5:AD (wr.setCell ⟨ab,3,none⟩ (.int .i64 (L+1))) ab b { X2 with last:=L+1 } Pk F1:=r1.setLast (L+1)
   have hFTab:FT ab∨(Value.slice ka kept.length kcap).ownBlock=some ab:=.inl HAB.out
   have c5:Chg (fun k=>FT k∨(Value.slice ka kept.length kcap).ownBlock=some k) w (wr.setCell ⟨ab,3,none⟩ (.int .i64 (L+1))):=c1.setCell (p:=⟨ab,3,none⟩) (fun _=>hFTab) _
   have r5d:=r5.chg0 (Chg.refl (fun _=>False) (wr.setCell ⟨ab,3,none⟩ (.int .i64 (L+1)))).drew
   have hkab:∀ g',(Value.slice ap kk.length cp).ownBlock=some g'→g'≠ab:=fun g' hg=>r1.neInt i1 hg
   have k5:Chg (One ab) wr (wr.setCell ⟨ab,3,none⟩ (.int .i64 (L+1))).drew:=((Chg.refl (One ab) wr).setAt (b:=ab) rfl 3 _).drew
   have hin5:A1r (wr.setCell ⟨ab,3,none⟩ (.int .i64 (L+1))).drew (.slice pa pl.length pcap) pl:=A0a hin fun g' hg=>k5.block g' (A0c hin hg) fun e=>by
    obtain ⟨xb,jb,sv,ov,lv,jo,Ft,hv,_⟩:=r1
    obtain ⟨c',hc'⟩:=A0f hin hg
    exact A0r hc' hv.blk (by decide) e
   have hkk5:A5p (wr.setCell ⟨ab,3,none⟩ (.int .i64 (L+1))).drew (.slice ap kk.length cp) kk:=A0a i1 fun g' hg=>k5.block g' (A0c i1 hg) (hkab g' hg)
   have l5:∀ k,F1 k→k<(wr.setCell ⟨ab,3,none⟩ (.int .i64 (L+1))).drew.heap.size:=fun k hk=>Nat.lt_of_lt_of_le (l1 k hk) k5.size
   have hB5:∀ k,(FT k∨(Value.slice ka kept.length kcap).ownBlock=some k)→B≤k:=fun k hk=>hk.elim (HLB.out k) fun h=>(HKS.out k h).2
   have hL5:=HL.out.keep c5.drew hB5
   have hlim5:Lim (a+k+1) (c+a+k+1) (m+17*A1F (fresh.take k)+4*k):=by
    have:=HLIM.out;have h2:=A6X fresh k
    exact ⟨by have:=this.a;omega,by have:=this.c;omega,by have:=this.m;omega⟩
   have NSG:=A0b (B3t _ r5d (L+1) _ pl i6 hlim5 (A8C (by omega) (by omega)) hL5 hin5.rd hpk.1 hpk.2)
   have HF6:=A0b (i6.newSeg (L+1) pl)
   obtain ⟨Y,hY⟩:∃ Y,Pk.newSeg (L+1) pl=Y:=⟨_,rfl⟩
   rw [hY] at i7 NSG HF6
   have HSM:Hid (17*A1F (fresh.take (k+1))+4*(k+1)=17*A1F (fresh.take k)+4*k+17*pl.length+4):=by unfold Hid;rw [htk,A2D];simp [A1F];omega
   have HLe:=A0b hLe
   have I2:=A0b i2
   have I3:=A0b i3
   have I4:=A0b i4
   have I7:=A0b i7
   have C5:=A0b c5.drew
   have S1:Hid (∀ k,F1 k→(FT k∨(Value.slice ka kept.length kcap).ownBlock=some k)∨w.heap.size≤k):=s1
   have L5:=A0b l5
   have R1K:=A0b r1k
   have KK5:=A0b hkk5
   have HKAB:=A0b hkab
   have K5:=A0b k5
   have hwr:wr.heap.size=(wr.setCell ⟨ab,3,none⟩ (.int .i64 (L+1))).drew.heap.size:=by show _=(wr.setCell _ _).heap.size;simp
   have SZ5:=A0b hwr
   obtain ⟨f0,f3,-,-,-⟩:=r5d.cells
   dsimp only at f3
   have hki:(k:Int)<(fresh.length:Int):=by omega
   have hk0:(0:Int)≤(k:Int):=Int.natCast_nonneg _
   clear hI i1 i2 i3 i4 i6 i7 c1 r1 r1k l1 s1 d0 hin hpk htk hdr hsm hxv hpl hLe r5 c5 r5d hkab k5 hin5 hkk5 l5 hB5 hL5 hlim5 hY hgo hkv hFTab hFab hwr
   obtain ⟨Y1,Y2⟩:=Y
   dsimp only at NSG I7 HF6
   have AFT:Hid (∀ w6,A0A (wr.setCell ⟨ab,3,none⟩ (.int .i64 (L+1))).drew F1 w6 (fun w' FT'=>AD w' ab b { X2 with last:=L+1 } Y2 FT')→
    (w6.cell? ⟨ab,0,none⟩=some (.pointer (some ⟨b,0,none⟩))∧w6.cell? ⟨ab,3,none⟩=some (.int .i64 (L+1)))∧A0A w (fun k=>FT k∨(Value.slice ka kept.length kcap).ownBlock=some k) w6 (fun w' FT'=>AD w' ab b { X2 with last:=L+1 } Y2 FT')):=fun w6 h6=>by
    obtain ⟨_,F2,h62,_⟩:=h6
    exact ⟨⟨h62.cells.1,h62.cells.2.1⟩,A0A.step C5.out S1.out ⟨‹_›,F2,h62,‹_›⟩⟩
   by_cases hy:Y1=0
   case neg=>
    have hS1:S=(Y1,L+1,kk,Y2):=by rw [I7.out,if_pos hy]
    have hR1:R=(Y1,{ X2 with last:=L+1 },Y2):=by rw [HE2.out,hS1,if_pos hy]
    subst hR1
    have NS2:Hid (Calls Tryz.prog 151 #[.pointer (some ⟨b,0,none⟩),.int .i64 (L+1),.slice pa pl.length pcap] (wr.setCell ⟨ab,3,none⟩ (.int .i64 (L+1))).drew fun e w'=>e=.returned (.tuple #[.pointer none,.int .i64 Y1])∧A0A (wr.setCell ⟨ab,3,none⟩ (.int .i64 (L+1))).drew F1 w' (fun w' FT'=>AD w' ab b { X2 with last:=L+1 } Y2 FT')):=by
     refine NSG.out.mono ?_
     rintro e w' ⟨⟨_,h2⟩ | ⟨h1,_⟩,h3⟩
     ·exact ⟨h2,h3⟩
     ·exact absurd h1 hy
    have hyb:(Y1 != 0)=true:=by simpa using hy
    clear hS1 NSG
    go_wp2
    refine A0e (fun w'=>w'.cell? ⟨ab,0,none⟩=some (.pointer (some ⟨b,0,none⟩))∧w'.cell? ⟨ab,3,none⟩=some (.int .i64 (L+1))) 14
     [(0,true),(1,true),(2,true),(3,true),(4,true),(5,true),(6,true),(7,true),(8,true),(9,false),(10,true),(11,true),(12,true),(13,true)] (by kernel_rfl) (by kernel_rfl) (fun _ _ _ _ _ h=>h) ⟨f0,f3⟩ ?_
    iterate 9 (refine A0d (v:=?_) rfl (by rfl) ?_ ?_;rotate_left;(· (intro w' hS;(try dsimp only at hS);go_simp;try with_reducible rfl));(try simp only [Act.put,List.setIfInBounds_toArray,List.set_cons_zero,List.set_cons_succ,List.getElem_toArray,List.getElem_cons_zero,List.getElem_cons_succ]))
    refine A0i rfl (by rfl) (fun K hK=>?_)
    go_simp
    refine NS2.out.mono ?_
    rintro e w6 ⟨rfl,hI⟩
    refine hK _ _ (AFT.out w6 hI).1 (fun hS=>?_)
    have HI:=A0b (AFT.out w6 hI).2
    clear hK K hS hI NS2 AFT
    (try simp only [Act.put,List.setIfInBounds_toArray,List.set_cons_zero,List.set_cons_succ,List.getElem_toArray,List.getElem_cons_zero,List.getElem_cons_succ])
    iterate 4 (refine A0d (v:=?_) rfl (by rfl) ?_ ?_;rotate_left;(· (intro w' hS;(try dsimp only at hS);go_simp;try with_reducible rfl));(try simp only [Act.put,List.setIfInBounds_toArray,List.set_cons_zero,List.set_cons_succ,List.getElem_toArray,List.getElem_cons_zero,List.getElem_cons_succ]))
    refine A0k ?_
    simp only [List.drop_succ_cons,List.drop_zero]
    go_wp2
    go_ret
    exact ⟨rfl,HI.out⟩
   case pos=>
    subst hy
    have I8:Hid (S=PD.newSegs (fresh.drop (k+1)) (L+1) (kk ++ [L+1]) Y2):=by unfold Hid;rw [I7.out,if_neg (by simp)]
    have NS2:Hid (Calls Tryz.prog 151 #[.pointer (some ⟨b,0,none⟩),.int .i64 (L+1),.slice pa pl.length pcap] (wr.setCell ⟨ab,3,none⟩ (.int .i64 (L+1))).drew fun e w'=>∃ gb,e=.returned (.tuple #[.pointer (some ⟨gb,0,none⟩),.int .i64 0])∧A0A (wr.setCell ⟨ab,3,none⟩ (.int .i64 (L+1))).drew F1 w' (fun w' FT'=>AD w' ab b { X2 with last:=L+1 } Y2 FT')):=by
     refine NSG.out.mono ?_
     rintro e w' ⟨⟨h1,_⟩ | ⟨_,gb,h2⟩,h3⟩
     ·exact absurd rfl h1
     ·exact ⟨gb,h2,h3⟩
    clear NSG I7
    go_wp2
    refine A0e (fun w'=>w'.cell? ⟨ab,0,none⟩=some (.pointer (some ⟨b,0,none⟩))∧w'.cell? ⟨ab,3,none⟩=some (.int .i64 (L+1))) 14
     [(0,true),(1,true),(2,true),(3,true),(4,true),(5,true),(6,true),(7,true),(8,true),(9,false),(10,true),(11,true),(12,true),(13,true)] (by kernel_rfl) (by kernel_rfl) (fun _ _ _ _ _ h=>h) ⟨f0,f3⟩ ?_
    iterate 9 (refine A0d (v:=?_) rfl (by rfl) ?_ ?_;rotate_left;(· (intro w' hS;(try dsimp only at hS);go_simp;try with_reducible rfl));(try simp only [Act.put,List.setIfInBounds_toArray,List.set_cons_zero,List.set_cons_succ,List.getElem_toArray,List.getElem_cons_zero,List.getElem_cons_succ]))
    refine A0i rfl (by rfl) (fun K hK=>?_)
    go_simp
    refine NS2.out.mono ?_
    rintro e w6 ⟨gb,rfl,hI⟩
    refine hK _ _ (AFT.out w6 hI).1 (fun hS=>?_)
    have g63:=(AFT.out w6 hI).1.2
    have HI6:=A0b hI
    clear hK K hS hI NS2 AFT
    (try simp only [Act.put,List.setIfInBounds_toArray,List.set_cons_zero,List.set_cons_succ,List.getElem_toArray,List.getElem_cons_zero,List.getElem_cons_succ])
    iterate 4 (refine A0d (v:=?_) rfl (by rfl) ?_ ?_;rotate_left;(· (intro w' hS;(try dsimp only at hS);go_simp;try with_reducible rfl));(try simp only [Act.put,List.setIfInBounds_toArray,List.set_cons_zero,List.set_cons_succ,List.getElem_toArray,List.getElem_cons_zero,List.getElem_cons_succ]))
    refine A0k ?_
    simp only [List.drop_succ_cons,List.drop_zero]
    have C56:=A0b HI6.out.1
    have KK6:Hid (A5p w6 (.slice ap kk.length cp) kk):=A0a KK5.out fun g' hg=>C56.out.block g' (A0c KK5.out hg) (R1K.out g' hg)
    have HROW:Hid ((w6.alloc (.cells #[.int .i64 (L+1)] 3)).ownsRow 0 3 1 (.slice ap kk.length cp) kk.length (A0X kk)):=A0a KK6.out fun g' hg=>((Chg.refl (fun _=>False) w6).alloc _).block g' (A0c KK6.out hg) (fun h=>h)
    have HSR:=A0b (Src.ofNew (size:=1) (B:=w6.heap.size) Tryz.underlying26 w6 #[.int .i64 (L+1)] 3 (by simp) 1 1 rfl (A1v [L+1]))
    go_wp2_with (at_builtin;refine A0o rfl (.tmp 51) (.tmp 56) 26 26 rfl 3 i0 _ 1 8 Tryz.underlying26 hi hz0 hz1 hz2 rfl (by decide) (.slice ap kk.length cp) kk.length (A0X kk) (by rfl) HROW.out _ 1 _ (by rfl) HSR.out (by have:=I2.out;have:=HKL.out;omega) ?_;intro a8 cap8 w8 hA;have HA:=A0b hA;clear hA)
    go_roundw
    case rel=>
     have hA:=HA.out
     have k7:Chg (fun _=>False) w6 (w6.alloc (.cells #[.int .i64 (L+1)] 3)):=(Chg.refl _ w6).alloc _
     have hA2:=hA.chg (S:=fun k=>(Value.slice ap kk.length cp).ownBlock=some k) fun _ h=>h
     have k8:Chg (fun k=>(Value.slice ap kk.length cp).ownBlock=some k) w6 w8:=(k7.mono fun _ _ h=>h.elim).trans hA2 fun _ h _=>h
     obtain ⟨_,F2,r2,l2,s2⟩:=HI6.out
     have hapF:∀ g',(Value.slice ap kk.length cp).ownBlock=some g'→¬ F2 g':=fun g' hg hx=>by
      rcases s2 g' hx with h | h
      ·exact R1K.out g' hg h
      ·have:=A0c KK5.out hg;omega
     have r8:AD w8 ab b { X2 with last:=L+1 } Y2 F2:=r2.frame (k8.same l2 fun k hk hx=>hapF k hx hk) k8.size
     have hown:∀ g',(Value.slice a8 (kk.length+1) cap8).ownBlock=some g'→(Value.slice ap kk.length cp).ownBlock=some g'∨w6.heap.size≤g':=fun g' hg=>by
      rcases hA.at_ with h | h
      ·rw [h] at hg;exact .inl hg
      ·rw [h] at hg;cases hg;exact .inr k7.size
     have c58:Chg (fun k=>F1 k∨(Value.slice ap kk.length cp).ownBlock=some k) (wr.setCell ⟨ab,3,none⟩ (.int .i64 (L+1))).drew w8:=(C56.out.mono fun _ _ h=>.inl h).trans k8 fun _ h _=>.inr h
     have hap0:∀ g',(Value.slice ap kk.length cp).ownBlock=some g'→(Value.slice ka kept.length kcap).ownBlock=some g'∨w.heap.size≤g':=I3.out
     have c8:Chg (fun k=>FT k∨(Value.slice ka kept.length kcap).ownBlock=some k) w w8:=C5.out.trans c58 fun x hx hlt=>by
      rcases hx with hx | hx
      ·exact (S1.out x hx).resolve_right (by omega)
      ·exact .inr ((hap0 x hx).resolve_right (by omega))
     have eL:X2.last+((k+1:Nat):Int)=L+1:=by have:=HLe.out;omega
     refine ⟨k+1,kk ++ [L+1],Y2,by go_num,by omega,?_,by have:=I2.out;simp;omega,fun g' hg=>?_,fun x hx=>?_,⟨c8,F2,⟨by rw [eL];exact r8,fun g' hg hx=>?_⟩,fun k hk=>Nat.lt_of_lt_of_le (l2 k hk) k8.size,fun k hk=>?_⟩,?_,by rw [eL];exact I8.out⟩
     ·have e:(kk ++ [L+1]).length=kk.length+1:=by simp
      unfold A5p
      rw [A2d,e]
      exact hA.own
     ·rcases hown g' hg with h | h
      ·exact hap0 g' h
      ·have:=c8.size;have:=C5.out.size;have:=C56.out.size;exact .inr (by omega)
     ·rcases List.mem_append.1 hx with hx | hx
      ·exact I4.out x hx
      ·simp at hx;subst hx;exact A8C (by omega) (by omega)
     ·rcases hown g' hg with h | h
      ·exact hapF g' h hx
      ·have:=l2 g' hx;omega
     ·rcases s2 k hk with h | h
      ·exact S1.out k h
      ·have:=C5.out.size;exact .inr (by omega)
     ·have h1:=HF6.out;have h2:=HSM.out
      exact h1.mono (by omega) (by omega) (by omega)
    case measure=>simp [intOf];omega
  ·obtain rfl:k=fresh.length:=by omega
   rw [List.drop_length] at i7
   rw [List.take_length] at i6
   have hS1:S=(0,X2.last+(fresh.length:Int),kk,Pk):=i7
   subst hS1
   have HE3:Hid (R=if (({ X2 with last:=X2.last+(fresh.length:Int) }:Ar).turn Pk kk).1≠0 then ({ X2 with last:=X2.last+(fresh.length:Int) }:Ar).turn Pk kk else (({ X2 with last:=X2.last+(fresh.length:Int) }:Ar).turn Pk kk).2.1.close (({ X2 with last:=X2.last+(fresh.length:Int) }:Ar).turn Pk kk).2.2):=by
    unfold Hid;rw [HE2.out,if_neg (by simp)]
   obtain ⟨A2,hA2⟩:∃ A2:Ar,({ X2 with last:=X2.last+(fresh.length:Int) }:Ar)=A2:=⟨_,rfl⟩
   have eix:A2.ix=A.ix:=by rw [← hA2];exact Q1.out
   have ej:A2.j=A.j:=by rw [← hA2];exact Q2.out
   rw [hA2] at HE3 i5
   obtain ⟨c1,F1,⟨r1,r1k⟩,l1,s1⟩:=i5
   obtain ⟨n1,n2,n3,n4,n5,n6⟩:=HNUM.out
   have hB1:∀ k,(FT k∨(Value.slice ka kept.length kcap).ownBlock=some k)→B≤k:=fun k hk=>hk.elim (HLB.out k) fun h=>(HKS.out k h).2
   have hLw:=HL.out.keep c1 hB1
   have hlim:=HLIM.out
   have hkkl:kk.length≤134217728:=by have:=HKL.out;omega
   have TU:=A0b (B0n wr r1 (.slice ap kk.length cp) kk (A5p.rd i1) (fun g hg=>r1k g hg) (by rw [ej];exact n6) (fun x hx=>by have:=i4 x hx;exact ⟨by have:=this.1;omega,this.2.1⟩) hkkl i6 ⟨by have:=hlim.a;omega,by have:=hlim.c;omega,by have:=hlim.m;omega⟩ hLw)
   have HFT2:Hid (Fit (A2.turn Pk kk).2.2 (a+fresh.length+2) (c+a+fresh.length+2) (m+17*A1F fresh+4*fresh.length+12+8*kk.length)):=i6.arTurn kk
   have hsh:=A8h A2 Pk kk
   have HSEG:Hid ((∀ n∈(A2.turn Pk kk).2.1.ix.segs,A1j n)∧(A2.turn Pk kk).2.1.ix.segs.length≤1073741824):=by
    rcases hsh.1 with h | h
    ·rw [h,eix];exact ⟨n1,n4⟩
    ·rw [h];exact ⟨i4,by omega⟩
   have HLOG:Hid ((∀ n∈(A2.turn Pk kk).2.1.j.logs,A1j n)∧(A2.turn Pk kk).2.1.j.logs.length≤1073741824):=by
    rcases hsh.2 with h | h
    ·rw [h,ej];exact ⟨n2,n5⟩
    ·rw [h];exact ⟨fun n hn=>by simp at hn,by simp⟩
   obtain ⟨T,hT⟩:∃ T,A2.turn Pk kk=T:=⟨_,rfl⟩
   rw [hT] at HE3 TU HFT2 HSEG HLOG
   have AFT:Hid (∀ w2 AA PP,A0A wr (fun k=>F1 k∨(Value.slice ap kk.length cp).ownBlock=some k) w2 (fun w' FT'=>AD w' ab b AA PP FT')→A0A w (fun k=>FT k∨(Value.slice ka kept.length kcap).ownBlock=some k) w2 (fun w' FT'=>AD w' ab b AA PP FT')):=fun w2 AA PP h2=>
    A0A.step c1 (fun k hk=>hk.elim (fun h=>s1 k h) fun h=>(i3 k h).imp (fun h=>.inr h) id) h2
   have HLT:Hid (∀ w2,Chg (fun k=>FT k∨(Value.slice ka kept.length kcap).ownBlock=some k) w w2→A2i B w2):=fun w2 h2=>HL.out.keep h2 hB1
   have I2:=A0b i2
   have hki:¬ ((fresh.length:Int)<(fresh.length:Int)):=by omega
   obtain ⟨T1,T2,T3⟩:=T
   dsimp only at HE3 TU HFT2 HSEG HLOG
   clear hI i1 i2 i3 i4 i6 i7 hA2 eix ej c1 r1 r1k l1 s1 n1 n2 n3 n4 n5 n6 hB1 hLw hlim hsh hT HE2 HS NSC hkkl
   by_cases ht:T1=0
   case neg=>
    have hR1:R=(T1,T2,T3):=by rw [HE3.out,if_pos ht]
    subst hR1
    have htb:(T1 != 0)=true:=by simpa using ht
    go_wp2_with (go_at_call 152;refine TU.out.mono ?_;rintro e w6 ⟨rfl,hc6⟩;have HC6:=A0b (AFT.out w6 _ _ hc6);clear hc6)
    go_ret
    exact ⟨rfl,HC6.out⟩
   case pos=>
    subst ht
    have hR1:R=T2.close T3:=by rw [HE3.out,if_neg (by simp)]
    have HR1:=A0b hR1
    clear hR1 HE3
    go_wp2_with (fail)
    refine TU.out.mono ?_
    rintro e w6 ⟨rfl,hI6⟩
    have hI7:=AFT.out w6 _ _ hI6
    have HI7:=A0b hI7
    obtain ⟨c6,F6,r6,l6,s6⟩:=hI7
    have k7:Chg (fun _=>False) w6 (w6.alloc (.cells #[.func (Fn.func 150) #[.pointer (some ⟨ab,0,none⟩)] #[],.func (Fn.func 86) #[.pointer (some ⟨b,0,none⟩)] #[]] 50)):=(Chg.refl _ w6).alloc _
    have hlim:=HLIM.out
    have CL:=A0b (B2U _ w6.heap.size (r6.chg0 k7) (fun k hk=>Nat.lt_of_lt_of_le (l6 k hk) k7.size) (fun hx=>Nat.lt_irrefl _ (l6 _ hx)) (by simp) (heap_alloc_new w6 _) HFT2.out ⟨by have:=hlim.a;omega,by have:=hlim.c;omega,by have:=hlim.m;have:=I2.out;omega⟩ HSEG.out.1 HLOG.out.1 HSEG.out.2 HLOG.out.2 ((HLT.out w6 c6).keep0 k7))
    rw [← HR1.out] at CL
    have g0:=r6.cells.1
    have FIN:Hid (∀ w9,A0A (w6.alloc (.cells #[.func (Fn.func 150) #[.pointer (some ⟨ab,0,none⟩)] #[],.func (Fn.func 86) #[.pointer (some ⟨b,0,none⟩)] #[]] 50)) F6 w9 (fun w' FT'=>AD w' ab b R.2.1 R.2.2 FT')→A0A w (fun k=>FT k∨(Value.slice ka kept.length kcap).ownBlock=some k) w9 (fun w' FT'=>AD w' ab b R.2.1 R.2.2 FT')):=fun w9 h9=>A0A.step c6 s6 (h9.before k7)
    clear HR1
    obtain ⟨Z1,Z2,Z3⟩:=R
    dsimp only at CL FIN ⊢
    clear hI6 c6 r6 l6 s6 k7 hlim TU AFT
    go_wp2_with (go_at_call 117;refine CL.out.mono ?_;rintro e w9 ⟨rfl,hc9⟩;have HC9:=A0b (FIN.out w9 hc9);clear hc9)
    go_ret
    exact ⟨rfl,HC9.out⟩
end
end Go.Proofs.YtodcnkbblippnaaGreatDoor
namespace Go.Proofs.YtodcnkbblippnaaGreatDoor
open Go.RowKit
attribute [local go_sem ↓] A0p
section
variable {w w':World} {ab b xb jb B:Nat} {sv ov lv jo:Value} {A:Ar} {P P':PD} {Ft FT:Nat→Prop} {a c m:Nat} {J':Jn}
theorem ArV.jd (h:ArV w ab b xb jb sv ov lv jo A P Ft):JD w jb b A.j P (fun k=>Ft k∨A3M jb lv jo k):=
 ⟨lv,jo,Ft,h.jn,h.dk,h.lt,fun k hk=>h.sepD k (.inr (.inr (.inr (.inr hk)))),fun _ h=>h⟩
theorem ArV.jdTo (h:ArV w ab b xb jb sv ov lv jo A P Ft) (hsub:∀ k,Ft k∨A8Z ab xb jb sv ov lv jo k→FT k) (hI:A0A w (fun k=>Ft k∨A3M jb lv jo k) w' (fun w' FT'=>JD w' jb b J' P' FT')):A0A w FT w' (fun w' FT'=>AD w' ab b { A with j:=J' } P' FT'):=by
 obtain ⟨hc,F2,⟨lv',jo',Ft',h1,h2,h3,h4,h5⟩,hl,hs⟩:=hI
 have hold:∀ k,(k=ab∨k=xb∨sv.ownBlock=some k∨ov.ownBlock=some k)→k<w.heap.size∧¬ Ft k∧¬ A3M jb lv jo k:=fun k hk=>by
  rcases hk with rfl | rfl | hk | hk
  ·exact ⟨h.blk.lt,h.sepD _ (.inl rfl),fun hx=>(h.sepJ _ hx).1 rfl⟩
  ·exact ⟨h.ix.lt,h.sepD _ (.inr (.inl rfl)),fun hx=>(h.sepJ _ hx).2 rfl⟩
  ·exact ⟨h.segs.lt hk,h.sepD k (.inr (.inr (.inl hk))),(h.sepS k hk).2.2⟩
  ·exact ⟨h.loose.lt hk,h.sepD k (.inr (.inr (.inr (.inl hk)))),(h.sepO k hk).2.2⟩
 have keep:∀ k,(k=ab∨k=xb∨sv.ownBlock=some k∨ov.ownBlock=some k)→w'.heap[k]?=w.heap[k]?:=fun k hk=>hc.block k (hold k hk).1 fun hx=>hx.elim (hold k hk).2.1 (hold k hk).2.2
 have out:∀ k,(k=ab∨k=xb∨sv.ownBlock=some k∨ov.ownBlock=some k)→¬ Ft' k∧¬ A3M jb lv' jo' k:=fun k hk=>
  ⟨fun hx=>(hs k (h5 k (.inl hx))).elim (fun hy=>hy.elim (hold k hk).2.1 (hold k hk).2.2) fun hy=>by have:=(hold k hk).1;omega,
   fun hx=>(hs k (h5 k (.inr hx))).elim (fun hy=>hy.elim (hold k hk).2.1 (hold k hk).2.2) fun hy=>by have:=(hold k hk).1;omega⟩
 have hnew:ArV w' ab b xb jb sv ov lv' jo' { A with j:=J' } P' Ft':=by
  refine ⟨(keep ab (.inl rfl)).trans h.blk,(keep xb (.inr (.inl rfl))).trans h.ix,h.segs.frame fun g hg=>keep g (.inr (.inr (.inl hg))),h.loose.frame fun g hg=>keep g (.inr (.inr (.inr hg))),h1,h2,h3,fun k hk=>?_,fun g hg=>?_,fun g hg=>?_,fun k hk=>?_⟩
  ·rcases hk with hk | hk | hk | hk | hk
   ·exact (out k (.inl hk)).1
   ·exact (out k (.inr (.inl hk))).1
   ·exact (out k (.inr (.inr (.inl hk)))).1
   ·exact (out k (.inr (.inr (.inr hk)))).1
   ·exact h4 k hk
  ·exact ⟨(h.sepS g hg).1,(h.sepS g hg).2.1,(out g (.inr (.inr (.inl hg)))).2⟩
  ·exact ⟨(h.sepO g hg).1,(h.sepO g hg).2.1,(out g (.inr (.inr (.inr hg)))).2⟩
  ·exact ⟨fun e=>(out ab (.inl rfl)).2 (e ▸ hk),fun e=>(out xb (.inr (.inl rfl))).2 (e ▸ hk)⟩
 have sub:∀ k,(Ft k∨A3M jb lv jo k)→FT k:=fun k hk=>hk.elim (fun h=>hsub k (.inl h)) fun h=>hsub k (.inr (.inr (.inr (.inr (.inr h)))))
 refine hnew.into hc (fun k _ hk=>sub k hk) (fun k hk=>(hs k (h5 k (.inl hk))).imp (sub k) id) fun k hk=>?_
 rcases hk with hk | hk | hk | hk | hk
 ·exact .inl (hsub k (.inr (.inl hk)))
 ·exact .inl (hsub k (.inr (.inr (.inl hk))))
 ·exact .inl (hsub k (.inr (.inr (.inr (.inl hk)))))
 ·exact .inl (hsub k (.inr (.inr (.inr (.inr (.inl hk))))))
 ·exact (hs k (h5 k (.inr hk))).imp (sub k) id
set_option maxRecDepth 100000 in
set_option maxHeartbeats 8000000 in
theorem B2t (w:World) (p:Pu) (h:AD w ab b A P FT) (hFT:∀ k,FT k→k<w.heap.size) (hp:A4q p) (hn:A.j.own=none→A1j (A.j.last+1)∧A0P (A.j.last+1)∧A0P A.j.puts) (hll:A.j.logs.length≤1073741824) (hL:A2i B w) (hLB:∀ k,FT k→B≤k) (hF:Fit P a c m) (hl:Lim (a+1) (c+1) (m+33)):
 Calls Tryz.prog 105 #[.pointer (some ⟨ab,0,none⟩),A2t p] w fun e w'=>e=.returned (.tuple #[.bool (A.add P p).1,.int .i64 (A.add P p).2.1])∧A0A w FT w' (fun w' FT'=>AD w' ab b (A.add P p).2.2.1 (A.add P p).2.2.2 FT'):=by
 obtain ⟨p1,p2,p3⟩:=p
 unfold A2t
 dsimp only
 obtain ⟨s1,s2,s3⟩:=A3i A P
 have pbk:A0V (w.alloc (.cells #[.int .i64 p1,.int .i64 p2,.int .i64 p3] 113)) w.heap.size p1 p2 p3:=heap_alloc_new w _
 have k0:Chg (fun _=>False) w (w.alloc (.cells #[.int .i64 p1,.int .i64 p2,.int .i64 p3] 113)):=(Chg.refl _ w).alloc _
 have ST:=A0b (A6O _ (h.chg0 k0))
 have HE:Hid (A.add P (p1,p2,p3)=if (A.settle P).1≠0 then (false,(A.settle P).1,(A.settle P).2.1,(A.settle P).2.2) else
  (((A.settle P).2.1.j.add (A.settle P).2.2 (p1,p2,p3)).1,((A.settle P).2.1.j.add (A.settle P).2.2 (p1,p2,p3)).2.1,{ (A.settle P).2.1 with j:=((A.settle P).2.1.j.add (A.settle P).2.2 (p1,p2,p3)).2.2.1 },((A.settle P).2.1.j.add (A.settle P).2.2 (p1,p2,p3)).2.2.2)):=rfl
 have hFs:=hF.settle (A:=A)
 obtain ⟨R,hR⟩:∃ R,A.add P (p1,p2,p3)=R:=⟨_,rfl⟩
 rw [hR] at HE ⊢
 obtain ⟨X,hX⟩:∃ X,A.settle P=X:=⟨_,rfl⟩
 rw [hX] at HE ST s1 s2 s3 hFs
 obtain ⟨X1,X2,X3⟩:=X
 dsimp only at HE ST s1 s2 s3 hFs
 have sz:w.heap.size<(w.alloc (.cells #[.int .i64 p1,.int .i64 p2,.int .i64 p3] 113)).heap.size:=by simp
 have JA:Hid (∀ w2,A0A (w.alloc (.cells #[.int .i64 p1,.int .i64 p2,.int .i64 p3] 113)) FT w2 (fun w' FT'=>AD w' ab b X2 X3 FT')→∃ jb,w2.cell? ⟨ab,2,none⟩=some (.pointer (some ⟨jb,0,none⟩))∧A0V w2 w.heap.size p1 p2 p3∧
  Calls Tryz.prog 148 #[.pointer (some ⟨jb,0,none⟩),.agg #[.int .i64 p1,.int .i64 p2,.int .i64 p3]] w2.drew fun e w'=>e=.returned (.tuple #[.bool (X2.j.add X3 (p1,p2,p3)).1,.int .i64 (X2.j.add X3 (p1,p2,p3)).2.1])∧
   (w'.cell? ⟨ab,2,none⟩=some (.pointer (some ⟨jb,0,none⟩))∧A0V w' w.heap.size p1 p2 p3)∧A0A w FT w' (fun w' FT'=>AD w' ab b { X2 with j:=(X2.j.add X3 (p1,p2,p3)).2.2.1 } (X2.j.add X3 (p1,p2,p3)).2.2.2 FT')):=fun w2 h2=>by
  obtain ⟨c2,F2,⟨xb,jb,sv,ov,lv,jo,Ft,hv,hsub⟩,l2,q2⟩:=h2
  have kd:Chg (fun _=>False) w2 w2.drew:=(Chg.refl _ w2).drew
  have hvd:=hv.chg0 kd
  have np:¬ FT w.heap.size:=fun hx=>Nat.lt_irrefl _ (hFT _ hx)
  have np2:¬ F2 w.heap.size:=fun hx=>by rcases q2 _ hx with h | h;exact np h;omega
  have pb2:=pbk.keep c2 np
  refine ⟨jb,hv.blk.c2,pb2,(B3C w2.drew (p1,p2,p3) hvd.jd hp (by rw [s2];exact hn) (by rw [s2];exact hll) (((hL.keep0 k0).keep c2 hLB).keep0 kd) hFs hl).mono ?_⟩
  rintro e w' ⟨rfl,hI⟩
  have hfoot:∀ k,(Ft k∨A3M jb lv jo k)→F2 k:=fun k hk=>hk.elim (fun h=>hsub k (.inl h)) fun h=>hsub k (.inr (.inr (.inr (.inr (.inr h)))))
  refine ⟨rfl,⟨(hvd.blk.keep hI.1 fun hx=>hx.elim (hv.sepD _ (.inl rfl)) fun hx=>(hv.sepJ _ hx).1 rfl).c2,pb2.drew.keep hI.1 fun hx=>np2 (hfoot _ hx)⟩,?_⟩
  exact ((A0A.step (c2.drew) q2 (hvd.jdTo hsub hI)).before k0)
 have BEF:Hid (∀ wx AA PP,A0A (w.alloc (.cells #[.int .i64 p1,.int .i64 p2,.int .i64 p3] 113)) FT wx (fun w' FT'=>AD w' ab b AA PP FT')→A0A w FT wx (fun w' FT'=>AD w' ab b AA PP FT')):=fun wx AA PP hx=>hx.before k0
 clear hR hX h hFT hp hn hll hL hLB hF hl s1 s2 s3 hFs pbk k0 sz
 by_cases hx:X1=0
 case neg=>
  have hR1:R=(false,X1,X2,X3):=by rw [HE.out,if_pos hx]
  subst hR1
  have hxb:(X1 != 0)=true:=by simpa using hx
  go_enter Tryz.func105,Tryz.ntmps105
  go_wp2_with (go_at_call 118;refine ST.out.mono ?_;rintro e w2 ⟨rfl,hI⟩;have HI:=A0b (BEF.out _ _ _ hI);clear hI)
  go_ret2
  exact ⟨rfl,HI.out⟩
 case pos=>
  subst hx
  have hR1:R=((X2.j.add X3 (p1,p2,p3)).1,(X2.j.add X3 (p1,p2,p3)).2.1,{ X2 with j:=(X2.j.add X3 (p1,p2,p3)).2.2.1 },(X2.j.add X3 (p1,p2,p3)).2.2.2):=by rw [HE.out,if_neg (by simp)]
  obtain ⟨Y,hY⟩:∃ Y,X2.j.add X3 (p1,p2,p3)=Y:=⟨_,rfl⟩
  rw [hY] at JA hR1
  obtain ⟨Y0,Y1,Y2,Y3⟩:=Y
  dsimp only at JA hR1
  subst hR1
  clear HE hY BEF
  go_enter Tryz.func105,Tryz.ntmps105
  go_wp2_with (fail)
  refine ST.out.mono ?_
  rintro e w2 ⟨rfl,hI⟩
  obtain ⟨jb,c22,pb2,AL⟩:=JA.out w2 hI
  have HAL:=A0b AL
  have d2:w2.drew.cell? ⟨ab,2,none⟩=some (.pointer (some ⟨jb,0,none⟩)):=c22
  have e0:=pb2.drew.c0
  have e1:=pb2.drew.c1
  have e2:=pb2.drew.c2
  clear hI AL JA ST c22 pb2
  go_wp2
  refine A0e (fun w'=>w'.cell? ⟨ab,2,none⟩=some (.pointer (some ⟨jb,0,none⟩))∧w'.cell? ⟨w.heap.size,0,none⟩=some (.int .i64 p1)∧w'.cell? ⟨w.heap.size,1,none⟩=some (.int .i64 p2)∧w'.cell? ⟨w.heap.size,2,none⟩=some (.int .i64 p3)) 8
   [(0,true),(1,true),(2,true),(3,true),(4,true),(5,false),(6,true),(7,true)] (by kernel_rfl) (by kernel_rfl) (fun _ _ _ _ _ h=>h) ⟨d2,e0,e1,e2⟩ ?_
  iterate 5 (refine A0d (v:=?_) rfl (by rfl) ?_ ?_;rotate_left;(· (intro w' hS;(try dsimp only at hS);go_simp;try with_reducible rfl));(try simp only [Act.put,List.setIfInBounds_toArray,List.set_cons_zero,List.set_cons_succ,List.getElem_toArray,List.getElem_cons_zero,List.getElem_cons_succ]))
  refine A0i rfl (by rfl) (fun K hK=>?_)
  go_simp
  refine HAL.out.mono ?_
  rintro e w3 ⟨rfl,⟨e4,eb⟩,hI⟩
  refine hK _ _ ⟨e4,eb.c0,eb.c1,eb.c2⟩ (fun hS=>?_)
  have HI:=A0b hI
  clear hK K hS hI e4 eb HAL
  (try simp only [Act.put,List.setIfInBounds_toArray,List.set_cons_zero,List.set_cons_succ,List.getElem_toArray,List.getElem_cons_zero,List.getElem_cons_succ])
  iterate 2 (refine A0d (v:=?_) rfl (by rfl) ?_ ?_;rotate_left;(· (intro w' hS;(try dsimp only at hS);go_simp;try with_reducible rfl));(try simp only [Act.put,List.setIfInBounds_toArray,List.set_cons_zero,List.set_cons_succ,List.getElem_toArray,List.getElem_cons_zero,List.getElem_cons_succ]))
  refine A0k ?_
  simp only [List.drop_succ_cons,List.drop_zero]
  go_wp2
  go_ret2
  exact ⟨rfl,HI.out⟩
end
end Go.Proofs.YtodcnkbblippnaaGreatDoor
