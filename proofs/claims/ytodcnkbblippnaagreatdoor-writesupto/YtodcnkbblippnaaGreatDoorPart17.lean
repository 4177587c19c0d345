/-
  The statement WritesUptoCardSaid is proved: the law Writes answers true for every setting and every script of at most 1048576 bytes; there is no other condition.
  Part 17 of 33.
-/
import Derived.Test.YtodcnkbblippnaaGreatDoorPart16
namespace Go.Proofs.YtodcnkbblippnaaGreatDoor
open Go.RowKit
attribute [local go_sem ↓] A0p
theorem B2W:∃ i0,Tryz.prog.info? 3=some i0∧i0.zero=some (.int .i64 0)∧i0.size=1∧i0.bytes=8:=by
 have h:=Tryz.infoInt
 cases hx:Tryz.prog.info? 3 with
 | none=>rw [hx] at h;cases h
 | some i=>rw [hx] at h;simp at h;exact ⟨i,rfl,h.1,h.2.1,h.2.2⟩
section
variable {w:World} {b B jb lb:Nat} {P:PD} {Ft FT:Nat→Prop} {a c m:Nat} {lv ov:Value} {J:Jn} {n:Int}
set_option maxRecDepth 100000 in
set_option maxHeartbeats 8000000 in
theorem B2Y (w:World) (h:JD w jb b J P FT) (ho:J.own=none) (hn:A1j (J.last+1)) (hr:A0P (J.last+1)) (hp:A0P J.puts) (hll:J.logs.length≤1073741824) (hL:A2i B w) (hF:Fit P a c m) (hl:Lim (a+1) (c+1) (m+12)):
 Calls Tryz.prog 190 #[.pointer (some ⟨jb,0,none⟩)] w fun e w'=>e=.returned (.int .i64 (J.begin P).1)∧A0A w FT w' (fun w' FT'=>JD w' jb b (J.begin P).2.1 (J.begin P).2.2 FT'):=by
 obtain ⟨i0,hi,hz0,hz1,hz2⟩:=B2W
 obtain ⟨lv,ov,Ft,hJ,hD,hlt,hdis,hsub⟩:=h
 have hov:ov=.pointer none:=by
  rcases hJ.own with ⟨_,h⟩ | ⟨n,s,lb,h,_⟩
  ·exact h
  ·rw [ho] at h;cases h
 subst hov
 have HB:Hid (J.begin P=if (P.create (nmB (A0l (J.last+1)))).1≠0 then ((P.create (nmB (A0l (J.last+1)))).1,J,(P.create (nmB (A0l (J.last+1)))).2) else
  if ((P.create (nmB (A0l (J.last+1)))).2.add (nmB (A0l (J.last+1))) (A1m (A0l (J.last+1))) (A1h J.puts)).2.1≠0 then (((P.create (nmB (A0l (J.last+1)))).2.add (nmB (A0l (J.last+1))) (A1m (A0l (J.last+1))) (A1h J.puts)).2.1,J,((P.create (nmB (A0l (J.last+1)))).2.add (nmB (A0l (J.last+1))) (A1m (A0l (J.last+1))) (A1h J.puts)).2.2) else
  (0,⟨J.logs ++ [J.last+1],J.last+1,J.puts,some (J.last+1,A0w (A1m (A0l (J.last+1))) (A1h J.puts))⟩,((P.create (nmB (A0l (J.last+1)))).2.add (nmB (A0l (J.last+1))) (A1m (A0l (J.last+1))) (A1h J.puts)).2.2)):=rfl
 have NL:Hid (∀ w1,Chg (fun _=>False) w w1→_):=fun w1 hc=>B4O w1 J.puts (A0R.same hD hlt hc) (fun k hk=>Nat.lt_of_lt_of_le (hlt k hk) hc.size) hn (hL.keep0 hc) hp hF hl
 have NX:Hid (∀ w1,Chg (fun _=>False) w w1→_):=fun w1 hc=>B0d w1 (hJ.chg0 hc) hr
 obtain ⟨R,hR⟩:∃ R,J.begin P=R:=⟨_,rfl⟩
 rw [hR] at HB ⊢
 obtain ⟨L,hLL⟩:∃ L,J.last+1=L:=⟨_,rfl⟩
 rw [hLL] at HB NL NX hr hn
 have hlb:(A0l L).length≤100:=A6c hn.2.2
 obtain ⟨nm,hnm⟩:∃ nm,A0l L=nm:=⟨_,rfl⟩
 rw [hnm] at HB NL
 obtain ⟨s0,hs0⟩:∃ s0,A1m nm=s0:=⟨_,rfl⟩
 have hs0l:s0<4294967296:=by rw [← hs0];exact A4O nm
 rw [hs0] at HB NL
 obtain ⟨C,hC⟩:∃ C,P.create (nmB nm)=C:=⟨_,rfl⟩
 rw [hC] at HB NL
 obtain ⟨A,hA⟩:∃ A,C.2.add (nmB nm) s0 (A1h J.puts)=A:=⟨_,rfl⟩
 rw [hA] at HB NL
 have hs1:A0w s0 (A1h J.puts)<4294967296:=A3J _ _ hs0l
 obtain ⟨s1,hs1e⟩:∃ s1,A0w s0 (A1h J.puts)=s1:=⟨_,rfl⟩
 rw [hs1e] at HB NL hs1
 have c0:=hJ.blk.drew.c0
 have c3:=hJ.blk.drew.c3
 have HJ:=A0b hJ
 have HD:=A0b hdis
 have HS:=A0b hsub
 have HLT:=A0b hlt
 have HO:=A0b ho
 have HLLE:=A0b hLL
 have HNM:=A0b hnm
 have HLEN:=A0b hll
 have NXD:=A0b (NX.out w.drew (Chg.refl _ w).drew)
 have NLD:=A0b (NL.out w.drew (Chg.refl _ w).drew)
 clear hC hA hR hs0 hs0l hs1e hlb hnm hLL hJ hD hlt hdis hsub ho hll hL hF hl hp NX NL
 have KEEP:Hid (∀ wx,Chg Ft w.drew wx→JnV wx jb b lv (.pointer none) J):=fun wx hx=>(HJ.out.chg0 (Chg.refl (fun _=>False) w).drew).chg hx HD.out
 have ERR:Hid (∀ wx (P1:PD),A0A w.drew Ft wx (fun w' Ft'=>A1A w' b P1 Ft')→A0A w FT wx (fun w' FT'=>JD w' jb b J P1 FT')):=fun wx P1 hx=>by
  obtain ⟨r1,Ft',r2,r3,r4⟩:=hx
  exact A0A.jd ((Chg.refl Ft w).drew.trans r1 fun _ h _=>h) (fun k _ hk=>HS.out k (.inl hk)) (KEEP.out wx r1) r2 r3 (fun k hk hx=>by rcases r4 k hx with h | h;exact HD.out k hk h;have:=HJ.out.lt hk;have h':w.heap.size≤k:=h;omega) (fun k hk=>(r4 k hk).imp (fun h=>HS.out k (.inl h)) id) (fun k hk=>.inl (HS.out k (.inr hk)))
 by_cases hc:C.1=0
 case neg=>
  have hR1:R=(C.1,J,C.2):=by rw [HB.out,if_pos hc]
  subst hR1
  have NL1:Hid (Calls Tryz.prog 236 #[.pointer (some ⟨b,0,none⟩),.int .i64 L,.int .i64 J.puts] w.drew fun e w'=>e=.returned (.tuple #[.pointer none,.int .i64 C.1])∧A0A w.drew Ft w' (fun w' Ft'=>A1A w' b C.2 Ft')):=by
   refine NLD.out.mono ?_
   rintro e w' (⟨_,h2,h3⟩ | ⟨h1,_⟩ | ⟨h1,_⟩)
   ·exact ⟨h2,h3⟩
   ·exact absurd h1 hc
   ·exact absurd h1 hc
  have hcb:(C.1 != 0)=true:=by simpa using hc
  obtain ⟨C1,C2⟩:=C
  dsimp only at NL1 hcb ⊢
  clear NLD HB
  go_enter Tryz.func190,Tryz.ntmps190
  go_wp2
  refine A0e (fun w'=>w'.cell? ⟨jb,0,none⟩=some (.pointer (some ⟨b,0,none⟩))∧w'.cell? ⟨jb,3,none⟩=some (.int .i64 J.puts)) 15
   [(0,true),(1,true),(2,true),(3,true),(4,true),(6,true),(7,true),(8,true),(9,true),(5,false),(10,false),(11,true),(12,true),(13,true),(14,true)] (by kernel_rfl) (by kernel_rfl) (fun _ _ _ _ _ h=>h) ⟨c0,c3⟩ ?_
  iterate 9 (refine A0d (v:=?_) rfl (by rfl) ?_ ?_;rotate_left;(· (intro w' hS;(try dsimp only at hS);go_simp;try with_reducible rfl));(try simp only [Act.put,List.setIfInBounds_toArray,List.set_cons_zero,List.set_cons_succ,List.getElem_toArray,List.getElem_cons_zero,List.getElem_cons_succ]))
  refine A0i rfl (by rfl) (fun K hK=>?_)
  go_simp
  refine NXD.out.mono ?_
  rintro e w3 ⟨rfl,rfl⟩
  refine hK _ _ ⟨c0,c3⟩ (fun hS=>?_)
  clear hK K hS
  (try simp only [Act.put,List.setIfInBounds_toArray,List.set_cons_zero,List.set_cons_succ,List.getElem_toArray,List.getElem_cons_zero,List.getElem_cons_succ])
  refine A0i rfl (by rfl) (fun K hK=>?_)
  go_simp
  refine NL1.out.mono ?_
  rintro e w4 ⟨rfl,hI⟩
  have k4:=KEEP.out w4 hI.1
  refine hK _ _ ⟨k4.blk.c0,k4.blk.c3⟩ (fun hS=>?_)
  have HI:=A0b (ERR.out w4 C2 hI)
  clear hK K hS hI k4 NL1 ERR KEEP
  (try simp only [Act.put,List.setIfInBounds_toArray,List.set_cons_zero,List.set_cons_succ,List.getElem_toArray,List.getElem_cons_zero,List.getElem_cons_succ])
  iterate 4 (refine A0d (v:=?_) rfl (by rfl) ?_ ?_;rotate_left;(· (intro w' hS;(try dsimp only at hS);go_simp;try with_reducible rfl));(try simp only [Act.put,List.setIfInBounds_toArray,List.set_cons_zero,List.set_cons_succ,List.getElem_toArray,List.getElem_cons_zero,List.getElem_cons_succ]))
  refine A0k ?_
  simp only [List.drop_succ_cons,List.drop_zero]
  go_wp2
  go_ret
  exact ⟨rfl,HI.out⟩
 case pos=>
 by_cases ha:A.2.1=0
 case neg=>
  have hR1:R=(A.2.1,J,A.2.2):=by rw [HB.out,if_neg (by simpa using hc),if_pos ha]
  subst hR1
  have NL1:Hid (Calls Tryz.prog 236 #[.pointer (some ⟨b,0,none⟩),.int .i64 L,.int .i64 J.puts] w.drew fun e w'=>e=.returned (.tuple #[.pointer none,.int .i64 A.2.1])∧A0A w.drew Ft w' (fun w' Ft'=>A1A w' b A.2.2 Ft')):=by
   refine NLD.out.mono ?_
   rintro e w' (⟨h1,_⟩ | ⟨_,_,h2,h3⟩ | ⟨_,h1,_⟩)
   ·exact absurd hc h1
   ·exact ⟨h2,h3⟩
   ·exact absurd h1 ha
  have hcb:(A.2.1 != 0)=true:=by simpa using ha
  obtain ⟨A0,A1,A2⟩:=A
  dsimp only at NL1 hcb ⊢
  clear NLD HB
  go_enter Tryz.func190,Tryz.ntmps190
  go_wp2
  refine A0e (fun w'=>w'.cell? ⟨jb,0,none⟩=some (.pointer (some ⟨b,0,none⟩))∧w'.cell? ⟨jb,3,none⟩=some (.int .i64 J.puts)) 15
   [(0,true),(1,true),(2,true),(3,true),(4,true),(6,true),(7,true),(8,true),(9,true),(5,false),(10,false),(11,true),(12,true),(13,true),(14,true)] (by kernel_rfl) (by kernel_rfl) (fun _ _ _ _ _ h=>h) ⟨c0,c3⟩ ?_
  iterate 9 (refine A0d (v:=?_) rfl (by rfl) ?_ ?_;rotate_left;(· (intro w' hS;(try dsimp only at hS);go_simp;try with_reducible rfl));(try simp only [Act.put,List.setIfInBounds_toArray,List.set_cons_zero,List.set_cons_succ,List.getElem_toArray,List.getElem_cons_zero,List.getElem_cons_succ]))
  refine A0i rfl (by rfl) (fun K hK=>?_)
  go_simp
  refine NXD.out.mono ?_
  rintro e w3 ⟨rfl,rfl⟩
  refine hK _ _ ⟨c0,c3⟩ (fun hS=>?_)
  clear hK K hS
  (try simp only [Act.put,List.setIfInBounds_toArray,List.set_cons_zero,List.set_cons_succ,List.getElem_toArray,List.getElem_cons_zero,List.getElem_cons_succ])
  refine A0i rfl (by rfl) (fun K hK=>?_)
  go_simp
  refine NL1.out.mono ?_
  rintro e w4 ⟨rfl,hI⟩
  have k4:=KEEP.out w4 hI.1
  refine hK _ _ ⟨k4.blk.c0,k4.blk.c3⟩ (fun hS=>?_)
  have HI:=A0b (ERR.out w4 A2 hI)
  clear hK K hS hI k4 NL1 ERR KEEP
  (try simp only [Act.put,List.setIfInBounds_toArray,List.set_cons_zero,List.set_cons_succ,List.getElem_toArray,List.getElem_cons_zero,List.getElem_cons_succ])
  iterate 4 (refine A0d (v:=?_) rfl (by rfl) ?_ ?_;rotate_left;(· (intro w' hS;(try dsimp only at hS);go_simp;try with_reducible rfl));(try simp only [Act.put,List.setIfInBounds_toArray,List.set_cons_zero,List.set_cons_succ,List.getElem_toArray,List.getElem_cons_zero,List.getElem_cons_succ]))
  refine A0k ?_
  simp only [List.drop_succ_cons,List.drop_zero]
  go_wp2
  go_ret
  exact ⟨rfl,HI.out⟩
 case pos=>
  have hR1:R=(0,⟨J.logs ++ [L],L,J.puts,some (L,s1)⟩,A.2.2):=by rw [HB.out,if_neg (by simpa using hc),if_neg (by simpa using ha)]
  subst hR1
  have NL1:Hid (Calls Tryz.prog 236 #[.pointer (some ⟨b,0,none⟩),.int .i64 L,.int .i64 J.puts] w.drew fun e w'=>∃ lb,e=.returned (.tuple #[.pointer (some ⟨lb,0,none⟩),.int .i64 0])∧w.drew.heap.size≤lb∧A0z w' lb 237 (.pointer (some ⟨b,0,none⟩)) ⟨nm.toArray⟩ s1∧Chg Ft w.drew w'∧∃ Ft',A1A w' b A.2.2 Ft'∧(∀ k,Ft' k→k<w'.heap.size)∧(∀ k,Ft' k→Ft k∨w.drew.heap.size≤k)∧¬ Ft' lb):=by
   refine NLD.out.mono ?_
   rintro e w' (⟨h1,_⟩ | ⟨_,h1,_⟩ | ⟨_,_,h2⟩)
   ·exact absurd hc h1
   ·exact absurd ha h1
   ·exact h2
  obtain ⟨A0,A1,A2⟩:=A
  dsimp only at NL1 ⊢
  clear NLD HB ERR
  go_enter Tryz.func190,Tryz.ntmps190
  go_wp2
  refine A0e (fun w'=>w'.cell? ⟨jb,0,none⟩=some (.pointer (some ⟨b,0,none⟩))∧w'.cell? ⟨jb,3,none⟩=some (.int .i64 J.puts)) 15
   [(0,true),(1,true),(2,true),(3,true),(4,true),(6,true),(7,true),(8,true),(9,true),(5,false),(10,false),(11,true),(12,true),(13,true),(14,true)] (by kernel_rfl) (by kernel_rfl) (fun _ _ _ _ _ h=>h) ⟨c0,c3⟩ ?_
  iterate 9 (refine A0d (v:=?_) rfl (by rfl) ?_ ?_;rotate_left;(· (intro w' hS;(try dsimp only at hS);go_simp;try with_reducible rfl));(try simp only [Act.put,List.setIfInBounds_toArray,List.set_cons_zero,List.set_cons_succ,List.getElem_toArray,List.getElem_cons_zero,List.getElem_cons_succ]))
  refine A0i rfl (by rfl) (fun K hK=>?_)
  go_simp
  refine NXD.out.mono ?_
  rintro e w3 ⟨rfl,rfl⟩
  refine hK _ _ ⟨c0,c3⟩ (fun hS=>?_)
  clear hK K hS
  (try simp only [Act.put,List.setIfInBounds_toArray,List.set_cons_zero,List.set_cons_succ,List.getElem_toArray,List.getElem_cons_zero,List.getElem_cons_succ])
  refine A0i rfl (by rfl) (fun K hK=>?_)
  go_simp
  refine NL1.out.mono ?_
  rintro e w4 ⟨lb,rfl,hlb,hfl,hc4,Ft4,q1,q2,q3,q4⟩
  have k4:=KEEP.out w4 hc4
  refine hK _ _ ⟨k4.blk.c0,k4.blk.c3⟩ (fun hS=>?_)
  have K4:=A0b k4
  have HLB:Hid (w.heap.size≤lb):=hlb
  have HFL:=A0b hfl
  have C4:Hid (Chg Ft w w4):=(Chg.refl Ft w).drew.trans hc4 fun _ h _=>h
  have Q1:=A0b q1
  have Q2:=A0b q2
  have Q3:Hid (∀ k,Ft4 k→Ft k∨w.heap.size≤k):=q3
  have Q4:=A0b q4
  clear hK K hS hc4 hlb hfl q1 q2 q3 q4 NL1 KEEP
  (try simp only [Act.put,List.setIfInBounds_toArray,List.set_cons_zero,List.set_cons_succ,List.getElem_toArray,List.getElem_cons_zero,List.getElem_cons_succ])
  iterate 4 (refine A0d (v:=?_) rfl (by rfl) ?_ ?_;rotate_left;(· (intro w' hS;(try dsimp only at hS);go_simp;try with_reducible rfl));(try simp only [Act.put,List.setIfInBounds_toArray,List.set_cons_zero,List.set_cons_succ,List.getElem_toArray,List.getElem_cons_zero,List.getElem_cons_succ]))
  refine A0k ?_
  simp only [List.drop_succ_cons,List.drop_zero]
  have b5:=K4.out.blk.s4 (.pointer (some ⟨lb,0,none⟩))
  have g44:=k4.blk.c4
  have f44:=k4.blk.fz 4
  have g52:=b5.c2
  have f52:=b5.fz 2
  have B6:=A0b (b5.s2 L)
  have ew:wrap64 (J.last+1)=L:=by have:=HLLE.out;have:=hr.1;have:=hr.2;unfold wrap64;omega
  have ew2:IntKind.i64.wrap (J.last+1)=L:=by have:=HLLE.out;have:=hr.1;have:=hr.2;simp [IntKind.wrap,IntKind.bits,IntKind.signed];omega
  have c5:Chg (One jb) w4 ((w4.setCell ⟨jb,4,none⟩ (.pointer (some ⟨lb,0,none⟩))).setCell ⟨jb,2,none⟩ (.int .i64 L)):=((Chg.refl (One jb) w4).setAt (b:=jb) rfl 4 _).setAt (b:=jb) rfl 2 _
  have C5:=A0b c5
  clear b5 k4 c5
  have HNE:Hid (lb≠jb):=HFL.out.neJn K4.out.blk
  have HNL:Hid (∀ g,lv.ownBlock=some g→g≠jb∧g≠lb):=fun g hg=>⟨K4.out.ne hg,HFL.out.neInt K4.out.logs hg⟩
  go_wp2
  generalize (w4.setCell ⟨jb,4,none⟩ (.pointer (some ⟨lb,0,none⟩))).setCell ⟨jb,2,none⟩ (.int .i64 L)=w6 at B6 C5 ⊢
  have LG6:Hid (w6.ownsRow 0 3 1 lv J.logs.length (A0X J.logs)):=A0a K4.out.logs fun g hg=>C5.out.block g (A0c K4.out.logs hg) (HNL.out g hg).1
  have FL6:=A0b (HFL.out.keep C5.out HNE.out)
  have D1:=B6.out.drew.c1
  have D2:=B6.out.drew.c2
  obtain ⟨ap,cp,rfl,hcap1,hcap2,-⟩:=A0g LG6.out
  unfold maxLen at hcap2
  refine A0e (fun w'=>w'.cell? ⟨jb,1,none⟩=some (.slice ap J.logs.length cp)∧w'.cell? ⟨jb,2,none⟩=some (.int .i64 L)) 11
   [(0,true),(1,true),(2,true),(3,true),(4,true),(5,true),(6,true),(7,true),(8,true),(9,false),(10,false)] (by kernel_rfl) (by kernel_rfl) (fun _ _ _ _ _ h=>h) ⟨D1,D2⟩ ?_
  iterate 9 (refine A0d (v:=?_) rfl (by rfl) ?_ ?_;rotate_left;(· (intro w' hS;(try dsimp only at hS);go_simp;try with_reducible rfl));(try simp only [Act.put,List.setIfInBounds_toArray,List.set_cons_zero,List.set_cons_succ,List.getElem_toArray,List.getElem_cons_zero,List.getElem_cons_succ]))
  refine A0i rfl (by rfl) (fun K hK=>?_)
  go_simp
  have ka:Chg (fun _=>False) w6 (w6.alloc (.cells #[.int .i64 L] 3)).drew:=((Chg.refl _ _).alloc _).drew
  have B7:=B6.out.keep ka (fun h=>h)
  have LG7:Hid ((w6.alloc (.cells #[.int .i64 L] 3)).drew.ownsRow 0 3 1 (.slice ap J.logs.length cp) J.logs.length (A0X J.logs)):=A0a LG6.out fun g hg=>ka.block g (A0c LG6.out hg) (fun h=>h)
  have HSRC:Hid (Src Tryz.prog 1 26 (.slice (some ⟨w6.heap.size,0,none⟩) 1 1) 1 #[.int .i64 L].toList (w6.alloc (.cells #[.int .i64 L] 3)).drew):=by
   have hb:(w6.alloc (.cells #[.int .i64 L] 3)).drew.heap[w6.heap.size]?=some (.cells #[.int .i64 L] 3 (0,0)):=heap_alloc_new w6 _
   exact Src.ofBlock Tryz.underlying26 hb 1 1 rfl (A1v [L])
  refine hK _ _ ⟨B7.c1,B7.c2⟩ (fun hS=>?_)
  clear hK K hS
  (try simp only [Act.put,List.setIfInBounds_toArray,List.set_cons_zero,List.set_cons_succ,List.getElem_toArray,List.getElem_cons_zero,List.getElem_cons_succ])
  refine A0i rfl (by rfl) (fun K hK=>?_)
  refine A3q (.tmp 37) (.tmp 42) 26 26 rfl 3 i0 _ 1 8 Tryz.underlying26 hi hz0 hz1 hz2 rfl (by decide) (.slice ap J.logs.length cp) J.logs.length (A0X J.logs) (by rfl) LG7.out _ 1 _ (by rfl) HSRC.out (by have:=HLEN.out;omega) ?_
  intro a8 cap8 w8 hA
  have hA2:=hA.chg (S:=fun k=>(Value.slice ap J.logs.length cp).ownBlock=some k) fun _ h=>h
  have B8:=B7.keep hA2 (fun h=>(HNL.out _ h).1 rfl)
  refine hK _ _ ⟨B8.c1,B8.c2⟩ (fun hS=>?_)
  have g81:=B8.c1
  have f81:=B8.fz 1
  have B9:=A0b (B8.s1 (.slice a8 (J.logs.length+1) cap8))
  have FL8:=A0b ((FL6.out.keep ka (fun h=>h)).keep hA2 (fun h=>(HNL.out _ h).2 rfl))
  have HOWN:=A0b hA.own
  have HAT:=A0b hA.at_
  have K8:Hid (Chg (fun k=>(Value.slice ap J.logs.length cp).ownBlock=some k) w6 w8):=(ka.mono fun _ _ h=>h.elim).trans hA2 fun _ h _=>h
  have S8:Hid (w6.heap.size≤w8.heap.size∧w6.heap.size≤(w6.alloc (.cells #[.int .i64 L] 3)).drew.heap.size):=⟨K8.out.size,ka.size⟩
  clear hK K hS hA hA2 ka B7 B8 LG7 HSRC
  (try simp only [Act.put,List.setIfInBounds_toArray,List.set_cons_zero,List.set_cons_succ,List.getElem_toArray,List.getElem_cons_zero,List.getElem_cons_succ])
  refine A0k ?_
  simp only [List.drop_succ_cons,List.drop_zero]
  go_wp2
  go_ret
  have hown8:∀ g,(Value.slice a8 (J.logs.length+1) cap8).ownBlock=some g→(Value.slice ap J.logs.length cp).ownBlock=some g∨w6.heap.size≤g:=fun g hg=>by
   rcases HAT.out with h | h
   ·rw [h] at hg;exact .inl hg
   ·rw [h] at hg;cases hg;exact .inr S8.out.2
  have s46:=C5.out.size
  have s04:=C4.out.size
  have jbl:=HJ.out.blk.lt
  have hne8:∀ g,(Value.slice a8 (J.logs.length+1) cap8).ownBlock=some g→g≠jb:=fun g hg=>by
   rcases hown8 g hg with h | h
   ·exact (HNL.out g h).1
   ·omega
  have kf:Chg (One jb) w8 (w8.setCell ⟨jb,1,none⟩ (.slice a8 (J.logs.length+1) cap8)):=(Chg.refl (One jb) w8).setAt (b:=jb) rfl 1 _
  have k48:Chg (fun k=>k=jb∨(Value.slice ap J.logs.length cp).ownBlock=some k) w4 (w8.setCell ⟨jb,1,none⟩ (.slice a8 (J.logs.length+1) cap8)):=
   ((C5.out.mono fun _ _ h=>.inl h).trans K8.out fun _ h _=>.inr h).trans kf fun _ h _=>.inl h
  refine ⟨rfl,A0A.jd (lv:=.slice a8 (J.logs.length+1) cap8) (ov:=.pointer (some ⟨lb,0,none⟩)) (Ft:=Ft4) ((C4.out.mono (S':=fun k=>Ft k∨k=jb∨(Value.slice ap J.logs.length cp).ownBlock=some k) fun _ _ h=>.inl h).trans k48 fun _ h _=>.inr h) ?_ ⟨B9.out,?_,.inr ⟨L,s1,lb,rfl,rfl,?_,hs1⟩⟩ ?_ ?_ ?_ ?_ ?_⟩
  ·rintro k _ (h | rfl | h)
   ·exact HS.out k (.inl h)
   ·exact HS.out _ (.inr (.inl rfl))
   ·exact HS.out k (.inr (.inr (.inl h)))
  ·have e:(J.logs ++ [L]).length=J.logs.length+1:=by simp
   unfold A5p
   rw [A2d,e]
   exact A0a HOWN.out fun g hg=>Below.heap_setCell _ _ _ _ (fun e=>hne8 g hg e)
  ·rw [HNM.out]
   exact FL8.out.keep kf HNE.out
  ·refine A0R.frame Q1.out (k48.same Q2.out fun k hk hx=>?_)
   rcases Q3.out k hk with h | h
   ·rcases hx with rfl | hx
    ·exact HD.out _ (.inl rfl) h
    ·exact HD.out k (.inr (.inl hx)) h
   ·rcases hx with rfl | hx
    ·omega
    ·have:=A0c HJ.out.logs hx;omega
  ·exact fun k hk=>Nat.lt_of_lt_of_le (Q2.out k hk) k48.size
  ·rintro k (rfl | hk | hk) hx
   ·rcases Q3.out _ hx with h | h
    ·exact HD.out _ (.inl rfl) h
    ·omega
   ·rcases hown8 k hk with h | h
    ·rcases Q3.out k hx with h' | h'
     ·exact HD.out k (.inr (.inl h)) h'
     ·have:=A0c HJ.out.logs h;omega
    ·have:=Q2.out k hx;omega
   ·cases hk;exact Q4.out hx
  ·exact fun k hk=>(Q3.out k hk).imp (fun h=>HS.out k (.inl h)) id
  ·rintro k (rfl | hk | hk)
   ·exact .inl (HS.out _ (.inr (.inl rfl)))
   ·rcases hown8 k hk with h | h
    ·exact .inl (HS.out k (.inr (.inr (.inl h))))
    ·exact .inr (by omega)
   ·cases hk;exact .inr HLB.out
end
end Go.Proofs.YtodcnkbblippnaaGreatDoor
namespace Go.Proofs.YtodcnkbblippnaaGreatDoor
open Go.RowKit
attribute [local go_sem ↓] A0p
theorem A7B {w:World} {jb b:Nat} {lv ov:Value} {J:Jn} (h:JnV w jb b lv ov J) {n:Int} {s:Nat} (ho:J.own=some (n,s)):∃ lb,ov=.pointer (some ⟨lb,0,none⟩)∧A0z w lb 237 (.pointer (some ⟨b,0,none⟩)) ⟨(A0l n).toArray⟩ s∧s<4294967296:=by
 rcases h.own with ⟨h1,_⟩ | ⟨n',s',lb,h1,h2,h3,h4⟩
 ·rw [ho] at h1;cases h1
 ·rw [ho] at h1;cases h1;exact ⟨lb,h2,h3,h4⟩
section
variable {w w' w1 w2:World} {b B jb lb pb:Nat} {P:PD} {Ft FT:Nat→Prop} {a c m:Nat} {lv ov:Value} {J:Jn} {n:Int} {s:Nat}
theorem JnV.ownTo {P':PD} (hJ:JnV w jb b lv (.pointer (some ⟨lb,0,none⟩)) J) (ho:J.own=some (n,s)) (_hlt:∀ k,Ft k→k<w.heap.size) (hdis:∀ k,A3M jb lv (.pointer (some ⟨lb,0,none⟩)) k→¬ Ft k) (hsub:∀ k,Ft k∨A3M jb lv (.pointer (some ⟨lb,0,none⟩)) k→FT k) {s':Nat} (hs':s'<4294967296)
 (hf:A0z w' lb 237 (.pointer (some ⟨b,0,none⟩)) ⟨(A0l n).toArray⟩ s') (hI:A9b w Ft lb w' b P'):
 A0A w FT w' (fun w' FT'=>JD w' jb b { J with own:=some (n,s') } P' FT'):=by
 obtain ⟨lb',e,h3,_⟩:=A7B hJ ho
 cases e
 obtain ⟨r1,Ft',r2,r3,r4⟩:=hI
 have n1:lb≠jb:=h3.neJn hJ.blk
 have n2:∀ g,lv.ownBlock=some g→g≠lb:=fun g hg=>h3.neInt hJ.logs hg
 refine A0A.jd r1 ?_ ⟨hJ.blk.keep r1 ?_,?_,.inr ⟨n,s',lb,rfl,rfl,hf,hs'⟩⟩ r2 r3 ?_ ?_ ?_
 ·rintro k _ (h | rfl)
  ·exact hsub k (.inl h)
  ·exact hsub _ (.inr (.inr (.inr rfl)))
 ·rintro (h | h)
  ·exact hdis _ (.inl rfl) h
  ·exact n1 h.symm
 ·exact A0a hJ.logs fun g hg=>r1.block g (A0c hJ.logs hg) fun h=>by
   rcases h with h | h
   ·exact hdis g (.inr (.inl hg)) h
   ·exact n2 g hg h
 ·exact fun k hk hx=>by
   rcases r4 k hx with h | h
   ·exact hdis k hk h
   ·have:=hJ.lt hk;omega
 ·exact fun k hk=>(r4 k hk).imp (fun h=>hsub k (.inl h)) id
 ·exact fun k hk=>.inl (hsub k (.inr hk))
set_option maxRecDepth 100000 in
set_option maxHeartbeats 8000000 in
theorem B3C (w:World) (p:Pu) (h:JD w jb b J P FT) (hp:A4q p) (hn:J.own=none→A1j (J.last+1)∧A0P (J.last+1)∧A0P J.puts) (hll:J.logs.length≤1073741824) (hL:A2i B w) (hF:Fit P a c m) (hl:Lim (a+1) (c+1) (m+33)):
 Calls Tryz.prog 148 #[.pointer (some ⟨jb,0,none⟩),A2t p] w fun e w'=>e=.returned (.tuple #[.bool (J.add P p).1,.int .i64 (J.add P p).2.1])∧A0A w FT w' (fun w' FT'=>JD w' jb b (J.add P p).2.2.1 (J.add P p).2.2.2 FT'):=by
 obtain ⟨p1,p2,p3⟩:=p
 unfold A2t
 dsimp only
 obtain ⟨lv0,ov0,Ft0,hJ0,hD0,hlt0,hdis0,hsub0⟩:=h
 have hl1:Lim (a+1) (c+1) (m+12):=⟨hl.a,hl.c,by have:=hl.m;omega⟩
 have pbk:A0V (w.alloc (.cells #[.int .i64 p1,.int .i64 p2,.int .i64 p3] 113)) w.heap.size p1 p2 p3:=heap_alloc_new w _
 have k0:Chg (fun _=>False) w (w.alloc (.cells #[.int .i64 p1,.int .i64 p2,.int .i64 p3] 113)):=(Chg.refl _ w).alloc _
 have sz:w.heap.size<(w.alloc (.cells #[.int .i64 p1,.int .i64 p2,.int .i64 p3] 113)).heap.size:=by simp
 have hex:JD w jb b J P (fun k=>Ft0 k∨A3M jb lv0 ov0 k):=⟨lv0,ov0,Ft0,hJ0,hD0,hlt0,hdis0,fun _ h=>h⟩
 have hlx:∀ k,(Ft0 k∨A3M jb lv0 ov0 k)→k<w.heap.size:=fun k hk=>hk.elim (hlt0 k) fun h=>hJ0.lt h
 have h1:JD (w.alloc (.cells #[.int .i64 p1,.int .i64 p2,.int .i64 p3] 113)) jb b J P (fun k=>Ft0 k∨A3M jb lv0 ov0 k):=hex.frame (k0.same hlx fun _ _ h=>h) k0.size
 have hL1:=hL.keep0 k0
 have AD:Hid (∀ (w1:World) (J1:Jn) (P1:PD) (FT1:Nat→Prop) (n:Int) (s:Nat),Chg (fun k=>Ft0 k∨A3M jb lv0 ov0 k) (w.alloc (.cells #[.int .i64 p1,.int .i64 p2,.int .i64 p3] 113)) w1→(∀ k,FT1 k→(Ft0 k∨A3M jb lv0 ov0 k)∨(w.alloc (.cells #[.int .i64 p1,.int .i64 p2,.int .i64 p3] 113)).heap.size≤k)→JD w1 jb b J1 P1 FT1→J1.own=some (n,s)→Fit P1 (a+1) (c+1) (m+12)→
  ∃ lb,w1.cell? ⟨jb,4,none⟩=some (.pointer (some ⟨lb,0,none⟩))∧A0V w1 w.heap.size p1 p2 p3∧Calls Tryz.prog 191 #[.pointer (some ⟨lb,0,none⟩),.agg #[.int .i64 p1,.int .i64 p2,.int .i64 p3]] w1.drew fun e w'=>e=.returned (.tuple #[.bool (J1.put P1 (p1,p2,p3)).1,.int .i64 (J1.put P1 (p1,p2,p3)).2.1])∧
   w'.cell? ⟨jb,4,none⟩=some (.pointer (some ⟨lb,0,none⟩))∧A0V w' w.heap.size p1 p2 p3∧A0A w FT w' (fun w' FT'=>JD w' jb b (J1.put P1 (p1,p2,p3)).2.2.1 (J1.put P1 (p1,p2,p3)).2.2.2 FT')):=fun w1 J1 P1 FT1 n s hc1 hs1 hd1 ho1 hF1=>by
  obtain ⟨lv,ov,Ft,hJ,hD,hlt,hdis,hsub⟩:=hd1
  obtain ⟨lb,rfl,h3,h4⟩:=A7B hJ ho1
  have hpb1:=pbk.keep hc1 (fun hx=>by have:=hlx _ hx;omega)
  have hnp:¬ FT1 w.heap.size:=fun hx=>by
   rcases hs1 _ hx with h | h
   ·have:=hlx _ h;omega
   ·omega
  have kd:Chg (fun _=>False) w1 w1.drew:=(Chg.refl _ w1).drew
  have hJd:=hJ.chg0 kd
  have hltd:∀ k,Ft k→k<w1.drew.heap.size:=hlt
  refine ⟨lb,hJ.blk.c4,hpb1,(B4M (p1,p2,p3) _ s (h3.keep kd (fun h=>h)) h4 (A0R.same hD hlt kd) hltd (fun hx=>hdis _ (.inr (.inr rfl)) hx) hp hF1 ⟨hl.a,hl.c,by have:=hl.m;omega⟩).mono ?_⟩
  rintro e w' ⟨rfl,hf,hI⟩
  have he:J1.put P1 (p1,p2,p3)=((P1.add (nmB (A0l n)) s (A1N p1 p2 p3)).1,(P1.add (nmB (A0l n)) s (A1N p1 p2 p3)).2.1,{ J1 with own:=some (n,A0w s (A1N p1 p2 p3)) },(P1.add (nmB (A0l n)) s (A1N p1 p2 p3)).2.2):=by unfold Jn.put;rw [ho1]
  rw [he]
  have hjd:=JnV.ownTo hJd ho1 hltd hdis hsub (A3J s (A1N p1 p2 p3) h4) hf hI
  have c4':A1g w' jb b lv J1.last J1.puts (.pointer (some ⟨lb,0,none⟩)):=hJd.blk.keep hI.1 (by
   rintro (h | h)
   ·exact hdis _ (.inl rfl) h
   ·exact h3.neJn hJ.blk h.symm)
  refine ⟨rfl,c4'.c4,hpb1.drew.keep hI.1 (by
   rintro (h | h)
   ·exact hnp (hsub _ (.inl h))
   ·exact hnp (hsub _ (.inr (.inr (.inr (by rw [h])))))),?_⟩
  have hall:A0A (w.alloc (.cells #[.int .i64 p1,.int .i64 p2,.int .i64 p3] 113)) (fun k=>Ft0 k∨A3M jb lv0 ov0 k) w' (fun w' FT'=>JD w' jb b { J1 with own:=some (n,A0w s (A1N p1 p2 p3)) } (P1.add (nmB (A0l n)) s (A1N p1 p2 p3)).2.2 FT'):=by
   obtain ⟨q1,Ft',q2,q3,q4⟩:=hjd.before kd
   exact ⟨hc1.trans q1 fun x hx hlt=>(hs1 x hx).resolve_right (by omega),Ft',q2,q3,fun k hk=>(q4 k hk).elim (fun h=>hs1 k h) fun h=>.inr (Nat.le_trans hc1.size h)⟩
  exact (hall.before k0).wide hsub0
 by_cases ho:J.own=none
 case pos=>
  have hov:ov0=.pointer none:=by
   rcases hJ0.own with ⟨_,h⟩ | ⟨n,s,lb,h,_⟩
   ·exact h
   ·rw [ho] at h;cases h
  obtain ⟨n1,n2,n3⟩:=hn ho
  have BG:=A0b (B2Y _ h1 ho n1 n2 n3 hll hL1 hF hl1)
  have c4:=(hJ0.chg0 k0).blk.c4
  rw [hov] at c4
  have HE:Hid (J.add P (p1,p2,p3)=if (J.begin P).1≠0 then (false,(J.begin P).1,(J.begin P).2.1,(J.begin P).2.2) else (J.begin P).2.1.put (J.begin P).2.2 (p1,p2,p3)):=by unfold Hid Jn.add;rw [if_pos ho]
  have HF2:Hid (Fit (J.begin P).2.2 (a+1) (c+1) (m+12)):=by
   have hp:(A0L (A1m (A0l (J.last+1))) (A1h J.puts)).length=12:=by simp [A0L,A1i,A0v]
   have hFc:=hF.create (nmB (A0l (J.last+1)))
   have hFa:=hFc.append (nmB (A0l (J.last+1))) (A0L (A1m (A0l (J.last+1))) (A1h J.puts))
   rw [hp] at hFa
   unfold Hid Jn.begin
   split
   ·exact hFc.mono (Nat.le_refl _) (Nat.le_refl _) (by omega)
   ·dsimp only
    split
    ·exact hFa
    ·exact hFa
  have HO:Hid ((J.begin P).1=0→∃ n s,(J.begin P).2.1.own=some (n,s)):=fun h0=>by
   unfold Jn.begin at h0 ⊢
   split
   ·rename_i hc;rw [if_pos hc] at h0;exact absurd h0 hc
   ·rename_i hc
    rw [if_neg hc] at h0
    dsimp only at h0 ⊢
    split
    ·rename_i hd;rw [if_pos hd] at h0;exact absurd h0 hd
    ·exact ⟨_,_,rfl⟩
  have HEX:Hid (∀ wx JJ PP,A0A (w.alloc (.cells #[.int .i64 p1,.int .i64 p2,.int .i64 p3] 113)) (fun k=>Ft0 k∨A3M jb lv0 ov0 k) wx (fun w' FT'=>JD w' jb b JJ PP FT')→A0A w FT wx (fun w' FT'=>JD w' jb b JJ PP FT')):=fun wx JJ PP hx=>(hx.before k0).wide hsub0
  obtain ⟨R,hR⟩:∃ R,J.add P (p1,p2,p3)=R:=⟨_,rfl⟩
  rw [hR] at HE ⊢
  obtain ⟨G,hG⟩:∃ G,J.begin P=G:=⟨_,rfl⟩
  rw [hG] at BG HE HF2 HO
  obtain ⟨G1,G2,G3⟩:=G
  dsimp only at BG HE HF2 HO
  clear hR hG hJ0 hD0 hlt0 hdis0 hsub0 hex h1 hL1 hF hl hl1 hp hn hll hL ho pbk k0 sz hlx n1 n2 n3
  by_cases hg:G1=0
  case neg=>
   have hR1:R=(false,G1,G2,G3):=by rw [HE.out,if_pos hg]
   subst hR1
   have hgb:(G1 != 0)=true:=by simpa using hg
   go_enter Tryz.func148,Tryz.ntmps148
   go_wp2_with (go_at_call 190;refine BG.out.mono ?_;rintro e w2 ⟨rfl,hI⟩;have HI:=A0b (HEX.out _ _ _ hI);clear hI)
   go_ret2
   exact ⟨rfl,HI.out⟩
  case pos=>
   subst hg
   have hR1:R=G2.put G3 (p1,p2,p3):=by rw [HE.out,if_neg (by simp)]
   obtain ⟨n,s,hos⟩:=HO.out rfl
   have AD2:Hid (∀ w2,A0A (w.alloc (.cells #[.int .i64 p1,.int .i64 p2,.int .i64 p3] 113)) (fun k=>Ft0 k∨A3M jb lv0 ov0 k) w2 (fun w' FT'=>JD w' jb b G2 G3 FT')→∃ lb,w2.cell? ⟨jb,4,none⟩=some (.pointer (some ⟨lb,0,none⟩))∧A0V w2 w.heap.size p1 p2 p3∧Calls Tryz.prog 191 #[.pointer (some ⟨lb,0,none⟩),.agg #[.int .i64 p1,.int .i64 p2,.int .i64 p3]] w2.drew fun e w'=>e=.returned (.tuple #[.bool R.1,.int .i64 R.2.1])∧
    w'.cell? ⟨jb,4,none⟩=some (.pointer (some ⟨lb,0,none⟩))∧A0V w' w.heap.size p1 p2 p3∧A0A w FT w' (fun w' FT'=>JD w' jb b R.2.2.1 R.2.2.2 FT')):=fun w2 hI=>by
    obtain ⟨q1,FT1,q2,q3,q4⟩:=hI
    rw [hR1]
    exact AD.out w2 G2 G3 FT1 n s q1 q4 q2 hos HF2.out
   clear hR1 hos HE HF2 HO HEX AD
   obtain ⟨R0,R1,R2,R3⟩:=R
   dsimp only at AD2
   go_enter Tryz.func148,Tryz.ntmps148
   go_wp2_with (fail)
   refine BG.out.mono ?_
   rintro e w2 ⟨rfl,hI⟩
   obtain ⟨lb,c24,pb2,AL⟩:=AD2.out w2 hI
   have HAL:=A0b AL
   have d4:w2.drew.cell? ⟨jb,4,none⟩=some (.pointer (some ⟨lb,0,none⟩)):=c24
   have d0:=pb2.drew.c0
   have d1:=pb2.drew.c1
   have d2:=pb2.drew.c2
   clear hI AL AD2 BG c4 c24 pb2
   go_wp2
   refine A0e (fun w'=>w'.cell? ⟨jb,4,none⟩=some (.pointer (some ⟨lb,0,none⟩))∧w'.cell? ⟨w.heap.size,0,none⟩=some (.int .i64 p1)∧w'.cell? ⟨w.heap.size,1,none⟩=some (.int .i64 p2)∧w'.cell? ⟨w.heap.size,2,none⟩=some (.int .i64 p3)) 8
    [(0,true),(1,true),(2,true),(3,true),(4,true),(5,false),(6,true),(7,true)] (by kernel_rfl) (by kernel_rfl) (fun _ _ _ _ _ h=>h) ⟨d4,d0,d1,d2⟩ ?_
   iterate 5 (refine A0d (v:=?_) rfl (by rfl) ?_ ?_;rotate_left;(· (intro w' hS;(try dsimp only at hS);go_simp;try with_reducible rfl));(try simp only [Act.put,List.setIfInBounds_toArray,List.set_cons_zero,List.set_cons_succ,List.getElem_toArray,List.getElem_cons_zero,List.getElem_cons_succ]))
   refine A0i rfl (by rfl) (fun K hK=>?_)
   go_simp
   refine HAL.out.mono ?_
   rintro e w3 ⟨rfl,e4,eb,hI⟩
   refine hK _ _ ⟨e4,eb.c0,eb.c1,eb.c2⟩ (fun hS=>?_)
   have HI:=A0b hI
   clear hK K hS hI e4 eb HAL
   (try simp only [Act.put,List.setIfInBounds_toArray,List.set_cons_zero,List.set_cons_succ,List.getElem_toArray,List.getElem_cons_zero,List.getElem_cons_succ])
   iterate 2 (refine A0d (v:=?_) rfl (by rfl) ?_ ?_;rotate_left;(· (intro w' hS;(try dsimp only at hS);go_simp;try with_reducible rfl));(try simp only [Act.put,List.setIfInBounds_toArray,List.set_cons_zero,List.set_cons_succ,List.getElem_toArray,List.getElem_cons_zero,List.getElem_cons_succ]))
   refine A0k ?_
   simp only [List.drop_succ_cons,List.drop_zero]
   go_wp2
   go_ret2
   exact ⟨rfl,HI.out⟩
 case neg=>
  obtain ⟨⟨n,s⟩,hos⟩:∃ x,J.own=some x:=Option.ne_none_iff_exists'.1 ho
  obtain ⟨lb0,hov,-,-⟩:=A7B hJ0 hos
  have hR1:J.add P (p1,p2,p3)=J.put P (p1,p2,p3):=by unfold Jn.add;rw [if_neg ho]
  obtain ⟨lb,c24,pb2,AL⟩:=AD.out _ J P _ n s (Chg.refl _ _) (fun k hk=>.inl hk) h1 hos (hF.mono (by omega) (by omega) (by omega))
  rw [← hR1] at AL
  obtain ⟨R,hR⟩:∃ R,J.add P (p1,p2,p3)=R:=⟨_,rfl⟩
  rw [hR] at AL ⊢
  obtain ⟨R0,R1,R2,R3⟩:=R
  dsimp only at AL ⊢
  have HAL:=A0b AL
  have d4:(w.alloc (.cells #[.int .i64 p1,.int .i64 p2,.int .i64 p3] 113)).drew.cell? ⟨jb,4,none⟩=some (.pointer (some ⟨lb,0,none⟩)):=c24
  have d0:=pb2.drew.c0
  have d1:=pb2.drew.c1
  have d2:=pb2.drew.c2
  clear hR hR1 AL hJ0 hD0 hlt0 hdis0 hsub0 hex h1 hL1 hF hl hl1 hp hn hll hL ho pbk k0 sz hlx hos hov pb2 AD
  go_enter Tryz.func148,Tryz.ntmps148
  go_wp2
  refine A0e (fun w'=>w'.cell? ⟨jb,4,none⟩=some (.pointer (some ⟨lb,0,none⟩))∧w'.cell? ⟨w.heap.size,0,none⟩=some (.int .i64 p1)∧w'.cell? ⟨w.heap.size,1,none⟩=some (.int .i64 p2)∧w'.cell? ⟨w.heap.size,2,none⟩=some (.int .i64 p3)) 8
   [(0,true),(1,true),(2,true),(3,true),(4,true),(5,false),(6,true),(7,true)] (by kernel_rfl) (by kernel_rfl) (fun _ _ _ _ _ h=>h) ⟨d4,d0,d1,d2⟩ ?_
  iterate 5 (refine A0d (v:=?_) rfl (by rfl) ?_ ?_;rotate_left;(· (intro w' hS;(try dsimp only at hS);go_simp;try with_reducible rfl));(try simp only [Act.put,List.setIfInBounds_toArray,List.set_cons_zero,List.set_cons_succ,List.getElem_toArray,List.getElem_cons_zero,List.getElem_cons_succ]))
  refine A0i rfl (by rfl) (fun K hK=>?_)
  go_simp
  refine HAL.out.mono ?_
  rintro e w3 ⟨rfl,e4,eb,hI⟩
  refine hK _ _ ⟨e4,eb.c0,eb.c1,eb.c2⟩ (fun hS=>?_)
  have HI:=A0b hI
  clear hK K hS hI e4 eb HAL
  (try simp only [Act.put,List.setIfInBounds_toArray,List.set_cons_zero,List.set_cons_succ,List.getElem_toArray,List.getElem_cons_zero,List.getElem_cons_succ])
  iterate 2 (refine A0d (v:=?_) rfl (by rfl) ?_ ?_;rotate_left;(· (intro w' hS;(try dsimp only at hS);go_simp;try with_reducible rfl));(try simp only [Act.put,List.setIfInBounds_toArray,List.set_cons_zero,List.set_cons_succ,List.getElem_toArray,List.getElem_cons_zero,List.getElem_cons_succ]))
  refine A0k ?_
  simp only [List.drop_succ_cons,List.drop_zero]
  go_wp2
  go_ret2
  exact ⟨rfl,HI.out⟩
end
end Go.Proofs.YtodcnkbblippnaaGreatDoor
namespace Go.Proofs.YtodcnkbblippnaaGreatDoor
open Go.RowKit
def A1s (w:World) (ab b xb jb:Nat) (last:Int) (ov:Value):Prop:=w.heap[ab]?=some (.cells #[.pointer (some ⟨b,0,none⟩),.pointer (some ⟨xb,0,none⟩),.pointer (some ⟨jb,0,none⟩),.int .i64 last,ov] 150 (0,0))
section
variable {w w':World} {ab b xb jb:Nat} {last:Int} {ov:Value}
theorem A1s.c0 (h:A1s w ab b xb jb last ov):w.cell? ⟨ab,0,none⟩=some (.pointer (some ⟨b,0,none⟩)):=by unfold A1s at h;simp [World.cell?,h]
theorem A1s.c1 (h:A1s w ab b xb jb last ov):w.cell? ⟨ab,1,none⟩=some (.pointer (some ⟨xb,0,none⟩)):=by unfold A1s at h;simp [World.cell?,h]
theorem A1s.c2 (h:A1s w ab b xb jb last ov):w.cell? ⟨ab,2,none⟩=some (.pointer (some ⟨jb,0,none⟩)):=by unfold A1s at h;simp [World.cell?,h]
theorem A1s.c3 (h:A1s w ab b xb jb last ov):w.cell? ⟨ab,3,none⟩=some (.int .i64 last):=by unfold A1s at h;simp [World.cell?,h]
theorem A1s.c4 (h:A1s w ab b xb jb last ov):w.cell? ⟨ab,4,none⟩=some ov:=by unfold A1s at h;simp [World.cell?,h]
theorem A1s.fz (h:A1s w ab b xb jb last ov) (o:Nat):w.frozen? ⟨ab,o,none⟩=false:=by unfold A1s at h;simp [World.frozen?,h]
theorem A1s.lt (h:A1s w ab b xb jb last ov):ab<w.heap.size:=lt_of_block h
theorem A1s.s3 (h:A1s w ab b xb jb last ov) (x:Int):A1s (w.setCell ⟨ab,3,none⟩ (.int .i64 x)) ab b xb jb x ov:=A0h h
theorem A1s.s4 (h:A1s w ab b xb jb last ov) (x:Value):A1s (w.setCell ⟨ab,4,none⟩ x) ab b xb jb last x:=A0h h
theorem A1s.drew (h:A1s w ab b xb jb last ov):A1s w.drew ab b xb jb last ov:=by unfold A1s at h ⊢;exact h
theorem A1s.keep {S:Nat→Prop} (h:A1s w ab b xb jb last ov) (hc:Chg S w w') (hn:¬ S ab):A1s w' ab b xb jb last ov:=hc.keep h hn
end
def A8Z (ab xb jb:Nat) (sv ov lv jo:Value) (k:Nat):Prop:=k=ab∨k=xb∨sv.ownBlock=some k∨ov.ownBlock=some k∨A3M jb lv jo k
structure ArV (w:World) (ab b xb jb:Nat) (sv ov lv jo:Value) (A:Ar) (P:PD) (Ft:Nat→Prop):Prop where
 blk:A1s w ab b xb jb A.last ov
 ix:A0S w xb 162 b A0N (A1m A0N) A.ix.first sv
 segs:RdI w sv A.ix.segs
 loose:RdS w ov A.loose
 jn:JnV w jb b lv jo A.j
 dk:A1A w b P Ft
 lt:∀ k,Ft k→k<w.heap.size
 sepD:∀ k,A8Z ab xb jb sv ov lv jo k→¬ Ft k
 sepS:∀ g,sv.ownBlock=some g→g≠ab∧g≠xb∧¬ A3M jb lv jo g
 sepO:∀ g,ov.ownBlock=some g→g≠ab∧g≠xb∧¬ A3M jb lv jo g
 sepJ:∀ k,A3M jb lv jo k→k≠ab∧k≠xb
def AD (w:World) (ab b:Nat) (A:Ar) (P:PD) (FT:Nat→Prop):Prop:=
 ∃ xb jb sv ov lv jo Ft,ArV w ab b xb jb sv ov lv jo A P Ft∧∀ k,Ft k∨A8Z ab xb jb sv ov lv jo k→FT k
section
variable {w w':World} {ab b xb jb:Nat} {sv ov lv jo:Value} {A:Ar} {P P':PD} {Ft FT:Nat→Prop}
theorem ArV.ltA (h:ArV w ab b xb jb sv ov lv jo A P Ft) {k:Nat} (hk:A8Z ab xb jb sv ov lv jo k):k<w.heap.size:=by
 rcases hk with rfl | rfl | hk | hk | hk
 ·exact h.blk.lt
 ·exact h.ix.lt
 ·exact h.segs.lt hk
 ·exact h.loose.lt hk
 ·exact h.jn.lt hk
theorem ArV.ltF (h:ArV w ab b xb jb sv ov lv jo A P Ft) {k:Nat} (hk:Ft k∨A8Z ab xb jb sv ov lv jo k):k<w.heap.size:=hk.elim (h.lt k) h.ltA
theorem ArV.ne (h:ArV w ab b xb jb sv ov lv jo A P Ft):ab≠xb:=A0r h.blk h.ix (by decide)
theorem ArV.frame (h:ArV w ab b xb jb sv ov lv jo A P Ft) (hs:A9f (fun k=>Ft k∨A8Z ab xb jb sv ov lv jo k) w w') (hz:w.heap.size≤w'.heap.size):ArV w' ab b xb jb sv ov lv jo A P Ft:=
 ⟨(hs ab (.inr (.inl rfl))).trans h.blk,(hs xb (.inr (.inr (.inl rfl)))).trans h.ix,h.segs.frame fun g hg=>hs g (.inr (.inr (.inr (.inl hg)))),h.loose.frame fun g hg=>hs g (.inr (.inr (.inr (.inr (.inl hg))))),
   h.jn.frame fun k hk=>hs k (.inr (.inr (.inr (.inr (.inr hk))))),A0R.frame h.dk fun k hk=>hs k (.inl hk),fun k hk=>Nat.lt_of_lt_of_le (h.lt k hk) hz,h.sepD,h.sepS,h.sepO,h.sepJ⟩
theorem ArV.chg0 (h:ArV w ab b xb jb sv ov lv jo A P Ft) (hc:Chg (fun _=>False) w w'):ArV w' ab b xb jb sv ov lv jo A P Ft:=h.frame (hc.same (fun _ hk=>h.ltF hk) fun _ _ h=>h) hc.size
theorem ArV.disk (h:ArV w ab b xb jb sv ov lv jo A P Ft) (hI:A0A w Ft w' (fun w' Ft'=>A1A w' b P' Ft')):A0A w Ft w' (fun w' Ft'=>ArV w' ab b xb jb sv ov lv jo A P' Ft'):=by
 obtain ⟨hc,Ft',h2,h3,h4⟩:=hI
 have hs:A9f (A8Z ab xb jb sv ov lv jo) w w':=hc.same (fun _ hk=>h.ltA hk) h.sepD
 exact ⟨hc,Ft',⟨(hs ab (.inl rfl)).trans h.blk,(hs xb (.inr (.inl rfl))).trans h.ix,h.segs.frame fun g hg=>hs g (.inr (.inr (.inl hg))),h.loose.frame fun g hg=>hs g (.inr (.inr (.inr (.inl hg)))),
  h.jn.frame fun k hk=>hs k (.inr (.inr (.inr (.inr hk)))),h2,h3,fun k hk hx=>(h4 k hx).elim (h.sepD k hk) fun h'=>by have:=h.ltA hk;omega,h.sepS,h.sepO,h.sepJ⟩,h3,h4⟩
theorem ArV.into {S:Nat→Prop} {xb' jb':Nat} {sv' ov' lv' jo':Value} {A':Ar} {Ft':Nat→Prop} (h':ArV w' ab b xb' jb' sv' ov' lv' jo' A' P' Ft') (hc:Chg S w w') (hS:∀ k,k<w.heap.size→S k→FT k) (h1:∀ k,Ft' k→FT k∨w.heap.size≤k) (h2:∀ k,A8Z ab xb' jb' sv' ov' lv' jo' k→FT k∨w.heap.size≤k):
 A0A w FT w' (fun w' FT'=>AD w' ab b A' P' FT'):=
 ⟨hc.mono hS,fun k=>Ft' k∨A8Z ab xb' jb' sv' ov' lv' jo' k,⟨xb',jb',sv',ov',lv',jo',Ft',h',fun _ h=>h⟩,fun _ hk=>h'.ltF hk,fun k hk=>hk.elim (h1 k) (h2 k)⟩
theorem ArV.diskInto (_h:ArV w ab b xb jb sv ov lv jo A P Ft) (hsub:∀ k,Ft k∨A8Z ab xb jb sv ov lv jo k→FT k) (hI:A0A w Ft w' (fun w' Ft'=>ArV w' ab b xb jb sv ov lv jo A P' Ft')):A0A w FT w' (fun w' FT'=>AD w' ab b A P' FT'):=by
 obtain ⟨hc,Ft',h2,h3,h4⟩:=hI
 exact h2.into hc (fun k _ hk=>hsub k (.inl hk)) (fun k hk=>(h4 k hk).imp (fun h=>hsub k (.inl h)) id) fun k hk=>.inl (hsub k (.inr hk))
theorem AD.frame (h:AD w ab b A P FT) (hs:A9f FT w w') (hz:w.heap.size≤w'.heap.size):AD w' ab b A P FT:=by
 obtain ⟨xb,jb,sv,ov,lv,jo,Ft,h1,h2⟩:=h
 exact ⟨xb,jb,sv,ov,lv,jo,Ft,h1.frame (hs.mono fun k hk=>h2 k hk) hz,h2⟩
theorem AD.chg0 (h:AD w ab b A P FT) (hc:Chg (fun _=>False) w w'):AD w' ab b A P FT:=by
 obtain ⟨xb,jb,sv,ov,lv,jo,Ft,h1,h2⟩:=h
 exact ⟨xb,jb,sv,ov,lv,jo,Ft,h1.chg0 hc,h2⟩
end
def B5n (w:World) (B0 b gb:Nat) (x:Int × List Pu):Prop:=∃ pv,A0S w gb 182 b (A1d x.1) (A1m (A1d x.1)) x.1 pv∧A1r w pv x.2∧B0≤gb∧∀ g,pv.ownBlock=some g→B0≤g
def A3Y (gbs:List Nat):List Value:=gbs.map fun g=>.pointer (some ⟨g,0,none⟩)
theorem A6w (gbs:List Nat):∀ u∈A3Y gbs,u.oneCell'=true:=by
 intro u hu;simp [A3Y] at hu;obtain ⟨x,_,rfl⟩:=hu;rfl
def B4z (w:World) (B0 b:Nat) (v:Value) (l:List (Int × List Pu)):Prop:=
 ∃ gbs:List Nat,gbs.length=l.length∧w.ownsRow 0 179 1 v l.length (A3Y gbs)∧(∀ g,v.ownBlock=some g→B0≤g)∧∀ k (h1:k<gbs.length) (h2:k<l.length),B5n w B0 b (gbs[k]'h1) (l[k]'h2)
theorem B5n.chg0 {w w':World} {B0 b gb:Nat} {x:Int × List Pu} (h:B5n w B0 b gb x) (hc:Chg (fun _=>False) w w'):B5n w' B0 b gb x:=by
 obtain ⟨pv,h1,h2,h3,h4⟩:=h
 exact ⟨pv,h1.keep hc (fun h=>h),A0a h2 fun g hg=>hc.block g (A0c h2 hg) (fun h=>h),h3,h4⟩
theorem Tryz.infoSegP:(Tryz.prog.info? 179).map (fun i=>(i.zero,i.size,i.bytes))=some (some (.pointer none),1,8):=by kernel_rfl
theorem B3N:∃ i0,Tryz.prog.info? 179=some i0∧i0.zero=some (.pointer none)∧i0.size=1∧i0.bytes=8:=by
 have h:=Tryz.infoSegP
 cases hx:Tryz.prog.info? 179 with
 | none=>rw [hx] at h;cases h
 | some i=>rw [hx] at h;simp at h;exact ⟨i,rfl,h.1,h.2.1,h.2.2⟩
end Go.Proofs.YtodcnkbblippnaaGreatDoor
