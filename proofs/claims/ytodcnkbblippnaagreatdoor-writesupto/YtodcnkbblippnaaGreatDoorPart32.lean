/-
  The statement WritesUptoCardSaid is proved: the law Writes answers true for every setting and every script of at most 1048576 bytes; there is no other condition.
  Part 32 of 33.
-/
import Derived.Test.YtodcnkbblippnaaGreatDoorPart31
import Derived.Test.YtodcnkbblippnaaGreatDoorPart29
import Derived.Test.YtodcnkbblippnaaGreatDoorPart27
namespace Go.Proofs.YtodcnkbblippnaaGreatDoor
open Go.RowKit
attribute [local go_sem ↓] Go.wp_at_zero Go.wp_at_succ
theorem A7s {t:Nat} {A:Ar} {P:PD} {ol:Option (List Pu)} (h:A3j t A P ol) (ht:t+1≤200000) (p:Pu) (hp:A4q p):(A.add P p).2.2.2.D.n.refused=P.D.n.refused:=by
 have h1:=B2z A P p
 rw [(h.add ht p hp).2.1] at h1
 rcases h1 with ⟨_,_,h,_⟩ | ⟨h,_⟩ | ⟨h,_⟩
 ·exact h
 ·cases h
 ·cases h
theorem A6K {t:Nat} {A:Ar} {P:PD} {ol:Option (List Pu)} (h:A3j t A P ol) (ht:t≤200000):A0J P.F P.D.dir≤4611686018427387904:=Nat.le_trans h.fit.used (B1W (a:=200001) (b:=6600001) (by omega) (by omega) (by decide))
section
variable {w w':World} {H wb sb ab b t B:Nat} {n:WN} {life win clock:Int} {ro:Bool} {L:Nat→List Pt} {A:Ar} {P:PD} {FT:Nat→Prop} {puts:List Pu} {ls:List (Value × Int)} {ol:Option (List Pu)}
set_option maxRecDepth 100000 in
set_option maxHeartbeats 8000000 in
theorem A8T (w:World) (kd k tt v:Int) (tv:Value) (h:LW w H wb n b life (KS sb ab b life win clock ro L A P) FT puts ls) (hsv:n.sv=.pointer (some ⟨sb,0,none⟩)) (hus:A0J P.F P.D.dir≤4611686018427387904) (hk:¬ (0≤k∧k<8)):
 Calls Tryz.prog 54 #[.pointer (some ⟨wb,0,none⟩),.agg #[.int .i64 kd,.int .i64 k,.int .i64 tt,.int .i64 v,tv]] w fun e w'=>e=.returned (.bool true)∧Chg (Up H) w w'∧∃ FT',LW w' H wb n b life (KS sb ab b life win clock ro L A P) FT' puts ls:=by
 have hA:=(Chg.refl (fun _=>False) w).alloc (A1t kd k tt v tv)
 obtain ⟨-,o1,o2,o3⟩:=A2o w kd k tt v tv
 have h1:=h.chg0 hA
 have hwl:=h.blk.lt
 have hFl:=h.lt
 have hw1s:w.heap.size<(w.alloc (A1t kd k tt v tv)).heap.size:=by simp
 generalize hw1:w.alloc (A1t kd k tt v tv)=w1 at hA o1 o2 o3 h1 hw1s
 unfold A1t at hw1
 obtain ⟨rf,hrf⟩:∃ rf,P.D.n.refused=rf:=⟨_,rfl⟩
 obtain ⟨fu,hfu⟩:∃ fu,P.D.n.fulls=fu:=⟨_,rfl⟩
 obtain ⟨cn,hcn⟩:∃ cn,P.D.n.calls=cn:=⟨_,rfl⟩
 obtain ⟨us,hus0⟩:∃ us,A0J P.F P.D.dir=us:=⟨_,rfl⟩
 have MK:=A0b h1.marks
 rw [hrf,hfu] at MK
 have HRF:=A0b hrf
 have HFU:=A0b hfu
 have HCN:=A0b hcn
 have HUS:Hid (A0J P.F P.D.dir=us∧us≤4611686018427387904):=⟨hus0,by rw [← hus0];exact hus⟩
 have HA:=A0b hA
 have H1:=A0b h1
 have HHL:=A0b hFl
 have HPL0:Hid (∀ g,n.pv.ownBlock=some g→g<w.heap.size):=fun g hg=>A0c h.pts hg
 clear h hA h1 hrf hfu hcn hus0 hFl hus
 go_enter Tryz.func54,Tryz.ntmps54
 go_wp2_with (fail)
 refine MK.out.mono ?_
 rintro e w2 ⟨rfl,k2⟩
 have v4:(w2.alloc (.cells #[.int .i64 rf,.int .i64 fu] 85)).cell? ⟨wb,4,none⟩=some (.pointer (some ⟨b,0,none⟩)):=((H1.out.chg0 (k2.alloc _)).blk.c4).trans (by rw [H1.out.hdv])
 clear MK hw1
 go_wp2_with (fail)
 have k3:Chg (fun _=>False) w1 (w2.alloc (.cells #[.int .i64 rf,.int .i64 fu] 85)):=k2.alloc _
 have hbx:=heap_alloc_new w2 (.cells #[.int .i64 rf,.int .i64 fu] 85)
 have m0:(w2.alloc (.cells #[.int .i64 rf,.int .i64 fu] 85)).cell? ⟨w2.heap.size,0,none⟩=some (.int .i64 rf):=by simp only [World.cell?,hbx];rfl
 have m1:(w2.alloc (.cells #[.int .i64 rf,.int .i64 fu] 85)).cell? ⟨w2.heap.size,1,none⟩=some (.int .i64 fu):=by simp only [World.cell?,hbx];rfl
 have HM:Hid (w1.heap.size≤w2.heap.size∧w.heap.size<w1.heap.size):=⟨k2.size,hw1s⟩
 generalize w2.alloc (.cells #[.int .i64 rf,.int .i64 fu] 85)=w3 at k3 m0 m1 v4 ⊢
 have H3:=A0b (H1.out.chg0 k3)
 have K3:Hid (Chg (fun _=>False) w w3):=HA.out.trans k3 fun _ h _=>h
 have p1:=k3.cellKeep o1
 have p2:=k3.cellKeep o2
 have p3:=k3.cellKeep o3
 have CA:=A0b H3.out.calls
 rw [HCN.out] at CA
 clear k2 k3 hbx H1 o1 o2 o3 HA hw1s
 refine CA.out.mono ?_
 rintro e w4 ⟨rfl,rfl⟩
 have c2:=H3.out.blk.c2
 have RM:=A0b (A7o w3.drew n.room)
 have US:Hid (Calls Tryz.prog 90 #[.pointer (some ⟨b,0,none⟩)] w3.drew fun e w'=>e=.returned (.int .i64 us)∧Chg (fun _=>False) w3.drew w'):=by
  have:=(H3.out.chg0 (Chg.refl (fun _=>False) w3).drew).used (by rw [HUS.out.1];exact HUS.out.2)
  rw [HUS.out.1] at this;exact this
 clear CA
 go_wp2
 refine A0e (fun w'=>w'.cell? ⟨wb,2,none⟩=some (.int .i64 n.room)∧w'.cell? ⟨wb,4,none⟩=some (.pointer (some ⟨b,0,none⟩))) 12
  [(0,true),(1,true),(2,true),(3,true),(4,true),(6,true),(7,true),(8,true),(9,true),(5,false),(10,false),(11,true)] (by kernel_rfl) (by kernel_rfl) (fun _ _ _ _ _ h=>h) ⟨c2,v4⟩ ?_
 iterate 9 (refine A0d (v:=?_) rfl (by rfl) ?_ ?_;rotate_left;(· (intro w' hS;(try dsimp only at hS);go_simp;try with_reducible rfl));(try simp only [Act.put,List.setIfInBounds_toArray,List.set_cons_zero,List.set_cons_succ,List.getElem_toArray,List.getElem_cons_zero,List.getElem_cons_succ]))
 refine A0i rfl (by rfl) (fun K hK=>?_)
 go_simp
 refine RM.out.mono ?_
 rintro e w4 ⟨rfl,rfl⟩
 refine hK _ _ ⟨c2,v4⟩ (fun hS=>?_)
 clear hK K hS RM
 (try simp only [Act.put,List.setIfInBounds_toArray,List.set_cons_zero,List.set_cons_succ,List.getElem_toArray,List.getElem_cons_zero,List.getElem_cons_succ])
 refine A0i rfl (by rfl) (fun K hK=>?_)
 go_simp
 refine US.out.mono ?_
 rintro e w4 ⟨rfl,k4⟩
 have k4':Chg (fun _=>False) w3 w4:=⟨k4.os,k4.tape,k4.output,k4.size,k4.block⟩
 refine hK _ _ ⟨k4'.cellKeep c2,k4'.cellKeep v4⟩ (fun hS=>?_)
 have H4:=A0b (H3.out.chg0 (k4'.trans (Chg.refl (fun _=>False) w4).drew fun _ h _=>h))
 have K4:Hid (Chg (fun _=>False) w w4.drew):=K3.out.trans (k4'.trans (Chg.refl (fun _=>False) w4).drew fun _ h _=>h) fun _ h _=>h
 have q1:=k4'.cellKeep p1
 have q2:=k4'.cellKeep p2
 have q3:=k4'.cellKeep p3
 have n0:=k4'.cellKeep m0
 have n1:=k4'.cellKeep m1
 clear hK K hS US k4 k4' p1 p2 p3 m0 m1 c2 v4 H3 K3
 (try simp only [Act.put,List.setIfInBounds_toArray,List.set_cons_zero,List.set_cons_succ,List.getElem_toArray,List.getElem_cons_zero,List.getElem_cons_succ])
 (refine A0d (v:=?_) rfl (by rfl) ?_ ?_;rotate_left;(· (intro w' hS;(try dsimp only at hS);go_simp;try with_reducible rfl));(try simp only [Act.put,List.setIfInBounds_toArray,List.set_cons_zero,List.set_cons_succ,List.getElem_toArray,List.getElem_cons_zero,List.getElem_cons_succ]))
 refine A0k ?_
 simp only [List.drop_succ_cons,List.drop_zero]
 go_wp2
 have PU:Hid (Calls Tryz.prog 23 #[.pointer (some ⟨sb,0,none⟩),.int .i64 k,.int .i64 tt,.int .i64 v] w4.drew fun e w'=>e=.returned (.int .i64 2)∧Chg (Up H) w4 w'∧w'.cell? ⟨wb,5,none⟩=some (.pointer (some ⟨sb,0,none⟩))∧w'.cell? ⟨w.heap.size,1,none⟩=some (.int .i64 k)∧w'.cell? ⟨w.heap.size,2,none⟩=some (.int .i64 tt)∧w'.cell? ⟨w.heap.size,3,none⟩=some (.int .i64 v)∧
  w'.cell? ⟨w2.heap.size,0,none⟩=some (.int .i64 rf)∧w'.cell? ⟨w2.heap.size,1,none⟩=some (.int .i64 fu)∧∃ FT',LW w' H wb n b life (KS sb ab b life win clock ro L A P) FT' puts ls):=by
  have h4d:=H4.out
  have h4:=K4.out
  refine (B5c w4.drew k tt v h4d.dsk h4d.lt hk).mono ?_
  rintro e w' ⟨rfl,hS⟩
  obtain ⟨r1,FT2,r2⟩:=h4d.store (KS.stab sb ab b life win clock ro L A P) hS
  have nb:∀ x,w.heap.size≤x→¬ FT x:=fun x hx hy=>by have:=HHL.out x hy;omega
  have hm:w.heap.size≤w2.heap.size:=by have:=HM.out;omega
  exact ⟨rfl,⟨r1.os,r1.tape,r1.output,r1.size,r1.block⟩,by rw [r2.blk.c5,hsv],A0E (w:=w4.drew) hS.1 q1 (nb _ (Nat.le_refl _)),A0E (w:=w4.drew) hS.1 q2 (nb _ (Nat.le_refl _)),A0E (w:=w4.drew) hS.1 q3 (nb _ (Nat.le_refl _)),A0E (w:=w4.drew) hS.1 n0 (nb _ hm),A0E (w:=w4.drew) hS.1 n1 (nb _ hm),FT2,r2⟩
 have c5:=H4.out.blk.c5
 rw [hsv] at c5
 have K4':Hid (Chg (fun _=>False) w w4.drew):=K4.out
 clear H4 K4
 refine A0e (fun w'=>w'.cell? ⟨wb,5,none⟩=some (.pointer (some ⟨sb,0,none⟩))∧w'.cell? ⟨w.heap.size,1,none⟩=some (.int .i64 k)∧w'.cell? ⟨w.heap.size,2,none⟩=some (.int .i64 tt)∧w'.cell? ⟨w.heap.size,3,none⟩=some (.int .i64 v)) 11
  [(0,true),(1,true),(2,true),(3,true),(4,true),(5,true),(6,true),(7,true),(8,true),(9,true),(10,false)] (by kernel_rfl) (by kernel_rfl) (fun _ _ _ _ _ h=>h) ⟨c5,q1,q2,q3⟩ ?_
 iterate 10 (refine A0d (v:=?_) rfl (by rfl) ?_ ?_;rotate_left;(· (intro w' hS;(try dsimp only at hS);go_simp;try with_reducible rfl));(try simp only [Act.put,List.setIfInBounds_toArray,List.set_cons_zero,List.set_cons_succ,List.getElem_toArray,List.getElem_cons_zero,List.getElem_cons_succ]))
 refine A0i rfl (by rfl) (fun K hK=>?_)
 go_simp
 refine PU.out.mono ?_
 rintro e w5 ⟨rfl,k5,d5,r1,r2,r3,m5,m6,FT5,hR⟩
 refine hK _ _ ⟨d5,r1,r2,r3⟩ (fun hS=>?_)
 have K5:Hid (Chg (Up H) w w5):=(K4'.out.mono (S':=Up H) fun _ _ h=>h.elim).trans (⟨k5.os,k5.tape,k5.output,k5.size,k5.block⟩:Chg (Up H) w4.drew w5) fun _ h _=>h
 have H5:=A0b hR
 have d9:=hR.blk.c9
 have d6:=hR.blk.c6
 have d4:=hR.blk.c4
 rw [hR.hdv] at d4
 clear hK K hS k5 PU q1 q2 q3 n0 n1 c5 K4' d5
 (try simp only [Act.put,List.setIfInBounds_toArray,List.set_cons_zero,List.set_cons_succ,List.getElem_toArray,List.getElem_cons_zero,List.getElem_cons_succ])
 refine A0k ?_
 simp only [List.drop_succ_cons,List.drop_zero]
 have SE:Hid (∀ w',Calls Tryz.prog 91 #[.int .i64 k] w' fun e w2=>e=.returned (.bool false)∧w'=w2):=fun w'=>by
  have:=A2u k w'
  have e:A4d (k:Int)=false:=by unfold A4d;simp;omega
  rwa [e] at this
 have CA5:=A0b H5.out.calls
 rw [HCN.out] at CA5
 go_wp2_with (first
  | (go_at_call 91;refine (SE.out _).mono ?_;rintro e w6 ⟨rfl,rfl⟩)
  | (go_at_call 49;refine CA5.out.mono ?_;rintro e w6 ⟨rfl,rfl⟩))
 go_ret
 exact ⟨rfl,K5.out,FT5,H5.out⟩
set_option maxRecDepth 100000 in
set_option maxHeartbeats 8000000 in
theorem B4i (w:World) (kd k tt v:Int) (tv:Value) (h:LW w H wb n b life (KS sb ab b life win clock false L A P) FT puts ls) (hsv:n.sv=.pointer (some ⟨sb,0,none⟩)) (hbr:n.broken=false) (hQ:A3j t A P ol)
 (ht1:t+1≤200000) (hpu:A4q (k,tt,v)) (hlen:puts.length≤200000) (hsm:∀ k,k<8→(L k).length≤t) (hl:1≤life∧life≤4611686018427387904) (hc:A0P clock) (hL:A2i B w) (hBH:B≤H):
 Calls Tryz.prog 54 #[.pointer (some ⟨wb,0,none⟩),.agg #[.int .i64 kd,.int .i64 k,.int .i64 tt,.int .i64 v,tv]] w fun e w'=>e=.returned (.bool true)∧Chg (Up H) w w'∧
  ∃ FT' pv',LW w' H wb { n with pv:=pv' } b life (KS sb ab b life win clock false (A2T L (A0m clock life) k.toNat tt v) (A.add P (k,tt,v)).2.2.1 (A.add P (k,tt,v)).2.2.2) FT' (puts ++ [(k,tt,v)]) ls:=by
 have hus:=A6K hQ (by omega)
 have hrq:=A7s hQ ht1 (k,tt,v) hpu
 obtain ⟨L2,hL2⟩:∃ L2,L2=A2T L (A0m clock life) k.toNat tt v:=⟨_,rfl⟩
 obtain ⟨A2,hA2⟩:∃ A2,A2=(A.add P (k,tt,v)).2.2.1:=⟨_,rfl⟩
 obtain ⟨P2,hP2⟩:∃ P2,P2=(A.add P (k,tt,v)).2.2.2:=⟨_,rfl⟩
 have hput:∀ w4 FT4,KS sb ab b life win clock false L A P w4 FT4→(∀ k,FT4 k→k<w4.heap.size)→A2i B w4→(∀ k,FT4 k→H≤k)→Calls Tryz.prog 23 #[.pointer (some ⟨sb,0,none⟩),.int .i64 k,.int .i64 tt,.int .i64 v] w4 fun e w'=>e=.returned (.int .i64 0)∧A0A w4 FT4 w' (KS sb ab b life win clock false L2 A2 P2):=fun w4 FT4 g1 g2 g3 g4=>by
  rw [hL2,hA2,hP2]
  exact B5r w4 (k,tt,v) g1 g2 hQ ht1 hpu g3 (fun k hk=>Nat.le_trans hBH (g4 k hk)) hsm hl hc
 rw [← hP2] at hrq
 rw [← hL2,← hA2,← hP2]
 have hk:0≤k∧k<8:=hpu.1
 have HPUT:=A0b hput
 have HL0:=A0b hL
 have HLE:=A0b hlen
 have HRQ:=A0b hrq
 clear hQ hrq hpu hsm hL2 hA2 hP2 hput hlen hL
 have hA:=(Chg.refl (fun _=>False) w).alloc (A1t kd k tt v tv)
 obtain ⟨-,o1,o2,o3⟩:=A2o w kd k tt v tv
 have h1:=h.chg0 hA
 have hwl:=h.blk.lt
 have hFl:=h.lt
 have hw1s:w.heap.size<(w.alloc (A1t kd k tt v tv)).heap.size:=by simp
 generalize hw1:w.alloc (A1t kd k tt v tv)=w1 at hA o1 o2 o3 h1 hw1s
 unfold A1t at hw1
 obtain ⟨rf,hrf⟩:∃ rf,P.D.n.refused=rf:=⟨_,rfl⟩
 obtain ⟨fu,hfu⟩:∃ fu,P.D.n.fulls=fu:=⟨_,rfl⟩
 obtain ⟨cn,hcn⟩:∃ cn,P.D.n.calls=cn:=⟨_,rfl⟩
 obtain ⟨us,hus0⟩:∃ us,A0J P.F P.D.dir=us:=⟨_,rfl⟩
 have MK:=A0b h1.marks
 rw [hrf,hfu] at MK
 have HRF:=A0b hrf
 have HFU:=A0b hfu
 have HCN:=A0b hcn
 have HUS:Hid (A0J P.F P.D.dir=us∧us≤4611686018427387904):=⟨hus0,by rw [← hus0];exact hus⟩
 have HA:=A0b hA
 have H1:=A0b h1
 have HHL:=A0b hFl
 have HPL0:Hid (∀ g,n.pv.ownBlock=some g→g<w.heap.size):=fun g hg=>A0c h.pts hg
 clear h hA h1 hrf hfu hcn hus0 hFl hus
 go_enter Tryz.func54,Tryz.ntmps54
 go_wp2_with (fail)
 refine MK.out.mono ?_
 rintro e w2 ⟨rfl,k2⟩
 have v4:(w2.alloc (.cells #[.int .i64 rf,.int .i64 fu] 85)).cell? ⟨wb,4,none⟩=some (.pointer (some ⟨b,0,none⟩)):=((H1.out.chg0 (k2.alloc _)).blk.c4).trans (by rw [H1.out.hdv])
 clear MK hw1
 go_wp2_with (fail)
 have k3:Chg (fun _=>False) w1 (w2.alloc (.cells #[.int .i64 rf,.int .i64 fu] 85)):=k2.alloc _
 have hbx:=heap_alloc_new w2 (.cells #[.int .i64 rf,.int .i64 fu] 85)
 have m0:(w2.alloc (.cells #[.int .i64 rf,.int .i64 fu] 85)).cell? ⟨w2.heap.size,0,none⟩=some (.int .i64 rf):=by simp only [World.cell?,hbx];rfl
 have m1:(w2.alloc (.cells #[.int .i64 rf,.int .i64 fu] 85)).cell? ⟨w2.heap.size,1,none⟩=some (.int .i64 fu):=by simp only [World.cell?,hbx];rfl
 have HM:Hid (w1.heap.size≤w2.heap.size∧w.heap.size<w1.heap.size):=⟨k2.size,hw1s⟩
 generalize w2.alloc (.cells #[.int .i64 rf,.int .i64 fu] 85)=w3 at k3 m0 m1 v4 ⊢
 have H3:=A0b (H1.out.chg0 k3)
 have K3:Hid (Chg (fun _=>False) w w3):=HA.out.trans k3 fun _ h _=>h
 have p1:=k3.cellKeep o1
 have p2:=k3.cellKeep o2
 have p3:=k3.cellKeep o3
 have CA:=A0b H3.out.calls
 rw [HCN.out] at CA
 clear k2 k3 hbx H1 o1 o2 o3 HA hw1s
 refine CA.out.mono ?_
 rintro e w4 ⟨rfl,rfl⟩
 have c2:=H3.out.blk.c2
 have RM:=A0b (A7o w3.drew n.room)
 have US:Hid (Calls Tryz.prog 90 #[.pointer (some ⟨b,0,none⟩)] w3.drew fun e w'=>e=.returned (.int .i64 us)∧Chg (fun _=>False) w3.drew w'):=by
  have:=(H3.out.chg0 (Chg.refl (fun _=>False) w3).drew).used (by rw [HUS.out.1];exact HUS.out.2)
  rw [HUS.out.1] at this;exact this
 clear CA
 go_wp2
 refine A0e (fun w'=>w'.cell? ⟨wb,2,none⟩=some (.int .i64 n.room)∧w'.cell? ⟨wb,4,none⟩=some (.pointer (some ⟨b,0,none⟩))) 12
  [(0,true),(1,true),(2,true),(3,true),(4,true),(6,true),(7,true),(8,true),(9,true),(5,false),(10,false),(11,true)] (by kernel_rfl) (by kernel_rfl) (fun _ _ _ _ _ h=>h) ⟨c2,v4⟩ ?_
 iterate 9 (refine A0d (v:=?_) rfl (by rfl) ?_ ?_;rotate_left;(· (intro w' hS;(try dsimp only at hS);go_simp;try with_reducible rfl));(try simp only [Act.put,List.setIfInBounds_toArray,List.set_cons_zero,List.set_cons_succ,List.getElem_toArray,List.getElem_cons_zero,List.getElem_cons_succ]))
 refine A0i rfl (by rfl) (fun K hK=>?_)
 go_simp
 refine RM.out.mono ?_
 rintro e w4 ⟨rfl,rfl⟩
 refine hK _ _ ⟨c2,v4⟩ (fun hS=>?_)
 clear hK K hS RM
 (try simp only [Act.put,List.setIfInBounds_toArray,List.set_cons_zero,List.set_cons_succ,List.getElem_toArray,List.getElem_cons_zero,List.getElem_cons_succ])
 refine A0i rfl (by rfl) (fun K hK=>?_)
 go_simp
 refine US.out.mono ?_
 rintro e w4 ⟨rfl,k4⟩
 have k4':Chg (fun _=>False) w3 w4:=⟨k4.os,k4.tape,k4.output,k4.size,k4.block⟩
 refine hK _ _ ⟨k4'.cellKeep c2,k4'.cellKeep v4⟩ (fun hS=>?_)
 have H4:=A0b (H3.out.chg0 (k4'.trans (Chg.refl (fun _=>False) w4).drew fun _ h _=>h))
 have K4:Hid (Chg (fun _=>False) w w4.drew):=K3.out.trans (k4'.trans (Chg.refl (fun _=>False) w4).drew fun _ h _=>h) fun _ h _=>h
 have q1:=k4'.cellKeep p1
 have q2:=k4'.cellKeep p2
 have q3:=k4'.cellKeep p3
 have n0:=k4'.cellKeep m0
 have n1:=k4'.cellKeep m1
 clear hK K hS US k4 k4' p1 p2 p3 m0 m1 c2 v4 H3 K3
 (try simp only [Act.put,List.setIfInBounds_toArray,List.set_cons_zero,List.set_cons_succ,List.getElem_toArray,List.getElem_cons_zero,List.getElem_cons_succ])
 (refine A0d (v:=?_) rfl (by rfl) ?_ ?_;rotate_left;(· (intro w' hS;(try dsimp only at hS);go_simp;try with_reducible rfl));(try simp only [Act.put,List.setIfInBounds_toArray,List.set_cons_zero,List.set_cons_succ,List.getElem_toArray,List.getElem_cons_zero,List.getElem_cons_succ]))
 refine A0k ?_
 simp only [List.drop_succ_cons,List.drop_zero]
 go_wp2
 have PU:Hid (Calls Tryz.prog 23 #[.pointer (some ⟨sb,0,none⟩),.int .i64 k,.int .i64 tt,.int .i64 v] w4.drew fun e w'=>e=.returned (.int .i64 0)∧Chg (Up H) w4 w'∧w'.cell? ⟨wb,5,none⟩=some (.pointer (some ⟨sb,0,none⟩))∧w'.cell? ⟨w.heap.size,1,none⟩=some (.int .i64 k)∧w'.cell? ⟨w.heap.size,2,none⟩=some (.int .i64 tt)∧w'.cell? ⟨w.heap.size,3,none⟩=some (.int .i64 v)∧
  w'.cell? ⟨w2.heap.size,0,none⟩=some (.int .i64 rf)∧w'.cell? ⟨w2.heap.size,1,none⟩=some (.int .i64 fu)∧∃ FT',LW w' H wb n b life (KS sb ab b life win clock false L2 A2 P2) FT' puts ls):=by
  have h4d:=H4.out
  have h4:=K4.out
  refine (HPUT.out w4.drew FT h4d.dsk h4d.lt (HL0.out.keep0 h4) h4d.ups).mono ?_
  rintro e w' ⟨rfl,hS⟩
  obtain ⟨r1,FT2,r2⟩:=h4d.store (KS.stab sb ab b life win clock false L2 A2 P2) hS
  have nb:∀ x,w.heap.size≤x→¬ FT x:=fun x hx hy=>by have:=HHL.out x hy;omega
  have hm:w.heap.size≤w2.heap.size:=by have:=HM.out;omega
  exact ⟨rfl,⟨r1.os,r1.tape,r1.output,r1.size,r1.block⟩,by rw [r2.blk.c5,hsv],A0E (w:=w4.drew) hS.1 q1 (nb _ (Nat.le_refl _)),A0E (w:=w4.drew) hS.1 q2 (nb _ (Nat.le_refl _)),A0E (w:=w4.drew) hS.1 q3 (nb _ (Nat.le_refl _)),A0E (w:=w4.drew) hS.1 n0 (nb _ hm),A0E (w:=w4.drew) hS.1 n1 (nb _ hm),FT2,r2⟩
 have c5:=H4.out.blk.c5
 rw [hsv] at c5
 have K4':Hid (Chg (fun _=>False) w w4.drew):=K4.out
 clear H4 K4
 refine A0e (fun w'=>w'.cell? ⟨wb,5,none⟩=some (.pointer (some ⟨sb,0,none⟩))∧w'.cell? ⟨w.heap.size,1,none⟩=some (.int .i64 k)∧w'.cell? ⟨w.heap.size,2,none⟩=some (.int .i64 tt)∧w'.cell? ⟨w.heap.size,3,none⟩=some (.int .i64 v)) 11
  [(0,true),(1,true),(2,true),(3,true),(4,true),(5,true),(6,true),(7,true),(8,true),(9,true),(10,false)] (by kernel_rfl) (by kernel_rfl) (fun _ _ _ _ _ h=>h) ⟨c5,q1,q2,q3⟩ ?_
 iterate 10 (refine A0d (v:=?_) rfl (by rfl) ?_ ?_;rotate_left;(· (intro w' hS;(try dsimp only at hS);go_simp;try with_reducible rfl));(try simp only [Act.put,List.setIfInBounds_toArray,List.set_cons_zero,List.set_cons_succ,List.getElem_toArray,List.getElem_cons_zero,List.getElem_cons_succ]))
 refine A0i rfl (by rfl) (fun K hK=>?_)
 go_simp
 refine PU.out.mono ?_
 rintro e w5 ⟨rfl,k5,d5,r1,r2,r3,m5,m6,FT5,hR⟩
 refine hK _ _ ⟨d5,r1,r2,r3⟩ (fun hS=>?_)
 have K5:Hid (Chg (Up H) w w5):=(K4'.out.mono (S':=Up H) fun _ _ h=>h.elim).trans (⟨k5.os,k5.tape,k5.output,k5.size,k5.block⟩:Chg (Up H) w4.drew w5) fun _ h _=>h
 have H5:=A0b hR
 have d9:=hR.blk.c9
 rw [hbr] at d9
 have d6:=hR.blk.c6
 have d4:=hR.blk.c4
 rw [hR.hdv] at d4
 clear hK K hS k5 PU q1 q2 q3 n0 n1 c5 K4' d5
 (try simp only [Act.put,List.setIfInBounds_toArray,List.set_cons_zero,List.set_cons_succ,List.getElem_toArray,List.getElem_cons_zero,List.getElem_cons_succ])
 refine A0k ?_
 simp only [List.drop_succ_cons,List.drop_zero]
 have SE:Hid (∀ w',Calls Tryz.prog 91 #[.int .i64 k] w' fun e w2=>e=.returned (.bool true)∧w'=w2):=fun w'=>by
  have:=A2u k w'
  have e:A4d (k:Int)=true:=by unfold A4d;simp;omega
  rwa [e] at this
 obtain ⟨ap,cp,hpf,hp1,hp2,-⟩:=hR.pts.form
 rw [hpf] at d6
 clear hR
 go_wp2_with (go_at_call 91;refine (SE.out _).mono ?_;rintro e w6 ⟨rfl,rfl⟩)
 clear SE
 obtain ⟨i0,hi,hz0,hz1,hz2⟩:=info_parts Tryz.infoPut4
 have k6:Chg (fun _=>False) w5 (w5.alloc (.cells #[.int .i64 k,.int .i64 tt,.int .i64 v] 141)).drew:=((Chg.refl (fun _=>False) w5).alloc _).drew
 have H6:=A0b (H5.out.chg0 k6)
 have hp6:B1r (w5.alloc (.cells #[.int .i64 k,.int .i64 tt,.int .i64 v] 141)).drew (.slice ap puts.length cp) puts:=by
  have:=H6.out.pts;rwa [hpf] at this
 have HP6:=A0b hp6
 have SR:Hid (Src Tryz.prog 3 37 (.slice (some ⟨w5.heap.size,0,none⟩) 1 1) 1 (A0x [(k,tt,v)]) (w5.alloc (.cells #[.int .i64 k,.int .i64 tt,.int .i64 v] 141)).drew):=
  Src.ofBlock (w:=(w5.alloc (.cells #[.int .i64 k,.int .i64 tt,.int .i64 v] 141)).drew) (cs:=#[.int .i64 k,.int .i64 tt,.int .i64 v]) Tryz.underlying37 (heap_alloc_new w5 _) 1 1 rfl (A0G [(k,tt,v)])
 have HPL:Hid (∀ g,n.pv.ownBlock=some g→g<w.heap.size):=HPL0.out
 have FIN:Hid (∀ w7 v',App (w5.alloc (.cells #[.int .i64 k,.int .i64 tt,.int .i64 v] 141)).drew w7 141 3 (.slice ap puts.length cp) v' (puts.length+1) (A0x puts ++ A0x [(k,tt,v)])→
  w7.cell? ⟨wb,6,none⟩=some (.slice ap puts.length cp)∧w7.frozen? ⟨wb,6,none⟩=false∧Chg (Up H) w5 (w7.setCell ⟨wb,6,none⟩ v')∧LW (w7.setCell ⟨wb,6,none⟩ v') H wb { n with pv:=v' } b life (KS sb ab b life win clock false L2 A2 P2) FT5 (puts ++ [(k,tt,v)]) ls∧
  (∀ x,w.heap.size≤x→∀ o u,w5.cell? ⟨x,o,none⟩=some u→w7.cell? ⟨x,o,none⟩=some u∧(w7.setCell ⟨wb,6,none⟩ v').cell? ⟨x,o,none⟩=some u)):=fun w7 v' hA=>by
  rw [← hpf] at hA
  obtain ⟨a1,a2,a3,a4⟩:=H6.out.ptsApp hA
  rw [hpf] at a1
  refine ⟨a1,a2,(k6.mono (S':=Up H) fun _ _ h=>h.elim).trans a3 fun _ h _=>h,a4,fun x hx o u hu=>?_⟩
  have q:=A0E hA.chgOwn (k6.cellKeep hu) (fun e=>by have:=HPL.out x e;omega)
  exact ⟨q,(World.cell?_setCell_other _ _ _ _ (by simp;try omega)).trans q⟩
 clear hp6 k6
 refine A0e (fun w'=>w'.cell? ⟨wb,6,none⟩=some (.slice ap puts.length cp)∧w'.cell? ⟨w.heap.size,1,none⟩=some (.int .i64 k)∧w'.cell? ⟨w.heap.size,2,none⟩=some (.int .i64 tt)∧w'.cell? ⟨w.heap.size,3,none⟩=some (.int .i64 v)) 14
  [(0,true),(1,true),(2,true),(3,true),(4,true),(5,true),(6,true),(7,true),(8,true),(9,true),(10,true),(11,true),(12,false),(13,false)] (by kernel_rfl) (by kernel_rfl) (fun _ _ _ _ _ h=>h) ⟨d6,r1,r2,r3⟩ ?_
 iterate 12 (refine A0d (v:=?_) rfl (by rfl) ?_ ?_;rotate_left;(· (intro w' hS;(try dsimp only at hS);go_simp;try with_reducible rfl));(try simp only [Act.put,List.setIfInBounds_toArray,List.set_cons_zero,List.set_cons_succ,List.getElem_toArray,List.getElem_cons_zero,List.getElem_cons_succ]))
 refine A0i rfl (by rfl) (fun K hK=>?_)
 go_simp
 have k6c:Chg (fun _=>False) w5 (w5.alloc (.cells #[.int .i64 k,.int .i64 tt,.int .i64 v] 141)).drew:=((Chg.refl (fun _=>False) w5).alloc _).drew
 refine hK _ _ ⟨k6c.cellKeep d6,k6c.cellKeep r1,k6c.cellKeep r2,k6c.cellKeep r3⟩ (fun hS=>?_)
 clear hK K hS k6c
 (try simp only [Act.put,List.setIfInBounds_toArray,List.set_cons_zero,List.set_cons_succ,List.getElem_toArray,List.getElem_cons_zero,List.getElem_cons_succ])
 refine A0i rfl (by rfl) (fun K hK=>?_)
 refine A3q (.tmp 83) (.tmp 91) 37 37 rfl 141 i0 _ 3 24 Tryz.underlying37 hi hz0 hz1 hz2 rfl (by decide) (.slice ap puts.length cp) puts.length (A0x puts) (by rfl) HP6.out _ 1 _ (by rfl) SR.out (by have:=HLE.out;omega) ?_
 intro b7 cap7 w7 hA
 obtain ⟨y6,z6,k8,h8,hbox⟩:=FIN.out w7 _ hA
 refine hK _ _ ⟨y6,(hbox _ (Nat.le_refl _) 1 _ r1).1,(hbox _ (Nat.le_refl _) 2 _ r2).1,(hbox _ (Nat.le_refl _) 3 _ r3).1⟩ (fun hS=>?_)
 have m8:=(hbox w2.heap.size (by have:=HM.out;omega) 0 _ m5).2
 have m9:=(hbox w2.heap.size (by have:=HM.out;omega) 1 _ m6).2
 have H8:=A0b h8
 have K8:Hid (Chg (Up H) w (w7.setCell ⟨wb,6,none⟩ (.slice b7 (puts.length+1) cap7))):=K5.out.trans k8 fun _ h _=>h
 have e4:(w7.setCell ⟨wb,6,none⟩ (.slice b7 (puts.length+1) cap7)).cell? ⟨wb,4,none⟩=some (.pointer (some ⟨b,0,none⟩)):=by
  rw [h8.blk.c4];exact congrArg some h8.hdv
 clear hK K hS hA FIN k8 h8 hbox r1 r2 r3 m5 m6 SR HP6 H6 H5 K5 d6 d4 d9 HPUT
 (try simp only [Act.put,List.setIfInBounds_toArray,List.set_cons_zero,List.set_cons_succ,List.getElem_toArray,List.getElem_cons_zero,List.getElem_cons_succ])
 refine A0k ?_
 simp only [List.drop_succ_cons,List.drop_zero]
 go_wp2
 generalize (w7.setCell ⟨wb,6,none⟩ (.slice b7 (puts.length+1) cap7))=w8 at m8 m9 H8 K8 e4 ⊢
 have RF:=A0b (H8.out.chg0 (Chg.refl (fun _=>False) w8).drew).refused
 rw [HRQ.out,HRF.out] at RF
 refine A0e (fun w'=>w'.cell? ⟨wb,4,none⟩=some (.pointer (some ⟨b,0,none⟩))∧w'.cell? ⟨w2.heap.size,0,none⟩=some (.int .i64 rf)) 7
  [(0,true),(1,true),(2,true),(3,true),(5,true),(6,true),(4,false)] (by kernel_rfl) (by kernel_rfl) (fun _ _ _ _ _ h=>h) ⟨e4,m8⟩ ?_
 iterate 6 (refine A0d (v:=?_) rfl (by rfl) ?_ ?_;rotate_left;(· (intro w' hS;(try dsimp only at hS);go_simp;try with_reducible rfl));(try simp only [Act.put,List.setIfInBounds_toArray,List.set_cons_zero,List.set_cons_succ,List.getElem_toArray,List.getElem_cons_zero,List.getElem_cons_succ]))
 refine A0i rfl (by rfl) (fun K hK=>?_)
 go_simp
 refine RF.out.mono ?_
 rintro e w9 ⟨rfl,rfl⟩
 refine hK _ _ ⟨e4,m8⟩ (fun hS=>?_)
 clear hK K hS RF
 (try simp only [Act.put,List.setIfInBounds_toArray,List.set_cons_zero,List.set_cons_succ,List.getElem_toArray,List.getElem_cons_zero,List.getElem_cons_succ])
 refine A0k ?_
 simp only [List.drop_succ_cons,List.drop_zero]
 go_wp2
 go_ret
 exact ⟨rfl,K8.out.drew,FT5,.slice b7 (puts.length+1) cap7,H8.out.chg0 (Chg.refl (fun _=>False) w8).drew⟩
end
end Go.Proofs.YtodcnkbblippnaaGreatDoor
namespace Go.Proofs.YtodcnkbblippnaaGreatDoor
open Go.RowKit
attribute [local go_sem ↓] Go.wp_at_zero Go.wp_at_succ
def A7n (t H wb:Nat) (life:Int) (w:World) (n:WN) (puts:List Pu) (ls:List (Value × Int)):Prop:=
 A0P n.clock∧ls.length≤4*t∧∃ b:Nat,
  ((∃ (sb ab:Nat) (L:Nat→List Pt) (A:Ar) (P:PD) (FT:Nat→Prop) (ol:Option (List Pu)),n.sv=.pointer (some ⟨sb,0,none⟩)∧n.broken=false∧(1≤life∧life≤4611686018427387904)∧
   LW w H wb n b life (KS sb ab b life n.win n.clock false L A P) FT puts ls∧A3j t A P ol∧Rel L puts life n.clock∧(∀ k,k<8→(L k).length≤t)∧puts.length≤t∧∀ p∈puts,A4q p)∨
   (n.sv=.pointer none∧∃ (P:PD) (FT:Nat→Prop),LW w H wb n b life (KD b P) FT puts ls))
def LIQ (w:World) (H wb:Nat) (life:Int) (t:Nat):Prop:=∃ n puts ls,A7n t H wb life w n puts ls
section
variable {w w':World} {H wb t t' B:Nat} {life:Int} {n:WN} {puts:List Pu} {ls:List (Value × Int)}
theorem A7n.mono (h:A7n t H wb life w n puts ls) (ht:t≤t') (hm:t'≤200000):A7n t' H wb life w n puts ls:=by
 obtain ⟨h1,h4,b,h7⟩:=h
 refine ⟨h1,by omega,b,?_⟩
 rcases h7 with ⟨sb,ab,L,A,P,FT,ol,g1,g2,g3,g4,g5,g6,g7,g8,g9⟩ | g
 ·exact .inl ⟨sb,ab,L,A,P,FT,ol,g1,g2,g3,g4,g5.mono ht hm,g6,fun k hk=>Nat.le_trans (g7 k hk) ht,by omega,g9⟩
 ·exact .inr g
theorem A7n.chg0 (h:A7n t H wb life w n puts ls) (hc:Chg (fun _=>False) w w'):A7n t H wb life w' n puts ls:=by
 obtain ⟨h1,h4,b,h7⟩:=h
 refine ⟨h1,h4,b,?_⟩
 rcases h7 with ⟨sb,ab,L,A,P,FT,ol,g1,g2,g3,g4,g5⟩ | ⟨g1,P,FT,g2⟩
 ·exact .inl ⟨sb,ab,L,A,P,FT,ol,g1,g2,g3,g4.chg0 hc,g5⟩
 ·exact .inr ⟨g1,P,FT,g2.chg0 hc⟩
theorem A7n.blk (h:A7n t H wb life w n puts ls):A1b w wb n:=by
 obtain ⟨-,-,b,h7⟩:=h
 rcases h7 with ⟨_,_,_,_,_,_,_,_,_,_,g,-⟩ | ⟨-,_,_,g⟩ <;> exact g.blk
theorem A7S (w:World) (kd k tt v:Int) (tv:Value) (h:A7n t H wb life w n puts ls) (hsv:n.sv≠.pointer none) (hL:A2i B w) (hBH:B≤H) (ht:t+1≤200000) (htt:A0P tt) (hv:A0P v):
 Calls Tryz.prog 54 #[.pointer (some ⟨wb,0,none⟩),.agg #[.int .i64 kd,.int .i64 k,.int .i64 tt,.int .i64 v,tv]] w fun e w'=>e=.returned (.bool true)∧Chg (Up H) w w'∧LIQ w' H wb life (t+1):=by
 obtain ⟨h1,h4,b,h7⟩:=h
 rcases h7 with ⟨sb,ab,L,A,P,FT,ol,g1,g2,g3,g4,g5,g6,g7,g8,g9⟩ | ⟨g1,-⟩
 ·by_cases hk:0≤k∧k<8
  ·have hso:∀ k,k<8→A1z (L k):=by obtain ⟨lv,F0,q,-⟩:=g4.dsk;exact q.rows.sorted
   refine (B4i w kd k tt v tv g4 g1 g2 g5 ht ⟨hk,htt,hv⟩ (by omega) g7 g3 h1 hL hBH).mono ?_
   rintro e w' ⟨rfl,hc,FT',pv',hW⟩
   refine ⟨rfl,hc,{ n with pv:=pv' },puts ++ [(k,tt,v)],ls,h1,by omega,b,.inl ⟨sb,ab,_,_,_,FT',_,g1,g2,g3,hW,(g5.add ht (k,tt,v) ⟨hk,htt,hv⟩).2.2,?_,fun i hi=>?_,by simp;omega,fun p hp=>?_⟩⟩
   ·obtain ⟨k',rfl⟩:∃ k':Nat,k=k':=⟨k.toNat,by omega⟩
    exact g6.put hso (by omega) htt
   ·have:=A5E L (A0m n.clock life) k.toNat tt v i
    have:=g7 i hi
    omega
   ·rcases List.mem_append.1 hp with hp | hp
    ·exact g9 p hp
    ·simp at hp;subst hp;exact ⟨hk,htt,hv⟩
  ·refine (A8T w kd k tt v tv g4 g1 (A6K g5 (by omega)) hk).mono ?_
   rintro e w' ⟨rfl,hc,FT',hW⟩
   exact ⟨rfl,hc,n,puts,ls,A7n.mono ⟨h1,h4,b,.inl ⟨sb,ab,L,A,P,FT',ol,g1,g2,g3,hW,g5,g6,g7,g8,g9⟩⟩ (by omega) ht⟩
 ·exact absurd g1 hsv
theorem B1m (w:World) (kd k a b3:Int) (tv:Value) (hkd:kd=3∨kd=5) (h:A7n t H wb life w n puts ls) (hsv:n.sv≠.pointer none) (ht:t+1≤200000):
 Calls Tryz.prog 55 #[.pointer (some ⟨wb,0,none⟩),.agg #[.int .i64 kd,.int .i64 k,.int .i64 a,.int .i64 b3,tv]] w fun e w'=>e=.returned (.bool true)∧Chg (Up H) w w'∧LIQ w' H wb life (t+1):=by
 obtain ⟨h1,h4,b,h7⟩:=h
 rcases h7 with ⟨sb,ab,L,A,P,FT,ol,g1,g2,g3,g4,g5,g6,g7,g8,g9⟩ | ⟨g1,-⟩
 ·have fin:∀ w' n' ls',B5p n n'→LW w' H wb n' b life (KS sb ab b life n.win n.clock false L A P) FT puts ls'→ls'.length=ls.length+4→LIQ w' H wb life (t+1):=fun w' n' ls' hT hW hl=>by
   obtain ⟨lv',c',rfl⟩:∃ lv' c',n' = { n with lv:=lv',count:=c' }:=⟨_,_,hT⟩
   exact ⟨{ n with lv:=lv',count:=c' },puts,ls',h1,by omega,b,.inl ⟨sb,ab,L,A,P,FT,ol,g1,g2,g3,hW,g5.mono (Nat.le_succ t) ht,g6,fun k hk=>Nat.le_succ_of_le (g7 k hk),by omega,g9⟩⟩
  rcases hkd with rfl | rfl
  ·by_cases hk:0≤k∧k<8
   ·obtain ⟨k',rfl⟩:∃ k':Nat,k=k':=⟨k.toNat,by omega⟩
    refine (B4G w a b3 tv g4 g1 rfl g6 (by omega) (fun p hp=>(g9 p hp).2.1) (by omega) (by omega) g3 h1).mono ?_
    rintro e w' ⟨rfl,hc,n',ls',hW,hl',hT⟩
    exact ⟨rfl,hc,fin w' n' ls' hT hW hl'⟩
   ·refine (B3r w k a b3 tv g4 g1 hk (by omega)).mono ?_
    rintro e w' ⟨rfl,hc,n',ls',hW,hl',hT⟩
    exact ⟨rfl,hc,fin w' n' ls' hT hW hl'⟩
  ·refine (B0D w k a b3 tv g4 g1 rfl g2).mono ?_
   rintro e w' ⟨rfl,hc⟩
   exact ⟨rfl,hc.mono fun _ _ h=>h.elim,n,puts,ls,A7n.mono (A7n.chg0 ⟨h1,h4,b,.inl ⟨sb,ab,L,A,P,FT,ol,g1,g2,g3,g4,g5,g6,g7,g8,g9⟩⟩ hc) (by omega) ht⟩
 ·exact absurd g1 hsv
theorem A9s (w:World) (kd a b3 c3:Int) (tv:Value) (h:A7n t H wb life w n puts ls) (hsv:n.sv≠.pointer none) (ht:t+1≤200000) (ha:A0P a):
 Calls Tryz.prog 56 #[.pointer (some ⟨wb,0,none⟩),.agg #[.int .i64 kd,.int .i64 a,.int .i64 b3,.int .i64 c3,tv]] w fun e w'=>e=.returned (.bool true)∧Chg (Up H) w w'∧LIQ w' H wb life (t+1):=by
 obtain ⟨h1,h4,b,h7⟩:=h
 rcases h7 with ⟨sb,ab,L,A,P,FT,ol,g1,g2,g3,g4,g5,g6,g7,g8,g9⟩ | ⟨g1,-⟩
 ·obtain ⟨ha1,ha2⟩:=ha
  by_cases h0:a<0
  ·refine (B2Z w kd a b3 c3 tv g4 g1 h0).mono ?_
   rintro e w' ⟨rfl,hc⟩
   exact ⟨rfl,hc.mono fun _ _ h=>h.elim,n,puts,ls,A7n.mono (A7n.chg0 ⟨h1,h4,b,.inl ⟨sb,ab,L,A,P,FT,ol,g1,g2,g3,g4,g5,g6,g7,g8,g9⟩⟩ hc) (by omega) ht⟩
  ·have hcl:n.clock≤A0M n.clock a:=by
    obtain ⟨k1,k2⟩:=h1
    unfold A0M;split <;> omega
   refine (B4x w kd a b3 c3 tv g4 g1 rfl ⟨by omega,ha2⟩ g3 h1).mono ?_
   rintro e w' ⟨rfl,hc,FT',L',hW,hF⟩
   refine ⟨rfl,hc,{ n with clock:=A0M n.clock a },puts,ls,A7n.mono ⟨A3n h1 (by omega) ha2,h4,b,.inl ⟨sb,ab,L',A,P,FT',ol,g1,g2,g3,hW,g5,g6.tick (fun p hp=>(g9 p hp).2.1) hcl hF,fun k hk=>?_,g8,g9⟩⟩ (by omega) ht⟩
   have:=hF.len hk;have:=g7 k hk;omega
 ·exact absurd g1 hsv
set_option maxRecDepth 100000 in
set_option maxHeartbeats 4000000 in
theorem B4E (w:World) (kd a b3 c3:Int) (tv:Value) (h:A7n t H wb life w n puts ls) (hsv:n.sv≠.pointer none) (hL:A2i B w) (hBH:B≤H) (ht:t+1≤200000) (ha:A0P a) (hb:A0P b3) (hc3:A0P c3) (hk:kd∉[1,6,7,8,9,10,11]):
 Calls Tryz.prog 18 #[.pointer (some ⟨wb,0,none⟩),.agg #[.int .i64 kd,.int .i64 a,.int .i64 b3,.int .i64 c3,tv]] w fun e w'=>e=.returned (.bool true)∧Chg (Up H) w w'∧LIQ w' H wb life (t+1):=by
 have hA:=(Chg.refl (fun _=>False) w).alloc (A1t kd a b3 c3 tv)
 obtain ⟨o0,o1,o2,o3⟩:=A2o w kd a b3 c3 tv
 have o4:(w.alloc (A1t kd a b3 c3 tv)).cell? ⟨w.heap.size,4,none⟩=some tv:=by
  have hbx:=heap_alloc_new w (A1t kd a b3 c3 tv)
  unfold A1t at hbx ⊢
  simp only [World.cell?,hbx];rfl
 have h1:=h.chg0 hA
 have hL1:=hL.keep0 hA
 generalize hw1:w.alloc (A1t kd a b3 c3 tv)=w1 at hA o0 o1 o2 o3 o4 h1 hL1
 unfold A1t at hw1
 have c5:∃ sb,w1.cell? ⟨wb,5,none⟩=some (.pointer (some ⟨sb,0,none⟩)):=by
  have hb:=h1.blk.c5
  obtain ⟨-,-,b,h7⟩:=h1
  rcases h7 with ⟨sb,ab,L,A,P,FT,ol,g1,-⟩ | ⟨g1,-⟩
  ·exact ⟨sb,by rw [hb,g1]⟩
  ·exact absurd g1 hsv
 obtain ⟨sb,c5⟩:=c5
 have WR:Hid (∀ kd,Calls Tryz.prog 54 #[.pointer (some ⟨wb,0,none⟩),.agg #[.int .i64 kd,.int .i64 a,.int .i64 b3,.int .i64 c3,tv]] w1 fun e w'=>e=.returned (.bool true)∧Chg (Up H) w1 w'∧LIQ w' H wb life (t+1)):=fun kd=>A7S w1 kd a b3 c3 tv h1 hsv hL1 hBH ht hb hc3
 have AS:Hid (∀ kd,kd=3∨kd=5→Calls Tryz.prog 55 #[.pointer (some ⟨wb,0,none⟩),.agg #[.int .i64 kd,.int .i64 a,.int .i64 b3,.int .i64 c3,tv]] w1 fun e w'=>e=.returned (.bool true)∧Chg (Up H) w1 w'∧LIQ w' H wb life (t+1)):=fun kd hkd=>B1m w1 kd a b3 c3 tv hkd h1 hsv ht
 have TI:Hid (∀ kd,Calls Tryz.prog 56 #[.pointer (some ⟨wb,0,none⟩),.agg #[.int .i64 kd,.int .i64 a,.int .i64 b3,.int .i64 c3,tv]] w1 fun e w'=>e=.returned (.bool true)∧Chg (Up H) w1 w'∧LIQ w' H wb life (t+1)):=fun kd=>A9s w1 kd a b3 c3 tv h1 hsv ht ha
 have H1:Hid (LIQ w1 H wb life (t+1)):=⟨n,puts,ls,h1.mono (Nat.le_succ t) ht⟩
 have HA:Hid (Chg (Up H) w w1):=hA.mono fun _ _ h=>h.elim
 simp only [List.mem_cons,List.not_mem_nil,or_false,not_or] at hk
 obtain ⟨n1,n6,n7,n8,n9,n10,n11⟩:=hk
 clear h hL hA h1 hL1 ha hb hc3 ht hBH hsv
 by_cases e2:kd=2
 ·subst e2
  have WR2:=A0b (WR.out 2)
  clear WR AS TI n1 n6 n7 n8 n9 n10 n11
  go_enter Tryz.func18,Tryz.ntmps18
  go_wp2_with (go_at_call 54;refine WR2.out.mono ?_;rintro e w2 ⟨rfl,k2,hI⟩;have K2:=A0b k2;have HI:=A0b hI;clear k2 hI)
  go_ret
  exact ⟨rfl,HA.out.trans K2.out fun _ h _=>h,HI.out⟩
 ·by_cases e35:kd=3∨kd=5
  ·have AS2:=A0b (AS.out kd e35)
   clear WR AS TI
   rcases e35 with rfl | rfl
   all_goals
    clear n1 n6 n7 n8 n9 n10 n11 e2
    go_enter Tryz.func18,Tryz.ntmps18
    go_wp2_with (go_at_call 55;refine AS2.out.mono ?_;rintro e w2 ⟨rfl,k2,hI⟩;have K2:=A0b k2;have HI:=A0b hI;clear k2 hI)
    go_ret
    exact ⟨rfl,HA.out.trans K2.out fun _ h _=>h,HI.out⟩
  ·by_cases e4:kd=4
   ·subst e4
    have TI2:=A0b (TI.out 4)
    clear WR AS TI n1 n6 n7 n8 n9 n10 n11 e2 e35
    go_enter Tryz.func18,Tryz.ntmps18
    go_wp2_with (go_at_call 56;refine TI2.out.mono ?_;rintro e w2 ⟨rfl,k2,hI⟩;have K2:=A0b k2;have HI:=A0b hI;clear k2 hI)
    go_ret
    exact ⟨rfl,HA.out.trans K2.out fun _ h _=>h,HI.out⟩
   ·have e3:¬ kd=3:=fun e=>e35 (.inl e)
    have e5:¬ kd=5:=fun e=>e35 (.inr e)
    clear WR AS TI e35
    go_enter Tryz.func18,Tryz.ntmps18
    go_wp2
    go_ret
    exact ⟨rfl,HA.out,H1.out⟩
theorem B3M (w:World) (kd a b3 c3:Int) (tv:Value) (h:LIQ w H wb life t) (hL:A2i B w) (hBH:B≤H) (ht:t+1≤200000) (ha:A0P a) (hb:A0P b3) (hc3:A0P c3) (hk:kd∉[1,6,7,8,9,10,11]):
 Calls Tryz.prog 18 #[.pointer (some ⟨wb,0,none⟩),.agg #[.int .i64 kd,.int .i64 a,.int .i64 b3,.int .i64 c3,tv]] w fun e w'=>e=.returned (.bool true)∧Chg (Up H) w w'∧LIQ w' H wb life (t+1):=by
 obtain ⟨n,puts,ls,h1⟩:=h
 by_cases hsv:n.sv=.pointer none
 ·refine (B4m w kd a b3 c3 tv h1.blk hsv hk).mono ?_
  rintro e w' ⟨rfl,q1⟩
  exact ⟨rfl,q1.mono fun _ _ h=>h.elim,n,puts,ls,(h1.chg0 q1).mono (Nat.le_succ t) ht⟩
 ·exact B4E w kd a b3 c3 tv h1 hsv hL hBH ht ha hb hc3 hk
end
end Go.Proofs.YtodcnkbblippnaaGreatDoor
namespace Go.Proofs.YtodcnkbblippnaaGreatDoor
open Go.RowKit
attribute [local go_sem ↓] Go.wp_at_zero Go.wp_at_succ
section
variable {w w':World} {H wb b t N B:Nat} {life:Int} {n:WN}
theorem B4b (h:LIQ w H wb life t) (ht:t+1≤200000):LIQ w H wb life (t+1):=by
 obtain ⟨n,puts,ls,h1⟩:=h
 exact ⟨n,puts,ls,h1.mono (Nat.le_succ t) ht⟩
theorem A8e {window clock count:Int} (hSo:A4v N) (hN:N≤200000) (h2N:2≤N) (w:World) (h:A1b w wb ⟨life,window,-1,clock,.pointer (some ⟨b,0,none⟩),.pointer none,.slice none 0 0,0,false,false,clock,window,0,.slice none 0 0,.slice none 0 0,count⟩)
 (hd:A0R w b ⟨[],[],[],B1L 1152921504606846976⟩ (fun _=>([],0)) (One b)) (hbw:b<wb) (hHb:H≤b) (hE:Env B w) (hBH:B≤H) (hc:A0P clock):
 Calls Tryz.prog 17 #[.pointer (some ⟨wb,0,none⟩),.int .i64 window,.int .i64 0] w fun e w'=>e=.returned (.bool true)∧Chg (Up H) w w'∧LIQ w' H wb life 0:=by
 have hwl:=h.lt
 have hlw:LW w H wb ⟨life,window,-1,clock,.pointer (some ⟨b,0,none⟩),.pointer none,.slice none 0 0,0,false,false,clock,window,0,.slice none 0 0,.slice none 0 0,count⟩ b life (KD b (A0y 1152921504606846976)) (One b) [] []:=by
  refine ⟨h,rfl,rfl,KD.stab _ _,hd,fun k hk=>by cases hk;omega,World.ownsRow_nil _ _ _ _,World.ownsRow_nil _ _ _ _,?_,?_,fun k hk=>by cases hk;exact hHb⟩
  ·rintro k (rfl | e | e) hx
   ·cases hx;omega
   ·simp [Value.ownBlock] at e
   ·simp [Value.ownBlock] at e
  ·rintro k (rfl | e | e)
   ·omega
   ·simp [Value.ownBlock] at e
   ·simp [Value.ownBlock] at e
 have h0:A0P (0:Int):=by constructor <;> omega
 obtain ⟨c64,cle⟩:=A5M hc h0
 by_cases hcf:(1≤life∧life≤4611686018427387904)∧(1≤window∧window≤4611686018427387904)
 ·obtain ⟨hl,hw⟩:=hcf
  refine (B4U hSo hN w 0 hlw rfl rfl rfl (by omega) h2N hE hBH hl hw hc h0).mono ?_
  rintro e w' ⟨rfl,hk,b2,sb,ab,pv,FT',g1⟩
  exact ⟨rfl,hk,_,[],[],c64,Nat.le_refl _,b2,.inl ⟨sb,ab,_,_,_,FT',none,rfl,rfl,hl,g1,A5a (by omega),Rel.nil _ _,fun _ _=>Nat.le_refl _,Nat.le_refl _,fun p hp=>by cases hp⟩⟩
 ·refine (B2m (t:=0) w 0 hlw rfl (B2l (by omega)) rfl (by omega) hcf hc h0).mono ?_
  rintro e w' ⟨rfl,hk,b2,FT',g1⟩
  exact ⟨rfl,hk,_,[],[],c64,Nat.le_refl _,b2,.inr ⟨rfl,_,FT',g1⟩⟩
end
set_option maxRecDepth 100000 in
set_option maxHeartbeats 8000000 in
theorem B2T {N B g o n gw:Nat} (hSo:A4v N) (hN:N≤200000) (h2N:2≤N) (w:World) (life window clock:Int) (cap:Nat) (hS:B4I w g o n) (hn:n≤180000) (hg:n≠0→g<w.heap.size) (hW:B2x w gw [1,6,7,8,9,10,11]) (hL:Env B w) (hc:A0P clock) (sv:Value)
 (hsv:sv=.slice (some ⟨g,o,none⟩) n cap∨(n=0∧∃ x,sv=.slice x 0 cap)):
 Calls Tryz.prog 14 #[.agg #[.int .i64 life,.int .i64 window,.int .i64 (-1),.int .i64 clock],sv,.slice (some ⟨gw,0,none⟩) 7 7] w fun e w'=>e=.returned (.bool true)∧Chg (Up w.heap.size) w w':=by
 have hform:∃ a,sv=.slice a n cap∧(n≠0→a=some ⟨g,o,none⟩):=by
  rcases hsv with rfl | ⟨rfl,x,rfl⟩
  ·exact ⟨_,rfl,fun _=>rfl⟩
  ·exact ⟨x,rfl,fun h=>absurd rfl h⟩
 obtain ⟨ad,rfl,had⟩:=hform
 have hA:=(Chg.refl (fun _=>False) w).alloc (.cells #[.int .i64 life,.int .i64 window,.int .i64 (-1),.int .i64 clock] 23)
 have hbx:=heap_alloc_new w (.cells #[.int .i64 life,.int .i64 window,.int .i64 (-1),.int .i64 clock] 23)
 generalize hw0:(w.alloc (.cells #[.int .i64 life,.int .i64 window,.int .i64 (-1),.int .i64 clock] 23))=w0 at hA hbx
 have q0:w0.cell? ⟨w.heap.size,0,none⟩=some (.int .i64 life):=by simp only [World.cell?,hbx];rfl
 have q1:w0.cell? ⟨w.heap.size,1,none⟩=some (.int .i64 window):=by simp only [World.cell?,hbx];rfl
 have q2:w0.cell? ⟨w.heap.size,2,none⟩=some (.int .i64 (-1)):=by simp only [World.cell?,hbx];rfl
 have q3:w0.cell? ⟨w.heap.size,3,none⟩=some (.int .i64 clock):=by simp only [World.cell?,hbx];rfl
 have HA:=A0b hA
 have HS:=A0b hS
 have HG:=A0b hg
 have HAD:=A0b had
 have HW:=A0b hW
 have HL:=A0b hL
 have AW:=A0b (B2u w0 (hL.keep0 hA))
 clear hS hA hbx hW hL hsv had hg
 go_enter Tryz.func14,Tryz.ntmps14
 go_wp2_with (fail)
 refine AW.out.mono ?_
 rintro e w1 ⟨rfl,k1⟩
 have K1:Hid (Chg (fun _=>False) w w1):=HA.out.trans k1 fun _ h _=>h
 have p0:=k1.cellKeep q0
 have p1:=k1.cellKeep q1
 have p2:=k1.cellKeep q2
 have p3:=k1.cellKeep q3
 have BG:=A0b (B2N (F:=fun _=>([],0)) w1 life window (-1) clock 0)
 clear AW k1 q0 q1 q2 q3 hw0 HA
 go_wp2_with (fail)
 refine BG.out.mono ?_
 rintro e w2 ⟨wb,b,rfl,hb2,hd2,hs2,hbw,k2⟩
 have K2:Hid (Chg (fun _=>False) w w2):=K1.out.trans k2 fun _ h _=>h
 have r1:=k2.cellKeep p1
 have OP:=A0b (A8e (H:=w.heap.size) hSo hN h2N w2 hb2 hd2 hbw (Nat.le_trans K1.out.size hs2) (HL.out.keep0 K2.out) HL.out.1.1 hc)
 clear BG p0 p1 p2 p3 hb2 hd2 hs2 hbw k2 K1
 go_wp2_with (fail)
 refine OP.out.mono ?_
 rintro e w3 ⟨rfl,k3,hI⟩
 have K3:Hid (Chg (Up w.heap.size) w w3):=(K2.out.mono (S':=Up w.heap.size) fun _ _ h=>h.elim).trans k3 fun _ h _=>h
 have HI:=A0b hI
 clear OP k3 hI K2 r1
 have hnI:(n:Int)≤180000:=by omega
 go_wp2
 have hgw:Hid (gw<w.heap.size):=World.block_lt_of_cell? w _ (HW.out 0 (by decide))
 have AM:Hid (∀ w' x,Chg (Up w.heap.size) w w'→Calls Tryz.prog 41 #[.slice (some ⟨gw,0,none⟩) 7 7,.int .i64 x] w' fun e w2=>e=.returned (.bool (decide (x∈([1,6,7,8,9,10,11]:List Int))))∧w'=w2):=fun w' x hk=>
  B2E w' gw [1,6,7,8,9,10,11] x (fun k hk'=>A0E hk (HW.out k hk') fun e=>by unfold Up at e;have:=hgw.out;omega) (by decide)
 clear HW
 go_loopw [9,10] (fun okv iv wr=>∃ k:Nat,k≤n∧okv=.bool true∧iv=.int .i64 k∧Hid (Chg (Up w.heap.size) w wr∧LIQ wr w.heap.size wb life k)) (fun _ iv _=>n - (intOf iv).toNat)
 case atStart=>exact ⟨0,Nat.zero_le _,rfl,rfl,K3.out,HI.out⟩
 case round=>
  obtain ⟨k,hk,rfl,rfl,hH⟩:=hrel
  obtain ⟨w4,hw4⟩:∃ w4,w4=wr:=⟨_,rfl⟩
  subst hw4
  have k0:(0:Int)≤(k:Int):=Int.natCast_nonneg _
  clear K3 HI
  by_cases hlk:k<n
  ·have i1:(k:Int)<(n:Int):=by omega
   obtain rfl:=HAD.out (by omega)
   have hgl:=HG.out (by omega)
   obtain ⟨kd,a,b3,c3,tv,ia,ib,ic,s0,s1,s2,s3,s4⟩:=HS.out k hlk
   have up:∀ x u,w.cell? ⟨g,x,none⟩=some u→w4.cell? ⟨g,x,none⟩=some u:=fun x u hu=>A0E hH.out.1 hu fun e=>by unfold Up at e;omega
   have s0:=up _ _ s0
   have s1:=up _ _ s1
   have s2:=up _ _ s2
   have s3:=up _ _ s3
   have s4:=up _ _ s4
   have AMk:=A0b (AM.out w4 kd hH.out.1)
   by_cases hin:kd∈([1,6,7,8,9,10,11]:List Int)
   ·rw [decide_eq_true hin] at AMk
    have NXT:Hid (LIQ w4 w.heap.size wb life (k+1)):=B4b hH.out.2 (by omega)
    clear AM HS HG HAD up hin ia ib ic
    go_wp2_with (go_at_call 41;refine AMk.out.mono ?_;rintro e w5 ⟨rfl,rfl⟩)
    go_roundw
    case rel=>exact ⟨k+1,by omega,rfl,by go_num,hH.out.1,NXT.out⟩
    case measure=>simp [intOf];omega
   ·rw [decide_eq_false hin] at AMk
    have ST:=A0b (B3M w4 kd a b3 c3 tv hH.out.2 (HL.out.keep hH.out.1 fun x e=>by unfold Up at e;have:=HL.out.1.1;omega).1 HL.out.1.1 (by omega) ia ib ic hin)
    clear AM HS HG HAD up hin ia ib ic
    go_wp2_with (first
     | (go_at_call 41;refine AMk.out.mono ?_;rintro e w5 ⟨rfl,rfl⟩)
     | (go_at_call 18;refine ST.out.mono ?_;rintro e w5 ⟨rfl,k5,hI5⟩;have K5:=A0b k5;have HI5:=A0b hI5;clear k5 hI5))
    go_roundw
    case rel=>exact ⟨k+1,by omega,rfl,by go_num,hH.out.1.trans K5.out (fun _ h _=>h),HI5.out⟩
    case measure=>simp [intOf];omega
  ·obtain rfl:k=n:=by omega
   have AMk:=A0b (AM.out w4 1 hH.out.1)
   rw [decide_eq_true (by decide)] at AMk
   clear AM HS HG HAD
   go_wp2_with (go_at_call 41;refine AMk.out.mono ?_;rintro e w5 ⟨rfl,rfl⟩)
   go_ret
   exact ⟨rfl,hH.out.1⟩
set_option maxRecDepth 100000 in
set_option maxHeartbeats 4000000 in
theorem A9i {N B g o n:Nat} (hSo:A4v N) (hN:N≤200000) (h2N:2≤N) (w:World) (life window room clock:Int) (cap:Nat) (hS:B4I w g o n) (hn:n≤180000) (hg:n≠0→g<w.heap.size) (hL:Env B w) (hc:A0P clock) (sv:Value)
 (hsv:sv=.slice (some ⟨g,o,none⟩) n cap∨(n=0∧∃ x,sv=.slice x 0 cap)):
 Calls Tryz.prog 3 #[.agg #[.int .i64 life,.int .i64 window,.int .i64 room,.int .i64 clock],sv] w fun e w'=>e=.returned (.bool true)∧Chg (Up w.heap.size) w w':=by
 have hc1:=(Chg.refl (fun _=>False) w).alloc (.cells #[.int .i64 life,.int .i64 window,.int .i64 (-1),.int .i64 clock] 23)
 have hb1:(w.alloc (.cells #[.int .i64 life,.int .i64 window,.int .i64 (-1),.int .i64 clock] 23)).heap[w.heap.size]?=some (.cells #[.int .i64 life,.int .i64 window,.int .i64 (-1),.int .i64 clock] 23 (0,0)):=heap_alloc_new w _
 have hc2:Chg (fun _=>False) w ((w.alloc (.cells #[.int .i64 life,.int .i64 window,.int .i64 (-1),.int .i64 clock] 23)).alloc (.cells #[.int .i64 1,.int .i64 6,.int .i64 7,.int .i64 8,.int .i64 9,.int .i64 10,.int .i64 11] 3)):=hc1.alloc _
 have hI:B2x ((w.alloc (.cells #[.int .i64 life,.int .i64 window,.int .i64 (-1),.int .i64 clock] 23)).alloc (.cells #[.int .i64 1,.int .i64 6,.int .i64 7,.int .i64 8,.int .i64 9,.int .i64 10,.int .i64 11] 3)) (w.heap.size+1) [1,6,7,8,9,10,11]:=by
  have hz:(w.alloc (.cells #[.int .i64 life,.int .i64 window,.int .i64 (-1),.int .i64 clock] 23)).heap.size=w.heap.size+1:=by simp
  have hb2:=heap_alloc_new (w.alloc (.cells #[.int .i64 life,.int .i64 window,.int .i64 (-1),.int .i64 clock] 23)) (.cells #[.int .i64 1,.int .i64 6,.int .i64 7,.int .i64 8,.int .i64 9,.int .i64 10,.int .i64 11] 3)
  rw [hz] at hb2
  intro k hk
  simp only [World.cell?,hb2]
  match k,hk with
  | 0,_=>rfl
  | 1,_=>rfl
  | 2,_=>rfl
  | 3,_=>rfl
  | 4,_=>rfl
  | 5,_=>rfl
  | 6,_=>rfl
 have PL:=A0b (B2T hSo hN h2N (g:=g) (o:=o) (gw:=w.heap.size+1) _ life window clock cap (fun i hi=>by
  obtain ⟨kd,a,b,c,tv,ia,ib,ic,s0,s1,s2,s3,s4⟩:=hS i hi
  exact ⟨kd,a,b,c,tv,ia,ib,ic,hc2.cellKeep s0,hc2.cellKeep s1,hc2.cellKeep s2,hc2.cellKeep s3,hc2.cellKeep s4⟩) hn (fun h=>Nat.lt_of_lt_of_le (hg h) hc2.size) hI (hL.keep0 hc2) hc sv hsv)
 have HC2:=A0b hc2
 have r0:(w.alloc (.cells #[.int .i64 life,.int .i64 window,.int .i64 (-1),.int .i64 clock] 23)).cell? ⟨w.heap.size,0,none⟩=some (.int .i64 life):=by simp only [World.cell?,hb1];rfl
 clear hc1 hb1 hc2 hI hS hL hsv hg
 go_enter Tryz.func3,Tryz.ntmps3
 go_wp2_with (go_at_call 14;refine PL.out.mono ?_;rintro e w2 ⟨rfl,k2⟩;have K2:=A0b k2;clear k2)
 go_ret
 exact ⟨rfl,(HC2.out.mono (S':=Up w.heap.size) fun _ _ h=>h.elim).trans K2.out fun x hx _=>by unfold Up at hx ⊢;have:=HC2.out.size;omega⟩
end Go.Proofs.YtodcnkbblippnaaGreatDoor
