/-
  The statement WritesUptoCardSaid is proved: the law Writes answers true for every setting and every script of at most 1048576 bytes; there is no other condition.
  Part 29 of 33.
-/
import Derived.Test.YtodcnkbblippnaaGreatDoorPart07
import Derived.Test.YtodcnkbblippnaaGreatDoorPart28
import Derived.Test.YtodcnkbblippnaaGreatDoorPart27
namespace Go.Proofs.YtodcnkbblippnaaGreatDoor
open Go.RowKit
attribute [local go_sem ↓] Go.wp_at_zero Go.wp_at_succ
set_option maxRecDepth 100000 in
set_option maxHeartbeats 4000000 in
theorem B3m (w:World) (b:Nat) (D:DS) (F:Nat→FC) (Ft:Nat→Prop) (h:Rep w b D F Ft) (hs:D.dir.length<549755813888∧D.safe.length<549755813888∧∀ l∈D.changes,l.length<1099511627776) (hK0:∀ l:List Nat,l.Nodup→(∀ f∈l,D.ids f)→l.length<1099511627776) (hs2:D.changes.length<1099511627776) (hF:∀ f,D.ids f→(F f).1.length≤1099511627776):
 Calls Tryz.prog 47 #[.pointer (some ⟨b,0,none⟩)] w fun e w'=>∃ b2 r F2 Ft2,e=.returned (.pointer (some ⟨b2,0,none⟩))∧Rep w' b2 (D.ren r) F2 Ft2∧(∀ k,Ft2 k→w.heap.size≤k∧k<w'.heap.size)∧Chg (fun _=>False) w w'∧
  (∀ f,D.ids f→F2 (r f)=F f)∧∀ f f',D.ids f→D.ids f'→r f=r f'→f=f':=by
 obtain ⟨vd,vs,vc,vals,VB,hr,hft⟩:=h
 obtain ⟨hsA,hsB,hsC⟩:=hs
 have HSC:=A0b hsC
 have HK0:=A0b hK0
 clear hsC hK0
 have HR:=A0b hr
 have HFF:=A0b hF
 have c0:=hr.blk.c0
 have c1:=hr.blk.c1
 have c2:=hr.blk.c2
 have c3:=hr.blk.c3
 have c4:=hr.blk.c4
 have c5:=hr.blk.c5
 have c6:=hr.blk.c6
 have c7:=hr.blk.c7
 have c8:=hr.blk.c8
 have c9:=hr.blk.c9
 have c10:=hr.blk.c10
 obtain ⟨ac,pc,rfl,hc1,hc2,hcsome,hcnone,hcform⟩:=A0g hr.chg
 unfold maxLen at hc2
 have HSome:=A0b hcsome
 have CA:Hid (∀ (vl:Value) (es:List Ent) (W:World) (L M:List Nat) (vo vm:Value) (VB1:Nat→Value),A1l w vl es→(∀ f,A1f f es→D.ids f)→es.length<1099511627776→Chg (fun _=>False) w W→CS w.heap.size W (w.heap.size+1) (w.heap.size+2) F L M vo vm VB1→L.length<1099511627776→
  Calls Tryz.prog 87 #[vl,.pointer (some ⟨w.heap.size+1,0,none⟩),.pointer (some ⟨w.heap.size+2,0,none⟩)] W fun e w'=>∃ v L2 M2 vo2 vm2 VB2 es2,e=.returned v∧OR1 w.heap.size W (w.heap.size+1) (w.heap.size+2) F L M vo vm VB1 es es.length es.length v w' L2 M2 vo2 vm2 VB2 es2):=
  fun vl es W L M vo vm VB1 h1 h2 h3 h4 h5 h6=>B1d HR.out h4 h5 h1 h2 HFF.out ⟨h3,h6⟩
 have HC:Hid (∀ W,Chg (fun _=>False) w W→W.cell? ⟨b,0,none⟩=some vd∧W.cell? ⟨b,1,none⟩=some vs):=fun W hc=>
  ⟨(World.cell?_of_block (hc.block b HR.out.blk.lt (fun h=>h))).trans HR.out.blk.c0,(World.cell?_of_block (hc.block b HR.out.blk.lt (fun h=>h))).trans HR.out.blk.c1⟩
 have hbne:w.heap.size≠b:=by have:=HR.out.blk.lt;omega
 clear hr hft hF hcsome hcnone hcform
 go_enter Tryz.func47,Tryz.ntmps47
 go_wp2
 refine wp_region_still_tail 33 (by kernel_rfl) (by kernel_rfl) ?_
 simp only [World.drew_eq,List.take_succ_cons,List.take_zero,List.drop_succ_cons,List.drop_zero]
 repeat still_step
 refine wpStill_nil ?_
 go_wp2
 generalize hW1:(((w.alloc (.cells #[.slice none 0 0,.slice none 0 0,.slice none 0 0,.int .i64 D.n.room,.int .i64 D.n.calls,.int .i64 D.n.cut,.int .i64 D.n.fail,.int .i64 D.n.part,.int .i64 D.n.refused,.int .i64 D.n.fulls,.bool D.n.dead] 95)).alloc (.cells #[.slice none 0 0] 138)).alloc (.cells #[.slice none 0 0] 138)).drew=W1
 obtain ⟨cs1,hb1,hc1W⟩:=B2P w D.n F VB W1 hW1.symm
 have HB1:=A0b hb1
 have HCS1:=A0b cs1
 have HCW1:=A0b hc1W
 clear hW1 cs1 hb1 hc1W c0 c1 c3 c4 c5 c6 c7 c8 c9 c10
 refine A0e (fun w'=>w'.cell? ⟨b,0,none⟩=some vd∧w'.cell? ⟨b,1,none⟩=some vs) 17
  [(0,true),(1,true),(2,true),(3,true),(4,true),(5,true),(6,true),(8,true),(9,true),(10,true),(11,true),(12,true),(7,false),(13,false),(14,true),(15,true),(16,false)] (by kernel_rfl) (by kernel_rfl) (fun _ _ _ _ _ h=>h) (HC.out _ HCW1.out.drew) ?_
 iterate 12 (refine A0d (v:=?_) rfl (by rfl) ?_ ?_;rotate_left;(· (intro w' hS;(try dsimp only at hS);go_simp;try with_reducible rfl));(try simp only [Act.put,List.setIfInBounds_toArray,List.set_cons_zero,List.set_cons_succ,List.getElem_toArray,List.getElem_cons_zero,List.getElem_cons_succ]))
 refine A0i rfl (by rfl) (fun K hK=>?_)
 go_simp
 refine (CA.out vd D.dir _ _ _ _ _ _ HR.out.dir (fun f hf=>.inl hf) (by omega) HCW1.out.drew (HCS1.out.chg (Chg.refl (fun _=>False) W1).drew (fun _ _ h=>h) (fun _ _ h=>h)) (by simp)).mono ?_
 rintro e w2 ⟨v1,L,M,vo,vm,VB2,e1,rfl,ho1⟩
 obtain ⟨a1,k1,rfl,-⟩:=A1l.form ho1.ent
 have HO1:=A0b ho1
 have HC2:Hid (Chg (fun _=>False) w w2):=ho1.chgW HCW1.out.drew (HCS1.out.chg (Chg.refl (fun _=>False) W1).drew (fun _ _ h=>h) (fun _ _ h=>h))
 have hL:L.length≤D.dir.length:=by
  obtain ⟨o,q1,q2,_⟩:=ho1.pre
  rw [q1];simpa using q2
 clear ho1
 refine hK _ _ (HC.out _ HC2.out) (fun hS=>?_)
 clear hK K hS
 (try simp only [Act.put,List.setIfInBounds_toArray,List.set_cons_zero,List.set_cons_succ,List.getElem_toArray,List.getElem_cons_zero,List.getElem_cons_succ])
 refine A0i rfl (by rfl) (fun K hK=>?_)
 go_simp
 refine (CA.out vs D.safe _ _ _ _ _ _ HR.out.safe (fun f hf=>.inr (.inl hf)) (by omega) HC2.out HO1.out.cs (by omega)).mono ?_
 rintro e w3 ⟨v2,L2,M2,vo2,vm2,VB3,e2,rfl,ho2⟩
 obtain ⟨a2,k2,rfl,-⟩:=A1l.form ho2.ent
 have HO2:=A0b ho2
 have HC3:Hid (Chg (fun _=>False) w w3):=ho2.chgW HC2.out HO1.out.cs
 have hst:=B1c (HCS1.out.chg (Chg.refl (fun _=>False) W1).drew (fun _ _ h=>h) (fun _ _ h=>h)) ((HB1.out:A0H W1.drew _ _ _ _ _)) HCW1.out.drew HO1.out ho2
 have z0:=hst.1.c0
 have z1:=hst.1.c1
 have zf:=hst.1.fz
 have HST:=A0b hst.2
 clear ho2 hst
 refine hK _ _ (HC.out _ HC3.out) (fun hS=>?_)
 obtain ⟨s0,s1⟩:=hS
 clear hK K
 (try simp only [Act.put,List.setIfInBounds_toArray,List.set_cons_zero,List.set_cons_succ,List.getElem_toArray,List.getElem_cons_zero,List.getElem_cons_succ])
 iterate 2 (refine A0d (v:=?_) rfl (by rfl) ?_ ?_;rotate_left;(· (intro w' hS;(try dsimp only at hS);go_simp;try with_reducible rfl));(try simp only [Act.put,List.setIfInBounds_toArray,List.set_cons_zero,List.set_cons_succ,List.getElem_toArray,List.getElem_cons_zero,List.getElem_cons_succ]))
 refine A0i rfl (by rfl) (fun K hK=>?_)
 go_simp
 refine hK _ _ ?_ (fun hS=>?_)
 ·simp [World.cell?_setCell_far,hbne,s0,s1]
 clear hK K hS s0 s1
 (try simp only [Act.put,List.setIfInBounds_toArray,List.set_cons_zero,List.set_cons_succ,List.getElem_toArray,List.getElem_cons_zero,List.getElem_cons_succ])
 have c2b:w3.cell? ⟨b,2,none⟩=some (.slice ac D.changes.length pc):=(World.cell?_of_block (HC3.out.block b HR.out.blk.lt (fun h=>h))).trans c2
 refine A0k ?_
 simp only [List.drop_succ_cons,List.drop_zero]
 go_wp2
 generalize hW4:(w3.setCell ⟨w.heap.size,0,none⟩ (.slice a1 e1.length k1)).setCell ⟨w.heap.size,1,none⟩ (.slice a2 e2.length k2)=W4 at HST ⊢
 clear hW4 z0 z1 zf c2b c2
 go_loopw [67] (fun iv wr=>∃ i:Nat,i≤D.changes.length∧iv=.int .i64 i∧Hid (∃ L M vo vm vcn VB vals' cs,CR w.heap.size w wr w.heap.size (w.heap.size+1) (w.heap.size+2) D F i L M vo vm (.slice a1 e1.length k1) (.slice a2 e2.length k2) vcn VB vals' e1 e2 cs)) (fun iv _=>D.changes.length - (intOf iv).toNat)
 case atStart=>exact ⟨0,Nat.zero_le _,rfl,_,_,_,_,_,_,_,_,HST.out⟩
 case round=>
  obtain ⟨i,hi,rfl,hcr⟩:=hrel
  clear HST
  by_cases hli:i<D.changes.length
  ·obtain ⟨L3,M3,vo3,vm3,vcn,VB4,vals',cs,k0⟩:=hcr.out
   have K0:=A0b k0
   obtain ⟨gc,rfl⟩:=HSome.out (by omega)
   obtain ⟨vk,hvk,hek⟩:=HR.out.che i hli
   have hgc:=A0c HR.out.chg (g:=gc) rfl
   have m1:wr.cell? ⟨gc,i,none⟩=some vk:=(World.cell?_of_block (k0.chg.block gc hgc (fun h=>h))).trans (A0j HR.out.chg (g:=gc) rfl hvk)
   obtain ⟨ak,pk,rfl,hk1,hk2,-⟩:=A1l.form hek
   have HEK:=A0b hek
   obtain ⟨es,hes⟩:∃ es,D.changes[i]'hli=es:=⟨_,rfl⟩
   have hesl:es.length<1099511627776:=by rw [← hes];exact HSC.out _ (List.getElem_mem hli)
   have hL3:L3.length<1099511627776:=HK0.out _ k0.cs0.odup k0.lids
   rw [hes] at HEK
   have m2:=k0.blk.c2
   have mf:=k0.blk.fz
   have HES:=A0b hes
   have hids:Hid (∀ f,A1f f es→D.ids f):=fun f hf=>.inr (.inr ⟨_,List.getElem_mem hli,hes ▸ hf⟩)
   have hi0:(0:Int)≤(i:Int):=Int.natCast_nonneg _
   have hi1:(i:Int)<(D.changes.length:Int):=by omega
   rw [hes] at m1
   obtain ⟨p0,hp,hp0,hp1,hp2⟩:=info_parts Tryz.infoChange
   clear hek hvk hk1 hk2 k0 hcr hes
   have hsz:w.heap.size<wr.heap.size:=K0.out.blk.lt
   have hne2:wr.heap.size≠w.heap.size:=by omega
   have csr:Hid (CS w.heap.size ((wr.alloc (.cells #[.slice ak es.length pk] 120)).drew) (w.heap.size+1) (w.heap.size+2) F L3 M3 vo3 vm3 VB4):=K0.out.cs0.chg ((Chg.refl (fun _=>False) wr).alloc (.cells #[.slice ak es.length pk] 120)).drew (fun _ _ h=>h) (fun _ _ h=>h)
   have cwr:Hid (Chg (fun _=>False) w ((wr.alloc (.cells #[.slice ak es.length pk] 120)).drew)):=(K0.out.chg.alloc (.cells #[.slice ak es.length pk] 120)).drew
   have nbx:=heap_alloc_new wr (.cells #[.slice ak es.length pk] 120)
   have n0:(wr.alloc (.cells #[.slice ak es.length pk] 120)).cell? ⟨wr.heap.size,0,none⟩=some (.slice ak es.length pk):=by unfold World.cell?;rw [nbx];rfl
   have n1:(wr.alloc (.cells #[.slice ak es.length pk] 120)).cell? ⟨w.heap.size,2,none⟩=some vcn:=(K0.out.blk.alloc (.cells #[.slice ak es.length pk] 120)).c2
   have NB:=A0b nbx
   clear nbx
   go_wp2
   refine A0e (fun w'=>w'.cell? ⟨w.heap.size,2,none⟩=some vcn∧w'.cell? ⟨wr.heap.size,0,none⟩=some (.slice ak es.length pk)) 12
    [(0,true),(1,true),(2,true),(3,true),(4,true),(5,true),(6,true),(7,true),(8,false),(9,true),(10,false),(11,false)] (by kernel_rfl) (by kernel_rfl) (fun _ _ _ _ _ h=>h) ⟨n1,n0⟩ ?_
   iterate 8 (refine A0d (v:=?_) rfl (by rfl) ?_ ?_;rotate_left;(· (intro w' hS;(try dsimp only at hS);go_simp;try with_reducible rfl));(try simp only [Act.put,List.setIfInBounds_toArray,List.set_cons_zero,List.set_cons_succ,List.getElem_toArray,List.getElem_cons_zero,List.getElem_cons_succ]))
   refine A0i rfl (by rfl) (fun K hK=>?_)
   go_simp
   refine (CA.out _ es _ _ _ _ _ _ HEK.out hids.out hesl cwr.out csr.out hL3).mono ?_
   rintro e w5 ⟨v5,L5,M5,vo5,vm5,VB5,es5,rfl,ho5⟩
   obtain ⟨a5,k5,rfl,-⟩:=A1l.form ho5.ent
   have HO5:=A0b ho5
   have hb5:A0H w5 w.heap.size (.slice a1 e1.length k1) (.slice a2 e2.length k2) vcn D.n:=
    (ho5.chg.block _ (by simp;omega) (csr.out.far (K0.out.blk.alloc (.cells #[.slice ak es.length pk] 120)) (.inr (.inr rfl)))).trans (K0.out.blk.alloc (.cells #[.slice ak es.length pk] 120))
   have hbx:w5.heap[wr.heap.size]?=some (.cells #[.slice ak es.length pk] 120 (0,0)):=(ho5.chg.block _ (by simp) (csr.out.far NB.out (.inr (.inl rfl)))).trans NB.out
   have hch5:w5.ownsRow 0 120 1 vcn i vals':=A0a K0.out.ch fun g hg=>by
    obtain ⟨c,hh⟩:=A0f K0.out.ch hg
    have h1:((wr.alloc (.cells #[.slice ak es.length pk] 120)).drew).heap[g]?=some (Obj.cells c 120 (0,0)):=(Below.heap_alloc _ _ _ (lt_of_block hh)).trans hh
    exact ((ho5.chg.block _ (lt_of_block h1) (csr.out.far h1 (.inr (.inl rfl)))).trans h1).trans hh.symm
   have p1:=hb5.c2
   have p2:w5.cell? ⟨wr.heap.size,0,none⟩=some (.slice ak es.length pk):=by simp [World.cell?,hbx]
   have HB5:=A0b hb5
   have HBX:=A0b hbx
   have HCH5:Hid ((w5.alloc (.cells #[.slice a5 es5.length k5] 120)).ownsRow 0 120 1 vcn i vals'):=A0a hch5 fun g hg=>Below.heap_alloc _ _ _ (A0c hch5 hg)
   have hgrow:Hid (∀ w6 v6 n xs,App (w5.alloc (.cells #[.slice a5 es5.length k5] 120)) w6 120 1 vcn v6 n xs→(w6.cell? ⟨w.heap.size,2,none⟩=some vcn∧w6.cell? ⟨wr.heap.size,0,none⟩=some (.slice ak es.length pk))∧w6.frozen? ⟨w.heap.size,2,none⟩=false):=by
    intro w6 v6 n xs hA
    have x1:w6.heap[w.heap.size]?=w5.heap[w.heap.size]?:=(hA.grown.block _ (by have:=HB5.out.lt;simp;omega) (fun e=>by
     obtain ⟨c,hh⟩:=A0f HCH5.out e.symm
     exact A0r hh (HB5.out.alloc _) (by decide) rfl)).trans (Below.heap_alloc _ _ _ HB5.out.lt)
    have x2:w6.heap[wr.heap.size]?=w5.heap[wr.heap.size]?:=(hA.grown.block _ (by have:=lt_of_block HBX.out;simp;omega) (fun e=>by
     have:=A0c K0.out.ch e.symm;omega)).trans (Below.heap_alloc _ _ _ (lt_of_block HBX.out))
    exact ⟨⟨(World.cell?_of_block x1).trans HB5.out.c2,by simp [World.cell?,x2,HBX.out]⟩,(HB5.out.same x1).fz 2⟩
   have hsr:Hid (Src Tryz.prog 1 93 (.slice (some ⟨w5.heap.size,0,none⟩) 1 1) 1 [.slice a5 es5.length k5] (w5.alloc (.cells #[.slice a5 es5.length k5] 120))):=
    Src.ofNew Tryz.underlying93 w5 #[.slice a5 es5.length k5] 120 w5.heap.size rfl 1 1 rfl (by simp [Value.oneCell'])
   have hbb:(i+1)*24≤140737488355328:=by omega
   clear ho5 hb5 hbx hch5
   refine hK _ _ ⟨p1,p2⟩ (fun hS=>?_)
   clear hK K hS
   (try simp only [Act.put,List.setIfInBounds_toArray,List.set_cons_zero,List.set_cons_succ,List.getElem_toArray,List.getElem_cons_zero,List.getElem_cons_succ])
   (refine A0d (v:=?_) rfl (by rfl) ?_ ?_;rotate_left;(· (intro w' hS;(try dsimp only at hS);go_simp;try with_reducible rfl));(try simp only [Act.put,List.setIfInBounds_toArray,List.set_cons_zero,List.set_cons_succ,List.getElem_toArray,List.getElem_cons_zero,List.getElem_cons_succ]))
   refine A0i rfl (by rfl) (fun K hK=>?_)
   go_simp
   refine hK _ _ ?_ (fun hS=>?_)
   ·simp [World.cell?_alloc_some,p1,p2]
   clear hK K hS p1 p2
   (try simp only [Act.put,List.setIfInBounds_toArray,List.set_cons_zero,List.set_cons_succ,List.getElem_toArray,List.getElem_cons_zero,List.getElem_cons_succ])
   refine A0i rfl (by rfl) (fun K hK=>?_)
   refine A3q (.tmp 75) (.tmp 81) 93 93 (by rfl) 120 p0 _ 1 24 Tryz.underlying93 hp hp0 hp1 hp2 rfl (by decide) vcn i vals' (by rfl) HCH5.out _ 1 _ (by rfl) hsr.out hbb ?_
   intro a6 k6 w6 hA
   obtain ⟨r1,r2⟩:=hgrow.out _ _ _ _ hA
   have HSTEP:=A0b (K0.out.step (nq:=0) hli HES.out (((Chg.refl (fun _=>False) wr).alloc (.cells #[.slice ak es.length pk] 120)).drew) HO5.out hA)
   refine hK _ _ r1 (fun hS=>?_)
   obtain ⟨r1,-⟩:=r1
   clear hK K hS hA
   (try simp only [Act.put,List.setIfInBounds_toArray,List.set_cons_zero,List.set_cons_succ,List.getElem_toArray,List.getElem_cons_zero,List.getElem_cons_succ])
   refine A0k ?_
   simp only [List.drop_succ_cons,List.drop_zero]
   go_wp2
   go_roundw
   case rel=>exact ⟨i+1,by omega,by go_num,_,_,_,_,_,_,_,_,HSTEP.out⟩
   case measure=>simp [intOf];omega
  ·obtain rfl:i=D.changes.length:=by omega
   obtain ⟨L3,M3,vo3,vm3,vcn,VB4,vals',cs,k0⟩:=hcr.out
   obtain ⟨r,F2,Ft2,q1,q2,q3,q4,q5⟩:=k0.fin
   have Q1:=A0b q1
   have Q2:=A0b q2
   have Q4:=A0b q4
   have Q5:=A0b q5
   have Q3:=A0b q3
   clear q1 q2 q3 q4 q5 k0 hcr
   go_wp2
   go_ret
   exact ⟨_,r,F2,Ft2,rfl,Q1.out,Q2.out,Q3.out,Q4.out,Q5.out⟩
theorem A9P:∀ {l m:List Nat},l.Nodup→(∀ x∈l,x∈m)→l.length≤m.length
 | [],_,_,_=>Nat.zero_le _
 | x :: r,m,h,hs=>by
  have hx:=hs x (List.mem_cons_self ..)
  have hn:=List.nodup_cons.1 h
  have:=A9P (m:=m.erase x) hn.2 fun y hy=>(List.mem_erase_of_ne fun e=>hn.1 (by rw [← e];exact hy)).2 (hs y (List.mem_cons_of_mem _ hy))
  rw [List.length_erase_of_mem hx] at this
  have:=List.length_pos_of_mem hx
  simp only [List.length_cons];omega
def B2q (D:DS) (F:Nat→FC):Prop:=∃ K,K<1099511627776∧(∀ f,D.ids f→f<K)∧D.dir.length<549755813888∧D.safe.length<549755813888∧(∀ l∈D.changes,l.length<1099511627776)∧D.changes.length<1099511627776∧∀ f,D.ids f→(F f).1.length≤1099511627776
theorem B5m {w:World} {b:Nat} {D:DS} {F:Nat→FC} {Ft:Nat→Prop} (h:A0R w b D F Ft) (hC:B2q D F):
 Calls Tryz.prog 47 #[.pointer (some ⟨b,0,none⟩)] w fun e w'=>∃ b2 Ft2,e=.returned (.pointer (some ⟨b2,0,none⟩))∧A0R w' b2 D F Ft2∧(∀ k,Ft2 k→w.heap.size≤k∧k<w'.heap.size)∧Chg (fun _=>False) w w':=by
 obtain ⟨r,G,h1,h2,h3⟩:=h
 obtain ⟨K,c1,c2,c3,c4,c5,c6,c7⟩:=hC
 obtain ⟨l1,l2,l3,l4⟩:=A1p D r
 refine (B3m w b _ G Ft h1 ⟨by rw [l1];exact c3,by rw [l2];exact c4,fun l hl=>?_⟩ (fun l hn hl=>?_) (by rw [l3];exact c6) (fun f' hf'=>by
  obtain ⟨f,q1,rfl⟩:=DS.ids_ren hf'
  rw [h2 f q1];exact c7 f q1)).mono ?_
 ·obtain ⟨l0,q1,rfl⟩:=List.mem_map.1 hl
  rw [A2X];exact c5 l0 q1
 ·have:=A9P (m:=(List.range K).map r) hn fun x hx=>by
   obtain ⟨f,q1,rfl⟩:=DS.ids_ren (hl x hx)
   exact List.mem_map_of_mem (List.mem_range.2 (c2 f q1))
  rw [List.length_map,List.length_range] at this
  omega
 rintro e w' ⟨b2,r2,F2,Ft2,q1,q2,q3,q4,q5,q6⟩
 have hcomp:(D.ren r).ren r2=D.ren (fun f=>r2 (r f)):=by
  have e:∀ es:List Ent,Go.Proofs.YtodcnkbblippnaaGreatDoor.ren r2 (Go.Proofs.YtodcnkbblippnaaGreatDoor.ren r es)=Go.Proofs.YtodcnkbblippnaaGreatDoor.ren (fun f=>r2 (r f)) es:=fun es=>by simp [Go.Proofs.YtodcnkbblippnaaGreatDoor.ren]
  simp only [DS.ren,e,List.map_map]
  congr 1
  exact List.map_congr_left fun c _=>e c
 have hid:∀ f,D.ids f→(D.ren r).ids (r f):=by
  rintro f (⟨x,hx,rfl⟩ | ⟨x,hx,rfl⟩ | ⟨c,hc,x,hx,rfl⟩)
  ·exact .inl ⟨_,List.mem_map_of_mem hx,rfl⟩
  ·exact .inr (.inl ⟨_,List.mem_map_of_mem hx,rfl⟩)
  ·exact .inr (.inr ⟨_,List.mem_map_of_mem hc,_,List.mem_map_of_mem hx,rfl⟩)
 refine ⟨b2,Ft2,q1,⟨fun f=>r2 (r f),F2,hcomp ▸ q2,fun f hf=>?_,fun f f' hf hf' e=>?_⟩,q3,q4⟩
 ·rw [q5 (r f) (hid f hf),h2 f hf]
 ·exact h3 f f' hf hf' (q6 _ _ (hid f hf) (hid f' hf') e)
end Go.Proofs.YtodcnkbblippnaaGreatDoor
namespace Go.Proofs.YtodcnkbblippnaaGreatDoor
open Go.RowKit
attribute [local go_sem ↓] Go.wp_at_zero Go.wp_at_succ
theorem PB.copyOk {P:PD} {t:Nat} (h:PB P t) (ht:t≤200000):B2q P.D P.F:=
 ⟨400000*(t+1),by omega,h.ids,by have:=h.fit.dir;omega,by have:=h.fit.safe;omega,fun l hl=>by have:=h.fit.chl l hl;omega,by have:=h.fit.chg;omega,fun f hf=>by have:=h.fit.len f hf;omega⟩
theorem A0E {S:Nat→Prop} {w w':World} (hc:Chg S w w') {x o:Nat} {u:Value} (h:w.cell? ⟨x,o,none⟩=some u) (hS:¬ S x):w'.cell? ⟨x,o,none⟩=some u:=by
 have hb:=World.block_lt_of_cell? w _ h
 exact (World.cell?_of_block (hc.block x hb hS)).trans h
theorem A0A.some {w w':World} {Ft:Nat→Prop} {R R2:World→(Nat→Prop)→Prop} (h:A0A w Ft w' R) (hi:∀ Ft',R w' Ft'→R2 w' Ft'):A0A w Ft w' R2:=by
 obtain ⟨h1,F,h2,h3⟩:=h
 exact ⟨h1,F,hi F h2,h3⟩
end Go.Proofs.YtodcnkbblippnaaGreatDoor
namespace Go.Proofs.YtodcnkbblippnaaGreatDoor
open Go.RowKit
attribute [local go_sem ↓] Go.wp_at_zero Go.wp_at_succ
theorem A7P {life window:Int} (hl:1≤life∧life≤4611686018427387904) (hw:1≤window∧window≤4611686018427387904):A4e life window=true:=by simp [A4e];omega
theorem A7f {life window:Int} (h:¬ ((1≤life∧life≤4611686018427387904)∧(1≤window∧window≤4611686018427387904))):A4e life window=false:=by
 simp only [A4e,decide_eq_false_iff_not];omega
section
variable {w w':World} {wb:Nat} {n:WN} {b:Nat} {D:DS} {F:Nat→FC} {Ft:Nat→Prop}
set_option maxRecDepth 100000 in
set_option maxHeartbeats 400000 in
theorem A9O (h:A0R w b D F Ft):Calls Tryz.prog 49 #[.pointer (some ⟨b,0,none⟩)] w fun e w'=>e=.returned (.int .i64 D.n.calls)∧w=w':=by
 obtain ⟨vd,vs,vc,h⟩:=h.blk
 have h4:=h.c4
 go_enter Tryz.func49,Tryz.ntmps49
 go_wp2
 go_ret
 exact ⟨rfl,rfl⟩
end
def A1D (clock ticks:Int):Int:=if 0≤ticks then A0M clock ticks else clock
theorem A5M {clock ticks:Int} (hc:A0P clock) (ht:A0P ticks):A0P (A1D clock ticks)∧clock≤A1D clock ticks:=by
 unfold A1D
 obtain ⟨h1,h2⟩:=hc
 split
 ·rename_i h
  refine ⟨A3n ⟨h1,h2⟩ h ht.2,?_⟩
  unfold A0M;split <;> omega
 ·exact ⟨⟨h1,h2⟩,Int.le_refl _⟩
theorem A9X (w:World) (wb:Nat) (n:WN) (clock ticks life window:Int) (h:A1b w wb n) (hck:n.clock=clock):∃ w1,Chg (One wb) w w1∧w1.heap.size=w.heap.size+1∧A1b w1 wb { n with clock:=A1D clock ticks }∧
 w1.heap[w.heap.size]?=some (.cells #[.int .i64 life,.int .i64 window] 48 (0,0))∧(0≤ticks→(w.setCell ⟨wb,10,none⟩ (.int .i64 (A1D clock ticks))).alloc (.cells #[.int .i64 life,.int .i64 window] 48)=w1)∧(¬ 0≤ticks→w.alloc (.cells #[.int .i64 life,.int .i64 window] 48)=w1):=by
 by_cases ht:0≤ticks
 ·refine ⟨(w.setCell ⟨wb,10,none⟩ (.int .i64 (A1D clock ticks))).alloc (.cells #[.int .i64 life,.int .i64 window] 48),((Chg.refl (One wb) w).setAt rfl 10 _).alloc _,by simp,(h.s10 _).chg0 ((Chg.refl (fun _=>False) _).alloc _),?_,fun _=>rfl,fun h=>absurd ht h⟩
  have:=heap_alloc_new (w.setCell ⟨wb,10,none⟩ (.int .i64 (A1D clock ticks))) (.cells #[.int .i64 life,.int .i64 window] 48)
  simpa using this
 ·have e:A1D clock ticks=clock:=by unfold A1D;rw [if_neg ht]
  have en:({ n with clock:=clock }:WN)=n:=by subst hck;rfl
  refine ⟨w.alloc (.cells #[.int .i64 life,.int .i64 window] 48),((Chg.refl (One wb) w)).alloc _,by simp,?_,heap_alloc_new _ _,fun h=>absurd h ht,fun _=>rfl⟩
  rw [e,en]
  exact h.chg0 ((Chg.refl (fun _=>False) _).alloc _)
theorem LW.reborn {w w':World} {H wb b b2:Nat} {n n':WN} {life:Int} {R R':B3Z} {FT FT':Nat→Prop} {puts:List Pu} {ls:List (Value × Int)} (h:LW w H wb n b life R FT puts ls) (hc:Chg (One wb) w w') (hb:A1b w' wb n') (e1:n'.dv=.pointer (some ⟨b2,0,none⟩)) (e2:n'.life=n.life) (e3:n'.pv=n.pv) (e4:n'.lv=n.lv)
 (hs:B5w R') (hd:R' w' FT') (hlt:∀ k,FT' k→k<w'.heap.size) (hF:∀ k,FT' k→w.heap.size≤k):LW w' H wb n' b2 life R' FT' puts ls:=by
 have hf:∀ k,A4G wb n' k→A4G wb n k:=fun k hk=>by unfold A4G at hk ⊢;rwa [e3,e4] at hk
 have hz:=h.size
 refine ⟨hb,e1,e2.trans h.hlf,hs,hd,hlt,?_,?_,fun k hk hx=>?_,fun k hk=>h.upw k (hf k hk),fun k hk=>Nat.le_trans hz (hF k hk)⟩
 ·rw [e3]
  exact A0a h.pts fun g hg=>hc.block g (A0c h.pts hg) fun e=>h.wne_p (by cases e;exact hg)
 ·rw [e4]
  exact A0a h.lst fun g hg=>hc.block g (A0c h.lst hg) fun e=>h.wne_l (by cases e;exact hg)
 ·have:=h.wlt (hf k hk);have:=hF k hx;omega
end Go.Proofs.YtodcnkbblippnaaGreatDoor
namespace Go.Proofs.YtodcnkbblippnaaGreatDoor
open Go.RowKit
attribute [local go_sem ↓] Go.wp_at_zero Go.wp_at_succ
set_option maxRecDepth 100000 in
set_option maxHeartbeats 2000000 in
theorem B0U (w:World) (life window clock:Int) (db:Option Addr) (h:¬ (1≤life∧life≤4611686018427387904)∨¬ (1≤window∧window≤4611686018427387904)):
 Calls Tryz.prog 22 #[.pointer db,.agg #[.int .i64 life,.int .i64 window],.int .i64 clock] w fun e w'=>e=.returned (.tuple #[.pointer none,.int .i64 1])∧Chg (fun _=>False) w w':=by
 have hA:=(Chg.refl (fun _=>False) w).alloc (.cells #[.int .i64 life,.int .i64 window] 48)
 have hbx:=heap_alloc_new w (.cells #[.int .i64 life,.int .i64 window] 48)
 generalize hw0:(w.alloc (.cells #[.int .i64 life,.int .i64 window] 48))=w0 at hA hbx
 have q0:w0.cell? ⟨w.heap.size,0,none⟩=some (.int .i64 life):=by simp only [World.cell?,hbx];rfl
 have q1:w0.cell? ⟨w.heap.size,1,none⟩=some (.int .i64 window):=by simp only [World.cell?,hbx];rfl
 have HA:=A0b hA
 clear hA hbx
 by_cases h1:1≤life∧life≤4611686018427387904
 ·have h2:¬ (1≤window∧window≤4611686018427387904):=h.resolve_left (fun h=>h h1)
  have IS1:Hid (∀ w',Calls Tryz.prog 58 #[.int .i64 life] w' fun e w''=>e=.returned (.bool true)∧w'=w''):=fun w'=>by
   have:=A2O w' life
   rwa [decide_eq_true h1] at this
  have IS2:Hid (∀ w',Calls Tryz.prog 58 #[.int .i64 window] w' fun e w''=>e=.returned (.bool false)∧w'=w''):=fun w'=>by
   have:=A2O w' window
   rwa [decide_eq_false h2] at this
  clear h h1 h2
  go_enter Tryz.func22,Tryz.ntmps22
  go_wp2_with (first
   | (go_at_call 58;refine (IS1.out _).mono ?_;rintro e w' ⟨rfl,rfl⟩)
   | (go_at_call 58;refine (IS2.out _).mono ?_;rintro e w' ⟨rfl,rfl⟩))
  go_ret2
  exact ⟨rfl,HA.out⟩
 ·have IS1:Hid (∀ w',Calls Tryz.prog 58 #[.int .i64 life] w' fun e w''=>e=.returned (.bool false)∧w'=w''):=fun w'=>by
   have:=A2O w' life
   rwa [decide_eq_false h1] at this
  clear h h1
  go_enter Tryz.func22,Tryz.ntmps22
  go_wp2_with (go_at_call 58;refine (IS1.out _).mono ?_;rintro e w' ⟨rfl,rfl⟩)
  go_ret2
  exact ⟨rfl,HA.out⟩
section
variable {w w':World} {H wb b t N B:Nat} {n:WN} {life clock window:Int} {P:PD} {FT:Nat→Prop} {puts:List Pu} {ls:List (Value × Int)}
set_option maxRecDepth 100000 in
set_option maxHeartbeats 8000000 in
theorem B2m (w:World) (ticks:Int) (h:LW w H wb n b life (KD b P) FT puts ls) (hck:n.clock=clock) (hp:PB P t) (hdead:P.D.n.dead=false) (ht:t≤200000)
 (hbad:¬ ((1≤life∧life≤4611686018427387904)∧(1≤window∧window≤4611686018427387904))) (hc:A0P clock) (htk:A0P ticks):
 Calls Tryz.prog 17 #[.pointer (some ⟨wb,0,none⟩),.int .i64 window,.int .i64 ticks] w fun e w'=>e=.returned (.bool true)∧Chg (Up H) w w'∧∃ b2 FT',
  LW w' H wb { n with clock:=A1D clock ticks,dv:=.pointer (some ⟨b2,0,none⟩),sv:=.pointer none } b2 life (KD b2 P) FT' puts ls:=by
 obtain ⟨hc',hcle⟩:=A5M hc htk
 obtain ⟨w1,hc1,hsz,hw1,hbx,hB1,hB2⟩:=A9X w wb n clock ticks life window h.blk hck
 have TI:Hid (0≤ticks→Calls Tryz.prog 44 #[.int .i64 clock,.int .i64 ticks] w fun e w'=>e=.returned (.int .i64 (A1D clock ticks))∧w=w'):=fun h0=>by
  have:=A4X clock ticks w hc ⟨h0,htk.2⟩
  have e:A1D clock ticks=A0M clock ticks:=by unfold A1D;rw [if_pos h0]
  rw [e];exact this
 obtain ⟨cl,hcl⟩:∃ cl,A1D clock ticks=cl:=⟨_,rfl⟩
 rw [hcl] at hc' hw1 hB1 TI ⊢
 have hd:A0R w b P.D P.F FT:=h.dsk
 have hlt:=h.lt
 have hnw:¬ FT wb:=h.nw wb (.inl rfl)
 have hwl:=h.blk.lt
 have hwH:H≤wb:=h.upw wb (.inl rfl)
 have c4:=h.blk.c4
 rw [h.hdv] at c4
 have c0:=h.blk.c0
 rw [h.hlf] at c0
 have c10:=h.blk.c10
 rw [hck] at c10
 have f10:=h.blk.fz 10
 have DE:=A0b (B5z hd)
 rw [hdead] at DE
 have e0:=(h.blk.s10 cl).c0
 rw [h.hlf] at e0
 have hd1:A0R w1 b P.D P.F FT:=hd.frame fun k hk=>hc1.block k (hlt k hk) (fun e=>hnw (by cases e;exact hk))
 have q0:w1.cell? ⟨w.heap.size,0,none⟩=some (.int .i64 life):=by simp only [World.cell?,hbx];rfl
 have q1:w1.cell? ⟨w.heap.size,1,none⟩=some (.int .i64 window):=by simp only [World.cell?,hbx];rfl
 have hlt1:∀ k,FT k→k<w1.heap.size:=fun k hk=>by have:=hlt k hk;omega
 have CF:=A0b (A6L w1 life window)
 rw [A7f hbad] at CF
 have CP:Hid (∀ w3,Chg (fun _=>False) w1 w3→Calls Tryz.prog 47 #[.pointer (some ⟨b,0,none⟩)] w3 fun e w'=>∃ b2 Ft2,e=.returned (.pointer (some ⟨b2,0,none⟩))∧A0R w' b2 P.D P.F Ft2∧(∀ k,Ft2 k→w1.heap.size≤k∧k<w'.heap.size)∧Chg (fun _=>False) w1 w'):=fun w3 k3=>by
  refine (B5m (hd1.same hlt1 k3) (hp.copyOk ht)).mono ?_
  rintro e w' ⟨b2,Ft2,rfl,a1,a2,a3⟩
  exact ⟨b2,Ft2,rfl,a1,fun k hk=>⟨Nat.le_trans k3.size (a2 k hk).1,(a2 k hk).2⟩,k3.trans a3 fun _ h _=>h⟩
 have REB:Hid (∀ (w12:World) (b2:Nat) (FT':Nat→Prop),Chg (One wb) w w12→A1b w12 wb { n with clock:=cl,dv:=.pointer (some ⟨b2,0,none⟩),sv:=.pointer none }→KD b2 P w12 FT'→(∀ k,FT' k→k<w12.heap.size)→(∀ k,FT' k→w.heap.size≤k)→
  LW w12 H wb { n with clock:=cl,dv:=.pointer (some ⟨b2,0,none⟩),sv:=.pointer none } b2 life (KD b2 P) FT' puts ls):=fun w12 b2 FT' hcc hb hks hl12 hup=>h.reborn hcc hb rfl rfl rfl rfl (KD.stab b2 P) hks hl12 hup
 obtain ⟨rf,hrf⟩:∃ rf,P.D.n.refused=rf:=⟨_,rfl⟩
 obtain ⟨fu,hfu⟩:∃ fu,P.D.n.fulls=fu:=⟨_,rfl⟩
 have HRF:=A0b hrf
 have HFU:=A0b hfu
 have hdv:=h.hdv
 have HW1:=A0b hw1
 have HC1:=A0b hc1
 have HSZ:Hid (w1.heap.size=w.heap.size+1∧wb<w.heap.size∧H≤wb):=⟨hsz,hwl,hwH⟩
 have HB1:=A0b hB1
 have HB2:=A0b hB2
 clear hd hlt hd1 hlt1 hnw h hp hsz hwl hwH hw1 hc1 hbx hB1 hB2 hdead hrf hfu hc' hcle
 go_enter Tryz.func17,Tryz.ntmps17
 by_cases htk:0≤ticks
 focus
  have TI1:=TI.out htk
  go_wp2_with (first
   | (go_at_call 36;refine DE.out.mono ?_;rintro e w1 ⟨rfl,rfl⟩)
   | (go_at_call 44;refine TI1.mono ?_;rintro e w1 ⟨rfl,rfl⟩))
  rw [HB1.out htk]
  clear TI1
 rotate_left
 focus
  go_wp2_with (first
   | (go_at_call 36;refine DE.out.mono ?_;rintro e w1 ⟨rfl,rfl⟩))
  rw [HB2.out htk]
 all_goals
  clear DE TI c4 c0 c10 f10 e0 HB1 HB2
  refine CF.out.mono ?_
  rintro e w2 ⟨rfl,k2⟩
  have t4:=(HW1.out.chg0 k2).c4
  dsimp only at t4
  rw [hdv] at t4
  have CP3:=A0b (CP.out w2 k2)
  clear CP CF
  go_wp2_with (fail)
  refine CP3.out.mono ?_
  rintro e w4 ⟨b2,Ft2,rfl,hd4,hf4,k4⟩
  have hw4:=HW1.out.chg0 k4
  have t4':=hw4.c4
  have z4:=hw4.fz 4
  have hn4:¬ Ft2 wb:=fun hx=>by have:=(hf4 wb hx).1;have:=HSZ.out;omega
  have hc5:=(Chg.refl (One wb) w4).setAt (b:=wb) rfl 4 (.pointer (some ⟨b2,0,none⟩))
  have hw5:=hw4.s4 (.pointer (some ⟨b2,0,none⟩))
  have hlt5:∀ k,Ft2 k→k<(w4.setCell ⟨wb,4,none⟩ (.pointer (some ⟨b2,0,none⟩))).heap.size:=fun k hk=>by simpa using (hf4 k hk).2
  have hd5:A0R (w4.setCell ⟨wb,4,none⟩ (.pointer (some ⟨b2,0,none⟩))) b2 P.D P.F Ft2:=hd4.frame fun k hk=>hc5.block k (hf4 k hk).2 (fun e=>hn4 (by cases e;exact hk))
  have K5:Hid (Chg (One wb) w1 (w4.setCell ⟨wb,4,none⟩ (.pointer (some ⟨b2,0,none⟩)))):=(k4.mono (S':=One wb) fun _ _ h=>h.elim).trans hc5 fun _ h _=>h
  have MK:=A0b (A6j _ hw5 rfl hd5 hlt5)
  have HW5:=A0b hw5
  have HD5:=A0b hd5
  have HF5:Hid (∀ k,Ft2 k→w1.heap.size≤k):=fun k hk=>(hf4 k hk).1
  have HL5:=A0b hlt5
  have x0:=k4.cellKeep q0
  have x1:=k4.cellKeep q1
  have hwne:wb≠w.heap.size:=by have:=HSZ.out;omega
  have y0:(w4.setCell ⟨wb,4,none⟩ (.pointer (some ⟨b2,0,none⟩))).cell? ⟨w.heap.size,0,none⟩=some (.int .i64 life):=(World.cell?_setCell_other _ _ _ _ (by simp;try omega)).trans x0
  have y1:(w4.setCell ⟨wb,4,none⟩ (.pointer (some ⟨b2,0,none⟩))).cell? ⟨w.heap.size,1,none⟩=some (.int .i64 window):=(World.cell?_setCell_other _ _ _ _ (by simp;try omega)).trans x1
  rw [HRF.out,HFU.out] at MK
  clear CP3 hd4 hf4 k4 hw4 hc5 hw5 hlt5 hd5 x0 x1 q0 q1 k2 hwne
  go_wp2_with (fail)
  generalize (w4.setCell ⟨wb,4,none⟩ (.pointer (some ⟨b2,0,none⟩)))=w5 at K5 MK HW5 HD5 HL5 y0 y1 ⊢
  refine MK.out.mono ?_
  rintro e w6 ⟨rfl,k6⟩
  have v4:(w6.alloc (.cells #[.int .i64 rf,.int .i64 fu] 85)).cell? ⟨wb,4,none⟩=some (.pointer (some ⟨b2,0,none⟩)):=(HW5.out.chg0 (k6.alloc _)).c4
  clear MK t4 t4' z4
  go_wp2_with (fail)
  have k7:Chg (fun _=>False) w5 (w6.alloc (.cells #[.int .i64 rf,.int .i64 fu] 85)):=k6.alloc _
  have hbx:=heap_alloc_new w6 (.cells #[.int .i64 rf,.int .i64 fu] 85)
  have m0:(w6.alloc (.cells #[.int .i64 rf,.int .i64 fu] 85)).cell? ⟨w6.heap.size,0,none⟩=some (.int .i64 rf):=by simp only [World.cell?,hbx];rfl
  have HB7:Hid ((w6.alloc (.cells #[.int .i64 rf,.int .i64 fu] 85)).heap.size=w6.heap.size+1):=by simp [Hid]
  generalize w6.alloc (.cells #[.int .i64 rf,.int .i64 fu] 85)=w7 at k7 m0 HB7 ⊢
  have W7:=A0b (HW5.out.chg0 k7)
  have D7:=A0b (HD5.out.same HL5.out k7)
  have L7:Hid (∀ k,Ft2 k→k<w7.heap.size):=fun k hk=>Nat.lt_of_lt_of_le (HL5.out k hk) k7.size
  have K7:Hid (Chg (One wb) w1 w7):=K5.out.trans k7 fun _ h _=>h.elim
  have M7:Hid (∀ k,Ft2 k→k<w6.heap.size):=fun k hk=>Nat.lt_of_lt_of_le (HL5.out k hk) k6.size
  have p0:=k7.cellKeep y0
  have p1:=k7.cellKeep y1
  have p4:w7.cell? ⟨wb,4,none⟩=some (.pointer (some ⟨b2,0,none⟩)):=W7.out.c4
  have p10:w7.cell? ⟨wb,10,none⟩=some (.int .i64 cl):=W7.out.c10
  have CA:=A0b (A9O D7.out)
  obtain ⟨cn,hcn⟩:∃ cn,P.D.n.calls=cn:=⟨_,rfl⟩
  rw [hcn] at CA
  have HCN:=A0b hcn
  clear y0 y1 k6 hbx v4 HW5 HD5 HL5 K5 hcn k7
  refine CA.out.mono ?_
  rintro e w8 ⟨rfl,rfl⟩
  go_wp2_with (fail)
  have OP:=A0b (B0U w7.drew life window cl (some ⟨b2,0,none⟩) (by
   by_cases h1:1≤life∧life≤4611686018427387904
   ·exact .inr fun h2=>hbad ⟨h1,h2⟩
   ·exact .inl h1))
  refine A0e (fun w'=>w'.cell? ⟨wb,4,none⟩=some (.pointer (some ⟨b2,0,none⟩))∧w'.cell? ⟨w.heap.size,0,none⟩=some (.int .i64 life)∧w'.cell? ⟨w.heap.size,1,none⟩=some (.int .i64 window)∧w'.cell? ⟨wb,10,none⟩=some (.int .i64 cl)) 14
   [(0,true),(1,true),(2,true),(3,true),(4,true),(5,true),(6,true),(7,true),(8,true),(9,false),(10,true),(11,true),(12,true),(13,true)] (by kernel_rfl) (by kernel_rfl) (fun _ _ _ _ _ h=>h) ⟨p4,p0,p1,p10⟩ ?_
  iterate 9 (refine A0d (v:=?_) rfl (by rfl) ?_ ?_;rotate_left;(· (intro w' hS;(try dsimp only at hS);go_simp;try with_reducible rfl));(try simp only [Act.put,List.setIfInBounds_toArray,List.set_cons_zero,List.set_cons_succ,List.getElem_toArray,List.getElem_cons_zero,List.getElem_cons_succ]))
  refine A0i rfl (by rfl) (fun K hK=>?_)
  go_simp
  refine OP.out.mono ?_
  rintro e w8 ⟨rfl,hc8⟩
  refine hK _ _ ⟨hc8.cellKeep p4,hc8.cellKeep p0,hc8.cellKeep p1,hc8.cellKeep p10⟩ (fun hS=>?_)
  have k8:Chg (fun _=>False) w7 w8:=⟨hc8.os,hc8.tape,hc8.output,hc8.size,hc8.block⟩
  have W8:=A0b (W7.out.chg0 k8)
  have K8:Hid (Chg (One wb) w1 w8):=K7.out.trans k8 fun _ h _=>h.elim
  have D8:=A0b (D7.out.same L7.out k8)
  have NF:Hid (¬ Ft2 wb):=hn4
  have L8:Hid (∀ k,Ft2 k→k<w8.heap.size):=fun k hk=>Nat.lt_of_lt_of_le (L7.out k hk) k8.size
  have s4:w8.cell? ⟨wb,4,none⟩=some (.pointer (some ⟨b2,0,none⟩)):=W8.out.c4
  have s5:=W8.out.c5
  have z5:=W8.out.fz 5
  clear hK K hS hc8 k8 OP p0 p1 p4 p10 W7 D7 L7 K7 m0 CA HB7
  (try simp only [Act.put,List.setIfInBounds_toArray,List.set_cons_zero,List.set_cons_succ,List.getElem_toArray,List.getElem_cons_zero,List.getElem_cons_succ])
  iterate 4 (refine A0d (v:=?_) rfl (by rfl) ?_ ?_;rotate_left;(· (intro w' hS;(try dsimp only at hS);go_simp;try with_reducible rfl));(try simp only [Act.put,List.setIfInBounds_toArray,List.set_cons_zero,List.set_cons_succ,List.getElem_toArray,List.getElem_cons_zero,List.getElem_cons_succ]))
  refine A0k ?_
  simp only [List.drop_succ_cons,List.drop_zero]
  have hc9:=(Chg.refl (One wb) w8).setAt (b:=wb) rfl 5 (.pointer none)
  have W9:=A0b (W8.out.s5 (.pointer none))
  have D9:Hid (A0R (w8.setCell ⟨wb,5,none⟩ (.pointer none)) b2 P.D P.F Ft2):=D8.out.frame fun k hk=>hc9.block k (L8.out k hk) (fun e=>NF.out (by cases e;exact hk))
  have L9:Hid (∀ k,Ft2 k→k<(w8.setCell ⟨wb,5,none⟩ (.pointer none)).heap.size):=fun k hk=>by simpa using L8.out k hk
  have K9:Hid (Chg (One wb) w1 (w8.setCell ⟨wb,5,none⟩ (.pointer none))):=K8.out.setAt rfl 5 _
  have CA:=A0b (A9O D9.out)
  rw [HCN.out] at CA
  clear hc9 W8 D8 K8
  go_wp2_with (go_at_call 49;refine CA.out.mono ?_;rintro e w8 ⟨rfl,rfl⟩)
  go_ret
  have hk:Chg (One wb) w (w8.setCell ⟨wb,5,none⟩ (.pointer none)):=HC1.out.trans K9.out fun _ h _=>h
  exact ⟨rfl,hk.mono fun x _ e=>by cases e;exact HSZ.out.2.2,b2,Ft2,REB.out _ b2 Ft2 hk W9.out D9.out L9.out fun k hk=>by have:=HF5.out k hk;have:=HSZ.out;omega⟩
end
end Go.Proofs.YtodcnkbblippnaaGreatDoor
namespace Go.Proofs.YtodcnkbblippnaaGreatDoor
end Go.Proofs.YtodcnkbblippnaaGreatDoor
namespace Go.Proofs.YtodcnkbblippnaaGreatDoor
open Go.RowKit
attribute [local go_sem ↓] Go.wp_at_zero Go.wp_at_succ
section
variable {w w':World} {H wb sb ab b t:Nat} {n:WN} {life win clock:Int} {ro:Bool} {L:Nat→List Pt} {A:Ar} {P:PD} {FT:Nat→Prop} {puts:List Pu} {ls:List (Value × Int)}
theorem LW.calls (h:LW w H wb n b life (KS sb ab b life win clock ro L A P) FT puts ls):Calls Tryz.prog 49 #[.pointer (some ⟨b,0,none⟩)] w fun e w'=>e=.returned (.int .i64 P.D.n.calls)∧w=w':=by
 obtain ⟨Ft,hd,-⟩:=SF.dk h.dsk
 exact A9O hd
theorem LW.refused (h:LW w H wb n b life (KS sb ab b life win clock ro L A P) FT puts ls):Calls Tryz.prog 50 #[.pointer (some ⟨b,0,none⟩)] w fun e w'=>e=.returned (.int .i64 P.D.n.refused)∧w=w':=by
 obtain ⟨Ft,hd,-⟩:=SF.dk h.dsk
 exact A7t hd
theorem LW.used (h:LW w H wb n b life (KS sb ab b life win clock ro L A P) FT puts ls) (hu:A0J P.F P.D.dir≤4611686018427387904):Calls Tryz.prog 90 #[.pointer (some ⟨b,0,none⟩)] w fun e w'=>e=.returned (.int .i64 (A0J P.F P.D.dir))∧Chg (fun _=>False) w w':=by
 obtain ⟨Ft,hd,-⟩:=SF.dk h.dsk
 exact B5M hd hu
theorem LW.marks (h:LW w H wb n b life (KS sb ab b life win clock ro L A P) FT puts ls):Calls Tryz.prog 48 #[.pointer (some ⟨wb,0,none⟩)] w fun e w'=>e=.returned (.agg #[.int .i64 P.D.n.refused,.int .i64 P.D.n.fulls])∧Chg (fun _=>False) w w':=by
 obtain ⟨Ft,hd,hl,-⟩:=SF.dk h.dsk
 exact A6j w h.blk h.hdv hd hl
end
end Go.Proofs.YtodcnkbblippnaaGreatDoor
namespace Go.Proofs.YtodcnkbblippnaaGreatDoor
open Go.RowKit
attribute [local go_sem ↓] Go.wp_at_zero Go.wp_at_succ
def A1t (kd a b c:Int) (tv:Value):Obj:=.cells #[.int .i64 kd,.int .i64 a,.int .i64 b,.int .i64 c,tv] 34
def B5Z (w:World) (x:Nat) (kd a b c:Int):Prop:=w.cell? ⟨x,0,none⟩=some (.int .i64 kd)∧w.cell? ⟨x,1,none⟩=some (.int .i64 a)∧w.cell? ⟨x,2,none⟩=some (.int .i64 b)∧w.cell? ⟨x,3,none⟩=some (.int .i64 c)
theorem A2o (w:World) (kd a b c:Int) (tv:Value):B5Z (w.alloc (A1t kd a b c tv)) w.heap.size kd a b c:=by
 have hbx:=heap_alloc_new w (.cells #[.int .i64 kd,.int .i64 a,.int .i64 b,.int .i64 c,tv] 34)
 unfold B5Z A1t
 refine ⟨?_,?_,?_,?_⟩ <;> (simp only [World.cell?,hbx];rfl)
theorem Tryz.infoPut4:(Tryz.prog.info? 141).map (fun i=>(i.zero,i.size,i.bytes))=some (some (.agg #[.int .i64 0,.int .i64 0,.int .i64 0]),3,24):=by kernel_rfl
end Go.Proofs.YtodcnkbblippnaaGreatDoor
namespace Go.Proofs.YtodcnkbblippnaaGreatDoor
open Go.RowKit
end Go.Proofs.YtodcnkbblippnaaGreatDoor
namespace Go.Proofs.YtodcnkbblippnaaGreatDoor
open Go.RowKit
attribute [local go_sem ↓] Go.wp_at_zero Go.wp_at_succ
end Go.Proofs.YtodcnkbblippnaaGreatDoor
