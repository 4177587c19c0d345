/-
  The statement WritesUptoCardSaid is proved: the law Writes answers true for every setting and every script of at most 1048576 bytes; there is no other condition.
  Part 30 of 33.
-/
import Derived.Test.YtodcnkbblippnaaGreatDoorPart29
import Derived.Test.YtodcnkbblippnaaGreatDoorPart24
namespace Go.Proofs.YtodcnkbblippnaaGreatDoor
open Go.RowKit
attribute [local go_sem ↓] Go.wp_at_zero Go.wp_at_succ
theorem Tryz.infoList:(Tryz.prog.info? 91).map (fun i=>(i.zero,i.size,i.bytes))=some (some (.agg #[.slice none 0 0,.int .i64 0]),2,32):=by kernel_rfl
section
variable {H wb b:Nat} {life:Int} {R:B3Z} {FT:Nat→Prop} {puts:List Pu}
def B5p (n0 n:WN):Prop:=n = { n0 with lv:=n.lv,count:=n.count }
structure B5I (w:World) (H wb:Nat) (n:WN) (FT:Nat→Prop) (v:Value) (l:List Pt):Prop where
 row:A2r w v l
 small:l.length<1099511627776
 free:∀ g,v.ownBlock=some g→H≤g∧¬ A4G wb n g∧¬ FT g
structure Tak (w0 w:World) (H wb:Nat) (n0 n:WN) (b:Nat) (life:Int) (R:B3Z) (FT:Nat→Prop) (puts:List Pu) (ls:List (Value × Int)) (xb:Nat) (a c:Int) (v:Value) (l:List Pt):Prop where
 law:LW w H wb n b life R FT puts ls
 mine:B5I w H wb n FT v l
 x0:w.cell? ⟨xb,0,none⟩=some (.int .i64 a)
 x1:w.cell? ⟨xb,1,none⟩=some (.int .i64 c)
 xn:∀ g,v.ownBlock=some g→g≠xb
 xw:¬ A4G wb n xb
 cnt:n.count=c
 clk:B5p n0 n
 chg:Chg (Up H) w0 w
theorem Tak.size {w0 w:World} {n0 n:WN} {ls:List (Value × Int)} {xb:Nat} {a c:Int} {v:Value} {l:List Pt} (h:Tak w0 w H wb n0 n b life R FT puts ls xb a c v l):xb<w.heap.size:=World.block_lt_of_cell? w _ h.x0
theorem Tak.chg0 {w0 w w':World} {n0 n:WN} {ls:List (Value × Int)} {xb:Nat} {a c:Int} {v:Value} {l:List Pt} (h:Tak w0 w H wb n0 n b life R FT puts ls xb a c v l) (hc:Chg (fun _=>False) w w'):Tak w0 w' H wb n0 n b life R FT puts ls xb a c v l:=
 ⟨h.law.chg0 hc,⟨A0a h.mine.row fun g hg=>hc.block g (A0c h.mine.row hg) (fun h=>h),h.mine.small,h.mine.free⟩,hc.cellKeep h.x0,hc.cellKeep h.x1,h.xn,h.xw,h.cnt,h.clk,h.chg.trans hc fun _ h _=>h.elim⟩
theorem Tak.lstApp {w0 w w':World} {n0 n:WN} {ls:List (Value × Int)} {xb:Nat} {a c:Int} {v v':Value} {l:List Pt} {p:Value × Int} (h:Tak w0 w H wb n0 n b life R FT puts ls xb a c v l) (hA:App w w' 91 2 n.lv v' (ls.length+1) (A3p ls ++ A3p [p])):
 w'.cell? ⟨wb,14,none⟩=some n.lv∧w'.frozen? ⟨wb,14,none⟩=false∧Tak w0 (w'.setCell ⟨wb,14,none⟩ v') H wb n0 { n with lv:=v' } b life R FT puts (ls ++ [p]) xb a c v l:=by
 obtain ⟨a1,a2,a3,a4,a5⟩:=h.law.lstApp hA
 have hx:=h.size
 have hne:∀ k,(k=wb∨n.lv.ownBlock=some k)→A4G wb n k:=fun k hk=>hk.elim .inl (fun e=>.inr (.inr e))
 refine ⟨a1,a2,a4,⟨?_,h.mine.small,fun g hg=>?_⟩,?_,?_,h.xn,?_,h.cnt,(show B5p n0 { n with lv:=v' } from (congrArg (fun m:WN=>({ m with lv:=v' }:WN)) (show n = { n0 with lv:=n.lv,count:=n.count } from h.clk):({ n with lv:=v' }:WN) = { n0 with lv:=v',count:=n.count })),?_⟩
 ·exact A0a h.mine.row fun g hg=>a3.block g (A0c h.mine.row hg) fun e=>(h.mine.free g hg).2.1 (hne g e)
 ·obtain ⟨f1,f2,f3⟩:=h.mine.free g hg
  refine ⟨f1,?_,f3⟩
  rintro (e | e | e)
  ·exact f2 (.inl e)
  ·exact f2 (.inr (.inl e))
  ·rcases a5 with q | q
   ·simp only at e;rw [q] at e;exact f2 (.inr (.inr e))
   ·simp only at e;rw [q] at e;cases e
    have:=A0c h.mine.row hg;omega
 ·exact A0E a3 h.x0 fun e=>h.xw (hne xb e)
 ·exact A0E a3 h.x1 fun e=>h.xw (hne xb e)
 ·rintro (e | e | e)
  ·exact h.xw (.inl e)
  ·exact h.xw (.inr (.inl e))
  ·rcases a5 with q | q
   ·simp only at e;rw [q] at e;exact h.xw (.inr (.inr e))
   ·simp only at e;rw [q] at e;cases e;omega
 ·exact h.chg.trans a3 fun x hx _=>h.law.upw x (hne x hx)
theorem Tak.mineApp {w0 w w':World} {n0 n:WN} {ls:List (Value × Int)} {xb:Nat} {a c:Int} {v v':Value} {l:List Pt} {p:Pt} (h:Tak w0 w H wb n0 n b life R FT puts ls xb a c v l) (hA:App w w' 70 2 v v' (l.length+1) (A0n l ++ A0n [p])) (hs:l.length+1<1099511627776):
 Tak w0 w' H wb n0 n b life R FT puts ls xb a c v' (l ++ [p]):=by
 have hc:=hA.chgOwn
 have hx:=h.size
 have hz:=h.law.size
 refine ⟨h.law.other hc (fun k hk e=>(h.mine.free k e).2.1 hk) (fun k hk e=>(h.mine.free k e).2.2 hk),⟨?_,by simpa using hs,fun g hg=>?_⟩,A0E hc h.x0 fun e=>h.xn xb e rfl,A0E hc h.x1 fun e=>h.xn xb e rfl,fun g hg=>?_,h.xw,h.cnt,h.clk,h.chg.trans hc fun x hx _=>(h.mine.free x hx).1⟩
 ·unfold A2r
  have:=hA.own
  rw [← A1Q] at this
  simpa using this
 ·rcases hA.at_ with e | e
  ·rw [e] at hg;exact h.mine.free g hg
  ·rw [e] at hg;cases hg
   exact ⟨hz,fun hx=>by have:=h.law.wlt hx;omega,fun hx=>by have:=h.law.lt _ hx;omega⟩
 ·rcases hA.at_ with e | e
  ·rw [e] at hg;exact h.xn g hg
  ·rw [e] at hg;cases hg;omega
set_option maxRecDepth 100000 in
set_option maxHeartbeats 8000000 in
theorem A7D {n:WN} {ls:List (Value × Int)} (w:World) (v:Value) (l:List Pt) (h:LW w H wb n b life R FT puts ls) (hm:B5I w H wb n FT v l) (hll:l.length<1099511627000) (hls:ls.length<1099511627000):
 Calls Tryz.prog 94 #[.pointer (some ⟨wb,0,none⟩),v] w fun e w'=>e=.returned (.tuple #[])∧Chg (Up H) w w'∧∃ n' ls',LW w' H wb n' b life R FT puts ls'∧ls'.length=ls.length+4∧B5p n n':=by
 obtain ⟨ad,cap,rfl,l1,l2,l3,-,-⟩:=A0g hm.row
 have c15:=h.blk.c15
 have z15:=h.blk.fz 15
 have hwl:=h.blk.lt
 have hln:=hm.small
 obtain ⟨cn,hcn⟩:∃ cn,IntKind.i64.wrap (n.count+1)=cn:=⟨_,rfl⟩
 have hq:=h.cell (n':={ n with count:=cn }) 15 (.int .i64 cn) (h.blk.s15 cn) rfl rfl rfl rfl
 obtain ⟨k1,h1⟩:=hq
 have H1:=A0b h1
 have K1:=A0b k1
 have HM:=A0b hm
 have HL3:=A0b l3
 have MW:Hid (∀ g,(Value.slice ad l.length cap).ownBlock=some g→g<w.heap.size∧g≠wb):=fun g hg=>⟨A0c hm.row hg,fun e=>(hm.free g hg).2.1 (.inl e)⟩
 have c15':(w.setCell ⟨wb,15,none⟩ (.int .i64 cn)).cell? ⟨wb,15,none⟩=some (.int .i64 cn):=h1.blk.c15
 clear h hm h1 k1 l3
 go_enter Tryz.func94,Tryz.ntmps94
 go_wp2
 generalize hw1:(w.setCell ⟨wb,15,none⟩ (.int .i64 cn))=w1 at H1 K1 c15' ⊢
 have hs1:w1.heap.size=w.heap.size:=by rw [← hw1];simp
 refine A0e (fun w'=>w'.cell? ⟨wb,15,none⟩=some (.int .i64 cn)) 11
  [(0,true),(1,true),(2,true),(3,true),(4,true),(5,true),(6,true),(7,true),(8,true),(9,true),(10,false)] (by kernel_rfl) (by kernel_rfl) (fun _ _ _ _ _ h=>h) c15' ?_
 iterate 10 (refine A0d (v:=?_) rfl (by rfl) ?_ ?_;rotate_left;(· (intro w' hS;(try dsimp only at hS);go_simp;try with_reducible rfl));(try simp only [Act.put,List.setIfInBounds_toArray,List.set_cons_zero,List.set_cons_succ,List.getElem_toArray,List.getElem_cons_zero,List.getElem_cons_succ]))
 refine A0i rfl (by rfl) (fun K hK=>?_)
 go_simp
 have k2:Chg (fun _=>False) w1 (w1.alloc (.cells #[.int .i64 0,.int .i64 0] 70)).drew:=((Chg.refl _ w1).alloc _).drew
 have hbx:(w1.alloc (.cells #[.int .i64 0,.int .i64 0] 70)).drew.heap[w.heap.size]?=some (.cells #[.int .i64 0,.int .i64 0] 70 (0,0)):=by rw [← hs1];exact heap_alloc_new w1 _
 refine hK _ _ (k2.cellKeep c15') (fun hS=>?_)
 clear hK K hS
 generalize (w1.alloc (.cells #[.int .i64 0,.int .i64 0] 70)).drew=w2 at k2 hbx ⊢
 obtain ⟨a,ha⟩:∃ a,IntKind.i64.wrap (-cn)=a:=⟨_,rfl⟩
 have x0:w2.cell? ⟨w.heap.size,0,none⟩=some (.int .i64 0):=by simp only [World.cell?,hbx];rfl
 have x1:w2.cell? ⟨w.heap.size,1,none⟩=some (.int .i64 0):=by simp only [World.cell?,hbx];rfl
 have f0:w2.frozen? ⟨w.heap.size,0,none⟩=false:=by simp [World.frozen?,hbx]
 have f1:w2.frozen? ⟨w.heap.size,1,none⟩=false:=by simp [World.frozen?,hbx]
 have T3:Hid (Tak w ((w2.setCell ⟨w.heap.size,0,none⟩ (.int .i64 a)).setCell ⟨w.heap.size,1,none⟩ (.int .i64 cn)) H wb n { n with count:=cn } b life R FT puts ls w.heap.size a cn (.slice ad l.length cap) l):=by
  have hb3:((w2.setCell ⟨w.heap.size,0,none⟩ (.int .i64 a)).setCell ⟨w.heap.size,1,none⟩ (.int .i64 cn)).heap[w.heap.size]?=some (.cells #[.int .i64 a,.int .i64 cn] 70 (0,0)):=A0h (A0h hbx)
  have hc3:=((Chg.refl (One w.heap.size) w2).setAt (b:=w.heap.size) rfl 0 (.int .i64 a)).setAt (b:=w.heap.size) rfl 1 (.int .i64 cn)
  have h2:=H1.out.chg0 k2
  have hf:∀ k,A4G wb n k→k≠w.heap.size:=fun k hk e=>by
   have:=H1.out.wlt (k:=k) hk;omega
  have hff:∀ k,FT k→k≠w.heap.size:=fun k hk e=>by
   have:=H1.out.lt _ hk;omega
  refine ⟨h2.other hc3 (fun k hk e=>hf k hk e) (fun k hk e=>hff k hk e),⟨?_,hln,HM.out.free⟩,by simp only [World.cell?,hb3];rfl,by simp only [World.cell?,hb3];rfl,fun g hg=>by have:=(MW.out g hg).1;omega,fun hx=>hf _ hx rfl,rfl,rfl,?_⟩
  ·have hk:Chg (fun x=>x=wb∨x=w.heap.size) w ((w2.setCell ⟨w.heap.size,0,none⟩ (.int .i64 a)).setCell ⟨w.heap.size,1,none⟩ (.int .i64 cn)):=by
    have q1:Chg (One wb) w w1:=by rw [← hw1];exact (Chg.refl (One wb) w).setAt rfl 15 _
    exact ((q1.mono (S':=fun x=>x=wb∨x=w.heap.size) fun _ _ e=>.inl e).trans k2 fun _ h _=>h.elim).trans hc3 fun x hx _=>.inr hx
   exact A0a HM.out.row fun g hg=>hk.block g (MW.out g hg).1 fun e=>by
    have:=MW.out g hg
    rcases e with e | e <;> omega
  ·have hz:=H1.out.size
   exact (K1.out.trans k2 fun _ h _=>h.elim).trans hc3 fun x hx _=>by cases hx;unfold Up;omega
 rw [ha]
 clear K1 H1 k2 hbx c15 c15' z15 hw1 HM hcn ha
 (try simp only [Act.put,List.setIfInBounds_toArray,List.set_cons_zero,List.set_cons_succ,List.getElem_toArray,List.getElem_cons_zero,List.getElem_cons_succ])
 refine A0k ?_
 simp only [List.drop_succ_cons,List.drop_zero]
 go_wp2
 clear x0 x1 f0 f1
 generalize ((w2.setCell ⟨w.heap.size,0,none⟩ (.int .i64 a)).setCell ⟨w.heap.size,1,none⟩ (.int .i64 cn))=w3 at T3 ⊢
 go_loopw [5] (fun iv wr=>∃ k:Nat,k≤l.length∧iv=.int .i64 k∧Hid (∃ l',l'.length=l.length∧Tak w wr H wb n { n with count:=cn } b life R FT puts ls w.heap.size a cn (.slice ad l.length cap) l')) (fun iv _=>l.length - (intOf iv).toNat)
 case atStart=>exact ⟨0,Nat.zero_le _,rfl,l,rfl,T3.out⟩
 case round=>
  obtain ⟨k,hk,rfl,hT⟩:=hrel
  obtain ⟨w0,hw0⟩:∃ w0,w0=wr:=⟨_,rfl⟩
  subst hw0
  have k0:(0:Int)≤(k:Int):=Int.natCast_nonneg _
  by_cases hlk:k<l.length
  ·have i1:(k:Int)<(l.length:Int):=by omega
   have i2:(l.length:Int)<1099511627776:=by omega
   obtain ⟨l',hl',hT'⟩:=hT.out
   obtain ⟨g,rfl⟩:=HL3.out (by omega)
   have hlk':k<l'.length:=by omega
   have hrow:A2r w0 (.slice (some ⟨g,0,none⟩) l.length cap) l':=hT'.mine.row
   obtain ⟨o0,o1⟩:=hrow.cells k hlk'
   have z0:=A0t hrow (g:=g) rfl (k*2)
   have z1:=A0t hrow (g:=g) rfl (k*2+1)
   have x0:=hT'.x0
   have x1:=hT'.x1
   have NXT:Hid (∃ l2,l2.length=l.length∧Tak w ((w0.setCell ⟨g,k*2,none⟩ (.int .i64 a)).setCell ⟨g,k*2+1,none⟩ (.int .i64 cn)) H wb n { n with count:=cn } b life R FT puts ls w.heap.size a cn (.slice (some ⟨g,0,none⟩) l.length cap) l2):=by
    have hrow':=hrow
    unfold A2r at hrow'
    rw [hl'] at hrow'
    have s1:=(hrow'.stored (k*2) (.int .i64 a)).1
    have s2:=(s1.stored (k*2+1) (.int .i64 cn)).1
    have e:=A2R l' k (a,cn) hlk'
    simp only at e
    rw [e] at s2
    obtain ⟨f1,f2,f3⟩:=hT'.mine.free g rfl
    have hc:=((Chg.refl (One g) w0).setAt (b:=g) rfl (k*2) (.int .i64 a)).setAt (b:=g) rfl (k*2+1) (.int .i64 cn)
    have hgx:=hT'.xn g rfl
    have hx:∀ o u,w0.cell? ⟨w.heap.size,o,none⟩=some u→((w0.setCell ⟨g,k*2,none⟩ (.int .i64 a)).setCell ⟨g,k*2+1,none⟩ (.int .i64 cn)).cell? ⟨w.heap.size,o,none⟩=some u:=fun o u hu=>A0E hc hu fun e=>hgx e.symm
    refine ⟨l'.set k (a,cn),by rw [List.length_set];exact hl',hT'.law.other hc (fun k hk e=>f2 (by cases e;exact hk)) (fun k hk e=>f3 (by cases e;exact hk)),⟨?_,by rw [List.length_set];exact hT'.mine.small,hT'.mine.free⟩,hx _ _ x0,hx _ _ x1,hT'.xn,hT'.xw,rfl,rfl,hT'.chg.trans hc fun x hx _=>by cases hx;exact f1⟩
    unfold A2r
    rw [List.length_set,hl'];exact s2
   obtain ⟨u0,hu0⟩:∃ u0,(l'[k]'hlk').1=u0:=⟨_,rfl⟩
   obtain ⟨u1,hu1⟩:∃ u1,(l'[k]'hlk').2=u1:=⟨_,rfl⟩
   rw [hu0] at o0
   rw [hu1] at o1
   clear hT hrow hT' T3 hl' hu0 hu1 hlk'
   go_wp2
   go_roundw
   case rel=>exact ⟨k+1,by omega,by go_num,NXT.out⟩
   case measure=>simp [intOf];omega
  ·obtain rfl:k=l.length:=by omega
   clear T3
   go_wp2
   clear HL3 MW
   obtain ⟨l0,hl0,hT0⟩:=hT.out
   have HT0:=A0b hT0
   obtain ⟨i0,hi,hz0,hz1,hz2⟩:=info_parts Tryz.infoList
   obtain ⟨j0,hj,hy0,hy1,hy2⟩:=info_parts Tryz.infoPt2
   clear hT hT0
   go_loopw [1,6] (fun vv iv wr=>∃ k:Nat,k≤4∧iv=.int .i64 k∧Hid (∃ l' n' ls',l'.length≤l.length+k∧ls'.length=ls.length+k∧Tak w wr H wb n n' b life R FT puts ls' w.heap.size a cn vv l')) (fun _ iv _=>4 - (intOf iv).toNat)
   case atStart=>exact ⟨0,by omega,rfl,l0,_,ls,by omega,rfl,HT0.out⟩
   case round=>
    obtain ⟨k,hk,rfl,hT⟩:=hrel
    obtain ⟨w4,hw4⟩:∃ w4,w4=wr:=⟨_,rfl⟩
    subst hw4
    have k0:(0:Int)≤(k:Int):=Int.natCast_nonneg _
    by_cases hlk:k<4
    ·have i1:(k:Int)<4:=by omega
     obtain ⟨l',n',ls',hl',hls',hT'⟩:=hT.out
     have c14:=hT'.law.blk.c14
     have c15:=hT'.law.blk.c15
     rw [hT'.cnt] at c15
     have x0:=hT'.x0
     have x1:=hT'.x1
     obtain ⟨aa,cc,rfl,-⟩:=A0g hT'.mine.row
     have HT':=A0b hT'
     have HLL:=A0b hl'
     have HLS:=A0b hls'
     have bl:l'.length+1<1099511627776:=by omega
     have bls:ls'.length+1<1099511627776:=by omega
     clear hT hT' HT0 hl' hls'
     go_wp2
     refine A0e (fun w'=>w'.cell? ⟨wb,14,none⟩=some n'.lv∧w'.cell? ⟨wb,15,none⟩=some (.int .i64 cn)) 13
      [(0,true),(1,true),(2,true),(3,true),(4,true),(5,true),(6,true),(7,true),(8,true),(9,true),(10,true),(11,false),(12,false)] (by kernel_rfl) (by kernel_rfl) (fun _ _ _ _ _ h=>h) ⟨c14,c15⟩ ?_
     iterate 11 (refine A0d (v:=?_) rfl (by rfl) ?_ ?_;rotate_left;(· (intro w' hS;(try dsimp only at hS);go_simp;try with_reducible rfl));(try simp only [Act.put,List.setIfInBounds_toArray,List.set_cons_zero,List.set_cons_succ,List.getElem_toArray,List.getElem_cons_zero,List.getElem_cons_succ]))
     refine A0i rfl (by rfl) (fun K hK=>?_)
     go_simp
     have k5:Chg (fun _=>False) w4 (w4.alloc (.cells #[.slice aa l'.length cc,.int .i64 cn] 91)).drew:=((Chg.refl _ w4).alloc _).drew
     refine hK _ _ ⟨k5.cellKeep c14,k5.cellKeep c15⟩ (fun hS=>?_)
     clear hK K hS
     have HT5:=A0b (HT'.out.chg0 k5)
     have SR:Hid (Src Tryz.prog 2 38 (.slice (some ⟨w4.heap.size,0,none⟩) 1 1) 1 (A3p [(.slice aa l'.length cc,cn)]) (w4.alloc (.cells #[.slice aa l'.length cc,.int .i64 cn] 91)).drew):=
      Src.ofBlock (w:=(w4.alloc (.cells #[.slice aa l'.length cc,.int .i64 cn] 91)).drew) (cs:=#[.slice aa l'.length cc,.int .i64 cn]) Tryz.underlying38 (heap_alloc_new w4 _) 1 1 rfl (by
       intro u hu;simp at hu;rcases hu with rfl | rfl <;> rfl)
     clear k5 HT'
     generalize (w4.alloc (.cells #[.slice aa l'.length cc,.int .i64 cn] 91)).drew=w5 at HT5 SR ⊢
     (try simp only [Act.put,List.setIfInBounds_toArray,List.set_cons_zero,List.set_cons_succ,List.getElem_toArray,List.getElem_cons_zero,List.getElem_cons_succ])
     refine A0i rfl (by rfl) (fun K hK=>?_)
     refine A3q (.tmp 43) (.tmp 50) 38 38 rfl 91 i0 _ 2 32 Tryz.underlying38 hi hz0 hz1 hz2 rfl (by decide) n'.lv ls'.length (A3p ls') (by rfl) HT5.out.law.lst _ 1 _ (by rfl) SR.out (by omega) ?_
     intro b6 cap6 w6 hA
     obtain ⟨y14,z14,hT6⟩:=HT5.out.lstApp hA
     have y15:w6.cell? ⟨wb,15,none⟩=some (.int .i64 cn):=A0E hA.chgOwn (by rw [HT5.out.law.blk.c15,HT5.out.cnt]) HT5.out.law.wne_l
     refine hK _ _ ⟨y14,y15⟩ (fun hS=>?_)
     have x0':=hT6.x0
     have x1':=hT6.x1
     have x0w:w6.cell? ⟨w.heap.size,0,none⟩=some (.int .i64 a):=(World.cell?_setCell_other _ _ _ _ (by simp;try omega)).symm.trans x0'
     have x1w:w6.cell? ⟨w.heap.size,1,none⟩=some (.int .i64 cn):=(World.cell?_setCell_other _ _ _ _ (by simp;try omega)).symm.trans x1'
     have HT6:=A0b hT6
     clear hK K hS hA SR HT5 hT6 c14 c15 x0 x1 y15
     (try simp only [Act.put,List.setIfInBounds_toArray,List.set_cons_zero,List.set_cons_succ,List.getElem_toArray,List.getElem_cons_zero,List.getElem_cons_succ])
     refine A0k ?_
     simp only [List.drop_succ_cons,List.drop_zero]
     have HT7:=A0b (HT6.out.chg0 ((Chg.refl (fun _=>False) (w6.setCell ⟨wb,14,none⟩ (.slice b6 (ls'.length+1) cap6))).alloc (.cells #[.int .i64 a,.int .i64 cn] 70)))
     have SR2:Hid (Src Tryz.prog 2 66 (.slice (some ⟨w6.heap.size,0,none⟩) 1 1) 1 (A0n [(a,cn)]) ((w6.setCell ⟨wb,14,none⟩ (.slice b6 (ls'.length+1) cap6)).alloc (.cells #[.int .i64 a,.int .i64 cn] 70))):=
      Src.ofNew (B:=w6.heap.size) Tryz.underlying66 (w6.setCell ⟨wb,14,none⟩ (.slice b6 (ls'.length+1) cap6)) #[.int .i64 a,.int .i64 cn] 70 (by simp) 1 1 rfl (A1E [(a,cn)])
     go_wp2_with (at_builtin;refine A0o rfl (.tmp 54) (.tmp 56) 66 66 rfl 70 j0 _ 2 16 Tryz.underlying66 hj hy0 hy1 hy2 rfl (by decide) (.slice aa l'.length cc) l'.length (A0n l') (by rfl) HT7.out.mine.row _ 1 _ (by rfl) SR2.out (by omega) ?_;intro b8 cap8 w8 hA;have HT8:=A0b (HT7.out.mineApp hA (by omega));clear hA)
     go_roundw
     case rel=>exact ⟨k+1,by omega,by go_num,l' ++ [(a,cn)],_,_,by have:=HLL.out;simp;omega,by have:=HLS.out;simp;omega,HT8.out⟩
     case measure=>simp [intOf];omega
    ·obtain rfl:k=4:=by omega
     clear HT0
     go_wp2
     go_end0
     obtain ⟨l',n',ls',hl',hls',hT'⟩:=hT.out
     exact ⟨rfl,hT'.chg,n',ls',hT'.law,hls',hT'.clk⟩
end
end Go.Proofs.YtodcnkbblippnaaGreatDoor
namespace Go.Proofs.YtodcnkbblippnaaGreatDoor
open Go.RowKit
attribute [local go_sem ↓] Go.wp_at_zero Go.wp_at_succ
section
variable {w w':World} {H wb sb ab b:Nat} {n:WN} {life win clock:Int} {ro:Bool} {L:Nat→List Pt} {A:Ar} {P:PD} {FT:Nat→Prop} {puts:List Pu} {ls:List (Value × Int)}
theorem LW.store_at (h:LW w H wb n b life (KS sb ab b life win clock ro L A P) FT puts ls):∃ lv,A1w w sb 0 (.pointer (some ⟨ab,0,none⟩)) life win clock ro lv∧A1q w lv L:=by
 obtain ⟨lv,F0,hs,-⟩:=h.dsk
 exact ⟨lv,hs.blk,hs.rows⟩
set_option maxRecDepth 100000 in
set_option maxHeartbeats 8000000 in
theorem B0D (w:World) (a b3 c3:Int) (tv:Value) (h:LW w H wb n b life (KS sb ab b life win clock ro L A P) FT puts ls) (hsv:n.sv=.pointer (some ⟨sb,0,none⟩)) (hck:n.clock=clock) (hbr:n.broken=ro):
 Calls Tryz.prog 55 #[.pointer (some ⟨wb,0,none⟩),.agg #[.int .i64 5,.int .i64 a,.int .i64 b3,.int .i64 c3,tv]] w fun e w'=>e=.returned (.bool true)∧Chg (fun _=>False) w w':=by
 have hA:=(Chg.refl (fun _=>False) w).alloc (A1t 5 a b3 c3 tv)
 obtain ⟨o0,-,-,-⟩:=A2o w 5 a b3 c3 tv
 have h1:=h.chg0 hA
 generalize hw1:w.alloc (A1t 5 a b3 c3 tv)=w1 at hA o0 h1
 unfold A1t at hw1
 have c4:=h1.blk.c4
 rw [h1.hdv] at c4
 have c5:=h1.blk.c5
 rw [hsv] at c5
 have CA2:Hid (∀ w',Chg (fun _=>False) w1 w'→Calls Tryz.prog 49 #[.pointer (some ⟨b,0,none⟩)] w' fun e w2=>e=.returned (.int .i64 P.D.n.calls)∧w'=w2):=fun w' k=>(h1.chg0 k).calls
 obtain ⟨lv,hsb,-⟩:=h1.store_at
 have ST:=A0b (A8i w1 hsb)
 obtain ⟨cn,hcn⟩:∃ cn,P.D.n.calls=cn:=⟨_,rfl⟩
 rw [hcn] at CA2
 have CA:=A0b (CA2.out w1 (Chg.refl _ _))
 have HA:=A0b hA
 have H1:=A0b h1
 clear h hA h1 hcn hsb
 go_enter Tryz.func55,Tryz.ntmps55
 go_wp2_with (first
  | (go_at_call 49;refine CA.out.mono ?_;rintro e w2 ⟨rfl,rfl⟩)
  | (go_at_call 38;refine ST.out.mono ?_;rintro e w2 ⟨rfl,hc2⟩;have HC2:=A0b hc2;clear hc2))
 have hA2:Chg (fun _=>False) w1 (w2.alloc (.cells #[.bool ro,.int .i64 clock] 74)):=HC2.out.alloc _
 have hbx:=heap_alloc_new w2 (.cells #[.bool ro,.int .i64 clock] 74)
 have d0:(w2.alloc (.cells #[.bool ro,.int .i64 clock] 74)).cell? ⟨w2.heap.size,0,none⟩=some (.bool ro):=by simp only [World.cell?,hbx];rfl
 have d1:(w2.alloc (.cells #[.bool ro,.int .i64 clock] 74)).cell? ⟨w2.heap.size,1,none⟩=some (.int .i64 clock):=by simp only [World.cell?,hbx];rfl
 clear hbx
 generalize (w2.alloc (.cells #[.bool ro,.int .i64 clock] 74))=w3 at hA2 d0 d1 ⊢
 have b9:=(H1.out.chg0 hA2).blk.c9
 rw [hbr] at b9
 have b10:=(H1.out.chg0 hA2).blk.c10
 rw [hck] at b10
 have e4:=hA2.cellKeep c4
 have HC3:=A0b hA2
 clear hA2 HC2 ST CA
 refine A0e (fun w'=>w'.cell? ⟨w2.heap.size,0,none⟩=some (.bool ro)∧w'.cell? ⟨w2.heap.size,1,none⟩=some (.int .i64 clock)∧w'.cell? ⟨wb,9,none⟩=some (.bool ro)∧w'.cell? ⟨wb,10,none⟩=some (.int .i64 clock)) 16
  [(0,true),(1,true),(2,true),(3,true),(4,true),(5,true),(6,true),(7,true),(8,true),(9,true),(10,true),(11,true),(12,true),(13,true),(14,true),(15,true)] (by kernel_rfl) (by kernel_rfl) (fun _ _ _ _ _ h=>h) ⟨d0,d1,b9,b10⟩ ?_
 iterate 16 (refine A0d (v:=?_) rfl (by rfl) ?_ ?_;rotate_left;(· (intro w' hS;(try dsimp only at hS);go_simp;try with_reducible rfl));(try simp only [Act.put,List.setIfInBounds_toArray,List.set_cons_zero,List.set_cons_succ,List.getElem_toArray,List.getElem_cons_zero,List.getElem_cons_succ]))
 refine A0k ?_
 simp only [List.drop_succ_cons,List.drop_zero]
 have CA3:=A0b (CA2.out w3.drew HC3.out.drew)
 clear CA2
 go_wp2_with (go_at_call 49;refine CA3.out.mono ?_;rintro e w4 ⟨rfl,rfl⟩)
 go_ret
 exact ⟨rfl,HA.out.trans HC3.out.drew fun _ h _=>h⟩
set_option maxRecDepth 100000 in
set_option maxHeartbeats 8000000 in
theorem B4G {k:Nat} (w:World) (a b3:Int) (tv:Value) (h:LW w H wb n b life (KS sb ab b life win clock ro L A P) FT puts ls) (hsv:n.sv=.pointer (some ⟨sb,0,none⟩)) (hck:n.clock=clock) (hR:Rel L puts life clock) (hk:k<8) (hp:∀ p∈puts,A0P p.2.1) (hpl:puts.length<1099511627000) (hls:ls.length<1099511627000)
 (hl:1≤life∧life≤4611686018427387904) (hc:A0P clock):
 Calls Tryz.prog 55 #[.pointer (some ⟨wb,0,none⟩),.agg #[.int .i64 3,.int .i64 k,.int .i64 a,.int .i64 b3,tv]] w fun e w'=>e=.returned (.bool true)∧Chg (Up H) w w'∧∃ n' ls',LW w' H wb n' b life (KS sb ab b life win clock ro L A P) FT puts ls'∧ls'.length=ls.length+4∧B5p n n':=by
 have hA:=(Chg.refl (fun _=>False) w).alloc (A1t 3 k a b3 tv)
 obtain ⟨o0,o1,o2,o3⟩:=A2o w 3 k a b3 tv
 have h1:=h.chg0 hA
 generalize hw1:w.alloc (A1t 3 k a b3 tv)=w1 at hA o0 o1 o2 o3 h1
 unfold A1t at hw1
 have c4:=h1.blk.c4
 rw [h1.hdv] at c4
 have c5:=h1.blk.c5
 rw [hsv] at c5
 have CA:=A0b (h1.calls)
 obtain ⟨cn,hcn⟩:∃ cn,P.D.n.calls=cn:=⟨_,rfl⟩
 rw [hcn] at CA
 have HCN:=A0b hcn
 have HA:=A0b hA
 have h1d:=h1.chg0 (Chg.refl (fun _=>False) w1).drew
 obtain ⟨lv,hsb,hrw⟩:=h1d.store_at
 have QU:=A0b (A5v w1.drew k a b3 hsb hrw hk hl hc)
 have eq1:=hR.query hp hk a b3
 rw [eq1] at QU
 have hql:=A9G puts k a b3 life clock
 have RQ:Hid (∀ w',Chg (fun _=>False) w1 w'→_):=fun w' k'=>A8G w' n.pv puts puts.length (h1.chg0 k').pts (Nat.le_refl _) (by omega) hp k a b3 life clock hl hc
 rw [List.take_length] at RQ
 obtain ⟨Q,hQ⟩:∃ Q,A4r puts k a b3 life clock=Q:=⟨_,rfl⟩
 rw [hQ] at QU RQ hql
 have SE:Hid (∀ w',Calls Tryz.prog 91 #[.int .i64 k] w' fun e w2=>e=.returned (.bool true)∧w'=w2):=fun w'=>by
  have:=A2u k w'
  have e:A4d (k:Int)=true:=by unfold A4d;simp;omega
  rwa [e] at this
 have HW1:=A0b h1
 obtain ⟨ap,cp,hpf,-⟩:=h1.pts.form
 clear h hA h1 h1d hR hp eq1 hQ hcn hsb hrw
 go_enter Tryz.func55,Tryz.ntmps55
 go_wp2_with (go_at_call 49;refine CA.out.mono ?_;rintro e w2 ⟨rfl,rfl⟩)
 refine A0e (fun w'=>w'.cell? ⟨wb,5,none⟩=some (.pointer (some ⟨sb,0,none⟩))∧w'.cell? ⟨w.heap.size,1,none⟩=some (.int .i64 k)∧w'.cell? ⟨w.heap.size,2,none⟩=some (.int .i64 a)∧w'.cell? ⟨w.heap.size,3,none⟩=some (.int .i64 b3)) 15
  [(0,true),(1,true),(2,true),(3,true),(4,true),(5,true),(6,true),(7,true),(8,true),(9,true),(10,false),(11,true),(12,true),(13,true),(14,true)] (by kernel_rfl) (by kernel_rfl) (fun _ _ _ _ _ h=>h) ⟨c5,o1,o2,o3⟩ ?_
 iterate 10 (refine A0d (v:=?_) rfl (by rfl) ?_ ?_;rotate_left;(· (intro w' hS;(try dsimp only at hS);go_simp;try with_reducible rfl));(try simp only [Act.put,List.setIfInBounds_toArray,List.set_cons_zero,List.set_cons_succ,List.getElem_toArray,List.getElem_cons_zero,List.getElem_cons_succ]))
 refine A0i rfl (by rfl) (fun K hK=>?_)
 go_simp
 refine QU.out.mono ?_
 rintro e w2 ⟨v,rfl,hv,hc2,hfr⟩
 have k2:Chg (fun _=>False) w1 w2:=⟨hc2.os,hc2.tape,hc2.output,hc2.size,hc2.block⟩
 have p1:=k2.cellKeep o1
 have p2:=k2.cellKeep o2
 have p3:=k2.cellKeep o3
 refine hK _ _ ⟨k2.cellKeep c5,p1,p2,p3⟩ (fun hS=>?_)
 have K2:=A0b k2
 have HV:=A0b hv
 have HF:Hid (∀ g,v.ownBlock=some g→w1.heap.size≤g):=hfr
 have W2:=A0b (HW1.out.chg0 k2)
 clear hK K hS QU hv hc2 hfr k2 c5 c4 o0 o1 o2 o3 hw1 CA
 (try simp only [Act.put,List.setIfInBounds_toArray,List.set_cons_zero,List.set_cons_succ,List.getElem_toArray,List.getElem_cons_zero,List.getElem_cons_succ])
 iterate 4 (refine A0d (v:=?_) rfl (by rfl) ?_ ?_;rotate_left;(· (intro w' hS;(try dsimp only at hS);go_simp;try with_reducible rfl));(try simp only [Act.put,List.setIfInBounds_toArray,List.set_cons_zero,List.set_cons_succ,List.getElem_toArray,List.getElem_cons_zero,List.getElem_cons_succ]))
 refine A0k ?_
 simp only [List.drop_succ_cons,List.drop_zero]
 go_wp2_with (go_at_call 91;refine (SE.out _).mono ?_;rintro e w6 ⟨rfl,rfl⟩)
 have c6:=W2.out.blk.c6
 rw [hpf] at c6
 have c0:=W2.out.blk.c0
 rw [W2.out.hlf] at c0
 have c10:=W2.out.blk.c10
 rw [hck] at c10
 have RK:=A0b (RQ.out w2.drew K2.out.drew)
 rw [hpf] at RK
 clear RQ SE
 refine A0e (fun w'=>w'.cell? ⟨wb,6,none⟩=some (.slice ap puts.length cp)∧w'.cell? ⟨wb,0,none⟩=some (.int .i64 life)∧w'.cell? ⟨wb,10,none⟩=some (.int .i64 clock)∧w'.cell? ⟨w.heap.size,1,none⟩=some (.int .i64 k)∧w'.cell? ⟨w.heap.size,2,none⟩=some (.int .i64 a)∧w'.cell? ⟨w.heap.size,3,none⟩=some (.int .i64 b3)) 25
  [(0,true),(1,true),(2,true),(3,true),(4,true),(5,true),(6,true),(7,true),(8,true),(9,true),(10,true),(11,true),(12,true),(13,true),(14,true),(15,true),(16,true),(17,true),(18,true),(19,true),(20,true),(21,true),(22,true),(23,true),(24,false)] (by kernel_rfl) (by kernel_rfl) (fun _ _ _ _ _ h=>h) ⟨c6,c0,c10,p1,p2,p3⟩ ?_
 iterate 24 (refine A0d (v:=?_) rfl (by rfl) ?_ ?_;rotate_left;(· (intro w' hS;(try dsimp only at hS);go_simp;try with_reducible rfl));(try simp only [Act.put,List.setIfInBounds_toArray,List.set_cons_zero,List.set_cons_succ,List.getElem_toArray,List.getElem_cons_zero,List.getElem_cons_succ]))
 refine A0i rfl (by rfl) (fun K hK=>?_)
 go_simp
 refine RK.out.mono ?_
 rintro e w3 ⟨v2,rfl,hv2,hc3,hfr3⟩
 have k3:Chg (fun _=>False) w2 w3:=⟨hc3.os,hc3.tape,hc3.output,hc3.size,hc3.block⟩
 refine hK _ _ ⟨k3.cellKeep c6,k3.cellKeep c0,k3.cellKeep c10,k3.cellKeep p1,k3.cellKeep p2,k3.cellKeep p3⟩ (fun hS=>?_)
 have K3:Hid (Chg (fun _=>False) w1 w3):=K2.out.trans k3 fun _ h _=>h
 have HV3:Hid (A2r w3 v Q):=A0a HV.out fun g hg=>k3.block g (A0c HV.out hg) (fun h=>h)
 have SM:Hid (Calls Tryz.prog 93 #[v,v2] w3 fun e w'=>e=.returned (.bool true)∧Chg (fun _=>False) w3 w'):=by
  have:=A9U w3 v v2 Q Q HV3.out hv2 (by omega) (by omega)
  rwa [decide_eq_true rfl] at this
 clear hK K hS RK hv2 hc3 hfr3 k3 c6 c0 c10 p1 p2 p3 K2 HV W2
 (try simp only [Act.put,List.setIfInBounds_toArray,List.set_cons_zero,List.set_cons_succ,List.getElem_toArray,List.getElem_cons_zero,List.getElem_cons_succ])
 refine A0k ?_
 simp only [List.drop_succ_cons,List.drop_zero]
 go_wp2_with (go_at_call 93;refine SM.out.mono ?_;rintro e w4 ⟨rfl,k4⟩;have K4:Hid (Chg (fun _=>False) w1 w4):=K3.out.trans k4 (fun _ h _=>h);have HV4:Hid (A2r w4 v Q):=A0a HV3.out (fun g hg=>k4.block g (A0c HV3.out hg) (fun h=>h));clear k4)
 have W4:=A0b (HW1.out.chg0 K4.out)
 have MI:Hid (B5I w4 H wb n FT v Q):=⟨HV4.out,by omega,fun g hg=>by
  have hg1:=HF.out g hg
  exact ⟨Nat.le_trans HW1.out.size hg1,fun hx=>by have:=HW1.out.wlt hx;omega,fun hx=>by have:=HW1.out.lt _ hx;omega⟩⟩
 have TK:=A0b (A7D w4 v Q W4.out MI.out (by omega) hls)
 clear K3 HV3 HV4 SM MI HF
 refine TK.out.mono ?_
 rintro e w5 ⟨rfl,k5,n',ls',hW,hl5,hck5⟩
 have CA5:=A0b (hW.calls)
 rw [HCN.out] at CA5
 have d4:=hW.blk.c4
 rw [hW.hdv] at d4
 have K5:Hid (Chg (Up H) w w5):=((HA.out.trans K4.out fun _ h _=>h).mono (S':=Up H) fun _ _ h=>h.elim).trans k5 fun _ h _=>h
 have HW:=A0b hW
 clear TK k5 hW W4 K4 HCN HW1 HA
 go_wp2_with (go_at_call 49;refine CA5.out.mono ?_;rintro e w6 ⟨rfl,rfl⟩)
 go_ret
 exact ⟨rfl,K5.out,n',ls',HW.out,hl5,hck5⟩
set_option maxRecDepth 100000 in
set_option maxHeartbeats 8000000 in
theorem B3r (w:World) (k a b3:Int) (tv:Value) (h:LW w H wb n b life (KS sb ab b life win clock ro L A P) FT puts ls) (hsv:n.sv=.pointer (some ⟨sb,0,none⟩)) (hk:¬ (0≤k∧k<8)) (hls:ls.length<1099511627000):
 Calls Tryz.prog 55 #[.pointer (some ⟨wb,0,none⟩),.agg #[.int .i64 3,.int .i64 k,.int .i64 a,.int .i64 b3,tv]] w fun e w'=>e=.returned (.bool true)∧Chg (Up H) w w'∧∃ n' ls',LW w' H wb n' b life (KS sb ab b life win clock ro L A P) FT puts ls'∧ls'.length=ls.length+4∧B5p n n':=by
 have hA:=(Chg.refl (fun _=>False) w).alloc (A1t 3 k a b3 tv)
 obtain ⟨o0,o1,o2,o3⟩:=A2o w 3 k a b3 tv
 have h1:=h.chg0 hA
 generalize hw1:w.alloc (A1t 3 k a b3 tv)=w1 at hA o0 o1 o2 o3 h1
 unfold A1t at hw1
 have c4:=h1.blk.c4
 rw [h1.hdv] at c4
 have c5:=h1.blk.c5
 rw [hsv] at c5
 have CA:=A0b (h1.calls)
 obtain ⟨cn,hcn⟩:∃ cn,P.D.n.calls=cn:=⟨_,rfl⟩
 rw [hcn] at CA
 have HCN:=A0b hcn
 have HA:=A0b hA
 have h1d:=h1.chg0 (Chg.refl (fun _=>False) w1).drew
 obtain ⟨lv,hsb,-⟩:=h1d.store_at
 have QU:=A0b (B2w w1.drew k a b3 hsb hk)
 have SE:Hid (∀ w',Calls Tryz.prog 91 #[.int .i64 k] w' fun e w2=>e=.returned (.bool false)∧w'=w2):=fun w'=>by
  have:=A2u k w'
  have e:A4d k=false:=by unfold A4d;simp;omega
  rwa [e] at this
 have HW1:=A0b h1
 clear h hA h1 h1d hcn hsb
 go_enter Tryz.func55,Tryz.ntmps55
 go_wp2_with (go_at_call 49;refine CA.out.mono ?_;rintro e w2 ⟨rfl,rfl⟩)
 refine A0e (fun w'=>w'.cell? ⟨wb,5,none⟩=some (.pointer (some ⟨sb,0,none⟩))∧w'.cell? ⟨w.heap.size,1,none⟩=some (.int .i64 k)∧w'.cell? ⟨w.heap.size,2,none⟩=some (.int .i64 a)∧w'.cell? ⟨w.heap.size,3,none⟩=some (.int .i64 b3)) 15
  [(0,true),(1,true),(2,true),(3,true),(4,true),(5,true),(6,true),(7,true),(8,true),(9,true),(10,false),(11,true),(12,true),(13,true),(14,true)] (by kernel_rfl) (by kernel_rfl) (fun _ _ _ _ _ h=>h) ⟨c5,o1,o2,o3⟩ ?_
 iterate 10 (refine A0d (v:=?_) rfl (by rfl) ?_ ?_;rotate_left;(· (intro w' hS;(try dsimp only at hS);go_simp;try with_reducible rfl));(try simp only [Act.put,List.setIfInBounds_toArray,List.set_cons_zero,List.set_cons_succ,List.getElem_toArray,List.getElem_cons_zero,List.getElem_cons_succ]))
 refine A0i rfl (by rfl) (fun K hK=>?_)
 go_simp
 refine QU.out.mono ?_
 rintro e w2 ⟨rfl,hc2⟩
 have k2:Chg (fun _=>False) w1 w2:=⟨hc2.os,hc2.tape,hc2.output,hc2.size,hc2.block⟩
 have p1:=k2.cellKeep o1
 refine hK _ _ ⟨k2.cellKeep c5,p1,k2.cellKeep o2,k2.cellKeep o3⟩ (fun hS=>?_)
 have K2:=A0b k2
 clear hK K hS QU hc2 k2 c5 c4 o0 o1 o2 o3 hw1 CA
 (try simp only [Act.put,List.setIfInBounds_toArray,List.set_cons_zero,List.set_cons_succ,List.getElem_toArray,List.getElem_cons_zero,List.getElem_cons_succ])
 iterate 4 (refine A0d (v:=?_) rfl (by rfl) ?_ ?_;rotate_left;(· (intro w' hS;(try dsimp only at hS);go_simp;try with_reducible rfl));(try simp only [Act.put,List.setIfInBounds_toArray,List.set_cons_zero,List.set_cons_succ,List.getElem_toArray,List.getElem_cons_zero,List.getElem_cons_succ]))
 refine A0k ?_
 simp only [List.drop_succ_cons,List.drop_zero]
 have W4:=A0b (HW1.out.chg0 K2.out)
 have MI:Hid (B5I w2 H wb n FT (.slice none 0 0) []):=⟨World.ownsRow_nil _ _ _ _,by decide,fun g hg=>by simp [Value.ownBlock] at hg⟩
 have TK:=A0b (A7D w2 (.slice none 0 0) [] W4.out MI.out (by decide) hls)
 go_wp2_with (first
  | (go_at_call 91;refine (SE.out _).mono ?_;rintro e w6 ⟨rfl,rfl⟩))
 clear MI SE
 refine TK.out.mono ?_
 rintro e w5 ⟨rfl,k5,n',ls',hW,hl5,hck5⟩
 have CA5:=A0b (hW.calls)
 rw [HCN.out] at CA5
 have d4:=hW.blk.c4
 rw [hW.hdv] at d4
 have K5:Hid (Chg (Up H) w w5):=((HA.out.trans K2.out fun _ h _=>h).mono (S':=Up H) fun _ _ h=>h.elim).trans k5 fun _ h _=>h
 have HW:=A0b hW
 clear TK k5 hW W4 K2 HCN HW1 HA
 go_wp2_with (go_at_call 49;refine CA5.out.mono ?_;rintro e w6 ⟨rfl,rfl⟩)
 go_ret
 exact ⟨rfl,K5.out,n',ls',HW.out,hl5,hck5⟩
end
end Go.Proofs.YtodcnkbblippnaaGreatDoor
namespace Go.Proofs.YtodcnkbblippnaaGreatDoor
open Go.RowKit
attribute [local go_sem ↓] Go.wp_at_zero Go.wp_at_succ
section
variable {w w':World} {H wb sb ab b:Nat} {n:WN} {life win clock:Int} {ro:Bool} {L:Nat→List Pt} {A:Ar} {P:PD} {FT:Nat→Prop} {puts:List Pu} {ls:List (Value × Int)}
set_option maxRecDepth 100000 in
set_option maxHeartbeats 4000000 in
theorem B2Z (w:World) (kd a b3 c3:Int) (tv:Value) (h:LW w H wb n b life (KS sb ab b life win clock ro L A P) FT puts ls) (hsv:n.sv=.pointer (some ⟨sb,0,none⟩)) (ha:a<0):
 Calls Tryz.prog 56 #[.pointer (some ⟨wb,0,none⟩),.agg #[.int .i64 kd,.int .i64 a,.int .i64 b3,.int .i64 c3,tv]] w fun e w'=>e=.returned (.bool true)∧Chg (fun _=>False) w w':=by
 have hA:=(Chg.refl (fun _=>False) w).alloc (A1t kd a b3 c3 tv)
 obtain ⟨-,o1,-,-⟩:=A2o w kd a b3 c3 tv
 have h1:=h.chg0 hA
 generalize hw1:w.alloc (A1t kd a b3 c3 tv)=w1 at hA o1 h1
 unfold A1t at hw1
 have c4:=h1.blk.c4
 rw [h1.hdv] at c4
 have c5:=h1.blk.c5
 rw [hsv] at c5
 have CA:=A0b (h1.calls)
 obtain ⟨lv,hsb,-⟩:=(h1.chg0 (Chg.refl (fun _=>False) w1).drew).store_at
 have TI:=A0b (B3k w1.drew a hsb ha)
 have CA2:Hid (∀ w',Chg (fun _=>False) w1 w'→Calls Tryz.prog 49 #[.pointer (some ⟨b,0,none⟩)] w' fun e w2=>e=.returned (.int .i64 P.D.n.calls)∧w'=w2):=fun w' k=>(h1.chg0 k).calls
 obtain ⟨cn,hcn⟩:∃ cn,P.D.n.calls=cn:=⟨_,rfl⟩
 rw [hcn] at CA CA2
 have HA:=A0b hA
 have HK:Hid (∀ w',Chg (fun _=>False) w1 w'→w'.cell? ⟨wb,4,none⟩=some (.pointer (some ⟨b,0,none⟩))):=fun w' k=>k.cellKeep c4
 clear h hA h1 hcn hsb
 go_enter Tryz.func56,Tryz.ntmps56
 go_wp2_with (go_at_call 49;refine CA.out.mono ?_;rintro e w2 ⟨rfl,rfl⟩)
 refine A0e (fun w'=>w'.cell? ⟨wb,5,none⟩=some (.pointer (some ⟨sb,0,none⟩))∧w'.cell? ⟨w.heap.size,1,none⟩=some (.int .i64 a)) 7
  [(0,true),(1,true),(2,true),(3,true),(4,true),(5,true),(6,false)] (by kernel_rfl) (by kernel_rfl) (fun _ _ _ _ _ h=>h) ⟨c5,o1⟩ ?_
 iterate 6 (refine A0d (v:=?_) rfl (by rfl) ?_ ?_;rotate_left;(· (intro w' hS;(try dsimp only at hS);go_simp;try with_reducible rfl));(try simp only [Act.put,List.setIfInBounds_toArray,List.set_cons_zero,List.set_cons_succ,List.getElem_toArray,List.getElem_cons_zero,List.getElem_cons_succ]))
 refine A0i rfl (by rfl) (fun K hK=>?_)
 go_simp
 refine TI.out.mono ?_
 rintro e w2 ⟨rfl,k2⟩
 have k2':Chg (fun _=>False) w1 w2:=⟨k2.os,k2.tape,k2.output,k2.size,k2.block⟩
 have d5:=k2'.cellKeep c5
 have p1:=k2'.cellKeep o1
 refine hK _ _ ⟨d5,p1⟩ (fun hS=>?_)
 have CAk:=A0b (CA2.out w2 k2')
 have d4:=HK.out w2 k2'
 have K2:Hid (Chg (fun _=>False) w w2):=HA.out.trans k2' fun _ h _=>h
 clear hK K hS k2 k2' CA CA2 TI HK c4 c5 o1 hw1
 (try simp only [Act.put,List.setIfInBounds_toArray,List.set_cons_zero,List.set_cons_succ,List.getElem_toArray,List.getElem_cons_zero,List.getElem_cons_succ])
 refine A0k ?_
 simp only [List.drop_succ_cons,List.drop_zero]
 go_wp2_with (go_at_call 49;refine CAk.out.mono ?_;rintro e w3 ⟨rfl,rfl⟩)
 go_ret
 exact ⟨rfl,K2.out⟩
set_option maxRecDepth 100000 in
set_option maxHeartbeats 4000000 in
theorem B4x (w:World) (kd a b3 c3:Int) (tv:Value) (h:LW w H wb n b life (KS sb ab b life win clock ro L A P) FT puts ls) (hsv:n.sv=.pointer (some ⟨sb,0,none⟩)) (hck:n.clock=clock) (ha:0≤a∧a≤9223372036854775807) (hl:1≤life∧life≤4611686018427387904) (hc:A0P clock):
 Calls Tryz.prog 56 #[.pointer (some ⟨wb,0,none⟩),.agg #[.int .i64 kd,.int .i64 a,.int .i64 b3,.int .i64 c3,tv]] w fun e w'=>e=.returned (.bool true)∧Chg (Up H) w w'∧
  ∃ FT' L',LW w' H wb { n with clock:=A0M clock a } b life (KS sb ab b life win (A0M clock a) ro L' A P) FT' puts ls∧A3r L L' (A0m (A0M clock a) life):=by
 have hA:=(Chg.refl (fun _=>False) w).alloc (A1t kd a b3 c3 tv)
 obtain ⟨-,o1,-,-⟩:=A2o w kd a b3 c3 tv
 have h1:=h.chg0 hA
 have hwx:w.heap.size<(w.alloc (A1t kd a b3 c3 tv)).heap.size:=by simp
 have hlt:=h.lt
 have hwl:=h.blk.lt
 generalize hw1:w.alloc (A1t kd a b3 c3 tv)=w1 at hA o1 h1 hwx
 unfold A1t at hw1
 have c4:=h1.blk.c4
 rw [h1.hdv] at c4
 have c5:=h1.blk.c5
 rw [hsv] at c5
 have CA:=A0b (h1.calls)
 have TI:Hid (Calls Tryz.prog 27 #[.pointer (some ⟨sb,0,none⟩),.int .i64 a] w1.drew fun e w'=>e=.returned (.int .i64 0)∧Chg (Up H) w1 w'∧w'.cell? ⟨wb,5,none⟩=some (.pointer (some ⟨sb,0,none⟩))∧w'.cell? ⟨w.heap.size,1,none⟩=some (.int .i64 a)∧w'.cell? ⟨wb,10,none⟩=some (.int .i64 clock)∧w'.frozen? ⟨wb,10,none⟩=false∧
  ∃ FT' L',LW w' H wb n b life (KS sb ab b life win (A0M clock a) ro L' A P) FT' puts ls∧A3r L L' (A0m (A0M clock a) life)):=by
  have h1d:=h1.chg0 (Chg.refl (fun _=>False) w1).drew
  obtain ⟨lv,F0,hs0,hsub⟩:=h1d.dsk
  refine (B2v w1.drew a hs0.blk hs0.rows ha hl hc).mono ?_
  rintro e w' ⟨rfl,lv',L',hS,hF⟩
  have hsto:=hs0.turnInto hsub hS
  obtain ⟨q1,FT2,q2⟩:=h1d.store (KS.stab sb ab b life win (A0M clock a) ro L' A P) hsto
  refine ⟨rfl,⟨q1.os,q1.tape,q1.output,q1.size,q1.block⟩,?_,?_,?_,q2.blk.fz 10,FT2,L',q2,hF⟩
  ·rw [q2.blk.c5,hsv]
  ·exact A0E (w:=w1.drew) hsto.1 o1 (fun hx=>by have:=hlt _ hx;omega)
  ·rw [q2.blk.c10,hck]
 have TD:=A0b (A4X clock a)
 obtain ⟨cn,hcn⟩:∃ cn,P.D.n.calls=cn:=⟨_,rfl⟩
 rw [hcn] at CA
 have HA:=A0b hA
 clear h hA h1 hcn hlt
 go_enter Tryz.func56,Tryz.ntmps56
 go_wp2_with (go_at_call 49;refine CA.out.mono ?_;rintro e w2 ⟨rfl,rfl⟩)
 refine A0e (fun w'=>w'.cell? ⟨wb,5,none⟩=some (.pointer (some ⟨sb,0,none⟩))∧w'.cell? ⟨w.heap.size,1,none⟩=some (.int .i64 a)) 7
  [(0,true),(1,true),(2,true),(3,true),(4,true),(5,true),(6,false)] (by kernel_rfl) (by kernel_rfl) (fun _ _ _ _ _ h=>h) ⟨c5,o1⟩ ?_
 iterate 6 (refine A0d (v:=?_) rfl (by rfl) ?_ ?_;rotate_left;(· (intro w' hS;(try dsimp only at hS);go_simp;try with_reducible rfl));(try simp only [Act.put,List.setIfInBounds_toArray,List.set_cons_zero,List.set_cons_succ,List.getElem_toArray,List.getElem_cons_zero,List.getElem_cons_succ]))
 refine A0i rfl (by rfl) (fun K hK=>?_)
 go_simp
 refine TI.out.mono ?_
 rintro e w2 ⟨rfl,k2,d5,p1,d10,z10,hR⟩
 refine hK _ _ ⟨d5,p1⟩ (fun hS=>?_)
 have HR:=A0b hR
 have K2:Hid (Chg (Up H) w w2):=(HA.out.mono (S':=Up H) fun _ _ h=>h.elim).trans k2 fun _ h _=>h
 have TDk:=A0b (TD.out w2.drew hc ha)
 clear hK K hS k2 CA TI TD c4 c5 o1 hw1 hR HA hwx
 (try simp only [Act.put,List.setIfInBounds_toArray,List.set_cons_zero,List.set_cons_succ,List.getElem_toArray,List.getElem_cons_zero,List.getElem_cons_succ])
 refine A0k ?_
 simp only [List.drop_succ_cons,List.drop_zero]
 obtain ⟨ha1,ha2⟩:=ha
 go_wp2
 refine A0e (fun w'=>w'.cell? ⟨wb,10,none⟩=some (.int .i64 clock)∧w'.cell? ⟨w.heap.size,1,none⟩=some (.int .i64 a)) 8
  [(0,true),(1,true),(2,true),(3,true),(4,true),(5,true),(6,true),(7,false)] (by kernel_rfl) (by kernel_rfl) (fun _ _ _ _ _ h=>h) ⟨d10,p1⟩ ?_
 iterate 7 (refine A0d (v:=?_) rfl (by rfl) ?_ ?_;rotate_left;(· (intro w' hS;(try dsimp only at hS);go_simp;try with_reducible rfl));(try simp only [Act.put,List.setIfInBounds_toArray,List.set_cons_zero,List.set_cons_succ,List.getElem_toArray,List.getElem_cons_zero,List.getElem_cons_succ]))
 refine A0i rfl (by rfl) (fun K hK=>?_)
 go_simp
 refine TDk.out.mono ?_
 rintro e w3 ⟨rfl,rfl⟩
 refine hK _ _ ⟨d10,p1⟩ (fun hS=>?_)
 clear hK K hS TDk
 (try simp only [Act.put,List.setIfInBounds_toArray,List.set_cons_zero,List.set_cons_succ,List.getElem_toArray,List.getElem_cons_zero,List.getElem_cons_succ])
 refine A0k ?_
 simp only [List.drop_succ_cons,List.drop_zero]
 go_wp2
 go_ret
 obtain ⟨FT',L',q1,q2⟩:=HR.out
 have q1d:=q1.chg0 (Chg.refl (fun _=>False) w2).drew
 obtain ⟨r1,r2⟩:=q1d.cell 10 (.int .i64 (A0M clock a)) (q1d.blk.s10 (A0M clock a)) rfl rfl rfl rfl
 exact ⟨rfl,K2.out.drew.trans r1 (fun _ h _=>h),FT',L',r2,q2⟩
end
end Go.Proofs.YtodcnkbblippnaaGreatDoor
namespace Go.Proofs.YtodcnkbblippnaaGreatDoor
open Go.RowKit
attribute [local go_sem ↓] Go.wp_at_zero Go.wp_at_succ
section
variable {w w':World} {H wb t t' B:Nat} {life:Int} {n:WN} {puts:List Pu} {ls:List (Value × Int)}
set_option maxRecDepth 100000 in
set_option maxHeartbeats 4000000 in
theorem B4m (w:World) (kd a b3 c3:Int) (tv:Value) (h:A1b w wb n) (hsv:n.sv=.pointer none) (hk:kd∉[1,6,7,8,9,10,11]):
 Calls Tryz.prog 18 #[.pointer (some ⟨wb,0,none⟩),.agg #[.int .i64 kd,.int .i64 a,.int .i64 b3,.int .i64 c3,tv]] w fun e w'=>e=.returned (.bool true)∧Chg (fun _=>False) w w':=by
 have hA:=(Chg.refl (fun _=>False) w).alloc (A1t kd a b3 c3 tv)
 obtain ⟨o0,o1,o2,o3⟩:=A2o w kd a b3 c3 tv
 have h1:=h.chg0 hA
 generalize hw1:w.alloc (A1t kd a b3 c3 tv)=w1 at hA o0 o1 o2 o3 h1
 unfold A1t at hw1
 have c5:=h1.c5
 rw [hsv] at c5
 have HA:=A0b hA
 simp only [List.mem_cons,List.not_mem_nil,or_false,not_or] at hk
 obtain ⟨n1,n6,n7,n8,n9,n10,n11⟩:=hk
 clear h hA h1
 go_enter Tryz.func18,Tryz.ntmps18
 go_wp2
 go_ret
 exact ⟨rfl,HA.out⟩
end
end Go.Proofs.YtodcnkbblippnaaGreatDoor
namespace Go.Proofs.YtodcnkbblippnaaGreatDoor
def A0y (room:Int):PD:=⟨⟨[],[],[],B1L room⟩,fun _=>([],0)⟩
section
variable {room:Int} {o:Int}
theorem A3Q (f:Nat):¬ (A0y room).D.ids f:=fun h=>by
 simp [DS.ids,A0y,A1f] at h
theorem B2l (hr : -4611686018427387904≤room∧room≤9223372036854775807):PB (A0y room) 0:=by
 refine ⟨⟨Nat.zero_le _,Nat.zero_le _,?_,Nat.zero_le _,fun f hf=>absurd hf (A3Q f),hr,⟨Int.le_refl _,by simp [A0y,B1L]⟩⟩,fun f hf=>absurd hf (A3Q f),⟨Int.le_refl _,Int.le_refl _⟩,⟨Int.le_refl _,Int.le_refl _⟩⟩
 intro l hl;cases hl
theorem A4E (room:Int) (nm:Bs):(A0y room).bs nm=none:=rfl
theorem A4T {room:Int} (h:0≤room∧room≤9223372036854775807):Fit (A0y room) 1 1 1:=
 ⟨by simp [A0y],by simp [A0y],fun l hl=>by simp [A0y] at hl,by simp [A0y],fun f _=>by simp [A0y],by simp only [A0y,B1L];omega,by simp [A0y,B1L]⟩
theorem A8D {room:Int} {N R:Nat} (hN:N≤4611686018427387904) (hR:(R:Int)≤room):Cm (A0y room) N R:=
 ⟨rfl,rfl,rfl,by simp only [A0y,B1L];omega,by simp only [A0y,B1L,A0J];omega,by simp [A0y],by simp [A0y]⟩
theorem A4l (room:Int):Ar.open (A0y room)=.ok (⟨⟨1,[]⟩,⟨[],0,0,none⟩,0,[]⟩,[]):=by
 unfold Ar.open
 rw [A7a (A4E room A0N)]
 rfl
end
end Go.Proofs.YtodcnkbblippnaaGreatDoor
namespace Go.Proofs.YtodcnkbblippnaaGreatDoor
open Go.RowKit
end Go.Proofs.YtodcnkbblippnaaGreatDoor
