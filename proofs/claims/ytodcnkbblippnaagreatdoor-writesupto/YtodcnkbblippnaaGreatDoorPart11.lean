/-
  The statement WritesUptoCardSaid is proved: the law Writes answers true for every setting and every script of at most 1048576 bytes; there is no other condition.
  Part 11 of 33.
-/
import Derived.Test.YtodcnkbblippnaaGreatDoorPart10
import Derived.Test.YtodcnkbblippnaaGreatDoorPart09
import Derived.Test.YtodcnkbblippnaaGreatDoorPart02
import Derived.Test.YtodcnkbblippnaaGreatDoorPart08
import Derived.Test.YtodcnkbblippnaaGreatDoorProg
import Derived.Conc.RwLib
import Derived.Conc.MuLone
import Derived.KernelRfl
namespace Go.Proofs.YtodcnkbblippnaaGreatDoor
open Go.RowKit
attribute [local go_sem ↓] Go.wp_at_zero Go.wp_at_succ
theorem A7Q {l:List Pt} {t:Int} (h:A6N l t=true):∃ hl:A1H l t<l.length,(l[A1H l t]'hl).1=t:=by
 unfold A6N at h
 by_cases hl:A1H l t<l.length
 ·rw [List.getElem?_eq_getElem hl] at h
  exact ⟨hl,by simpa using h⟩
 ·rw [List.getElem?_eq_none (by omega)] at h;cases h
theorem B0f (l:List Pt) (t v:Int):A2w l t v=if A6N l t then l.set (A1H l t) (t,v) else l.take (A1H l t) ++ (t,v):: l.drop (A1H l t):=by
 rw [A8R]
 show _ ++ _ :: (if A6N l t then _ else _)=_
 by_cases h:A6N l t=true
 ·obtain ⟨hl,_⟩:=A7Q h
  rw [if_pos h,if_pos h,List.set_eq_take_append_cons_drop,if_pos hl]
 ·rw [if_neg h,if_neg h]
theorem A6G {l:List Pt} {t v:Int} (h:l.length<1099511627775):(A2w l t v).length<1099511627776:=by
 have:(A2w l t v).length≤l.length+1:=by
  rw [B0f]
  split
  ·simp
  ·simp;omega
 omega
set_option maxRecDepth 100000 in
set_option maxHeartbeats 4000000 in
theorem B4H (w:World) (rb ro:Nat) (cs:Array Value) (T:Nat) (hT:T≠70) (L:List Pt) (lv:Value) (t v:Int) (h:A6m w rb ro cs T L lv) (hsm:L.length<1099511627775):
 Calls Tryz.prog 102 #[.pointer (some ⟨rb,ro,none⟩),.agg #[.int .i64 t,.int .i64 v]] w fun e w'=>e=.returned (.tuple #[])∧∃ lv',A6B w w' rb ro cs T lv (A2w L t v) lv':=by
 have H:=A0b h
 obtain ⟨ad,cap,rfl,h1,h2,h3,h4,h5⟩:=A0g h.row
 unfold maxLen at h2
 have HA:=A0b h3
 have hIP:=B0f L t v
 have hle:=A4p L t
 obtain ⟨i,hiq⟩:∃ i,A1H L t=i:=⟨_,rfl⟩
 obtain ⟨hs,hsq⟩:∃ hs,A6N L t=hs:=⟨_,rfl⟩
 have HH:Hid (hs=true→i<L.length):=fun e=>by
  obtain ⟨q,_⟩:=A7Q (hsq.trans e);rw [hiq] at q;exact q
 have FA:Hid (∀ W,Chg (fun _=>False) w W→Calls Tryz.prog 116 #[.pointer (some ⟨rb,ro,none⟩),.int .i64 t] W fun e w'=>e=.returned (.tuple #[.int .i64 i,.bool hs])∧Chg (fun _=>False) W w'):=fun W hW=>
  (A5s W rb ro L _ t (H.out.chg hW).toAt).mono (by rintro e w' ⟨rfl,h⟩;rw [hiq,hsq];exact ⟨rfl,h⟩)
 rw [hiq,hsq] at hIP
 rw [hiq] at hle
 have HIP:=A0b hIP
 have nbx:=heap_alloc_new w (.cells #[.int .i64 t,.int .i64 v] 70)
 have NB:=A0b nbx
 have hbl:=lt_of_block h.blk
 have hsz:L.length<1099511627776:=h.small
 clear h h3 h4 h5 hiq hsq hIP nbx
 have iz:(0:Int)≤(i:Int):=Int.natCast_nonneg _
 have HW:Hid (∀ W,Chg (fun _=>False) (w.alloc (.cells #[.int .i64 t,.int .i64 v] 70)) W→Chg (fun _=>False) w W∧W.heap[w.heap.size]?=some (.cells #[.int .i64 t,.int .i64 v] 70 (0,0))∧A6m W rb ro cs T L (.slice ad L.length cap)):=fun W hW=>by
  have h1:Chg (fun _=>False) w W:=((Chg.refl _ w).alloc _).trans hW fun _ h _=>h
  exact ⟨h1,(hW.block _ (by simp) (fun h=>h)).trans NB.out,H.out.chg h1⟩
 cases hs with
 | true=>
  have hil:=HH.out rfl
  obtain ⟨g,rfl⟩:=HA.out (by omega)
  have i1:(i:Int)<(L.length:Int):=by omega
  have FIN:Hid (∀ W n,Chg (fun _=>False) (w.alloc (.cells #[.int .i64 t,.int .i64 v] 70)) W→A6B w (((W.drewN n).setCell ⟨g,i*2,none⟩ (.int .i64 t)).setCell ⟨g,i*2+1,none⟩ (.int .i64 v)) rb ro cs T (.slice (some ⟨g,0,none⟩) L.length cap) (A2w L t v) (.slice (some ⟨g,0,none⟩) L.length cap)):=by
   intro W n hW
   obtain ⟨k1,k2,k3⟩:=HW.out W hW
   have s1:=((A0a k3.row (w':=W.drewN n) fun _ _=>rfl).stored (i*2) (.int .i64 t)).1
   have s2:=(s1.stored (i*2+1) (.int .i64 v)).1
   have e:=A2R L i (t,v) hil
   simp only at e
   rw [e] at s2
   obtain ⟨ce,hce⟩:=A0f k3.row (g:=g) rfl
   have hne:rb≠g:=fun e=>by subst e;rw [k3.blk] at hce;cases hce;exact hT rfl
   have hins:A2w L t v=L.set i (t,v):=HIP.out
   have hset:cs.setIfInBounds ro (.slice (some ⟨g,0,none⟩) L.length cap)=cs:=by
    obtain ⟨hlt,he⟩:=Array.getElem?_eq_some_iff.1 H.out.at_
    apply Array.ext_getElem?
    intro k
    by_cases hk:ro=k
    ·subst hk;simp [hlt,he]
    ·rw [Array.getElem?_setIfInBounds_ne hk]
   refine ⟨⟨?_,by rw [hset];exact H.out.at_,?_,A3a H.out.sorted t v,A6G hsm⟩,?_,fun g hg=>.inl hg⟩
   ·rw [hset,Below.heap_setCell _ _ _ _ hne,Below.heap_setCell _ _ _ _ hne];exact k3.blk
   ·rw [hins];unfold A2r;rw [List.length_set];exact s2
   ·exact (((k1.drewN n).mono (S':=fun k=>k=rb∨(Value.slice (some ⟨g,0,none⟩) L.length cap).ownBlock=some k) (fun _ _ h=>h.elim)).setAt (b:=g) (.inr rfl) (i*2) _).setAt (b:=g) (.inr rfl) (i*2+1) _
  go_enter Tryz.func102,Tryz.ntmps102
  go_wp2_with (fail)
  refine (FA.out _ ((Chg.refl _ w).alloc _)).mono ?_
  rintro e w1 ⟨rfl,k1⟩
  have K1:=A0b k1
  obtain ⟨k2,k3,k4⟩:=HW.out w1 k1
  have c0:=k4.toAt.cell
  have p0:w1.cell? ⟨w.heap.size,0,none⟩=some (.int .i64 t):=by simp [World.cell?,k3]
  have p1:w1.cell? ⟨w.heap.size,1,none⟩=some (.int .i64 v):=by simp [World.cell?,k3]
  obtain ⟨o0,o1⟩:=k4.row.cells i hil
  have z0:=A0t k4.row (g:=g) rfl (i*2)
  have z1:=A0t k4.row (g:=g) rfl (i*2+1)
  clear k1 k2 k3 k4
  go_wp2
  refine wp_region_still_tail 7 (by kernel_rfl) (by kernel_rfl) ?_
  simp only [World.drew_eq,List.take_succ_cons,List.take_zero,List.drop_succ_cons,List.drop_zero]
  repeat still_step
  refine wpStill_nil ?_
  go_wp2
  refine bodyPost_ret (results_none rfl _ _ _) rfl ?_
  exact ⟨rfl,_,FIN.out w1 1 K1.out⟩
 | false=>
  have INS:Hid (∀ W,Chg (fun _=>False) (w.alloc (.cells #[.int .i64 t,.int .i64 v] 70)) W→Calls Tryz.prog 139 #[.slice ad L.length cap,.int .i64 i,.slice (some ⟨W.heap.size,0,none⟩) 1 1] (W.alloc (.cells #[.int .i64 t,.int .i64 v] 70)) fun e w'=>∃ lv',e=.returned lv'∧A7w (W.alloc (.cells #[.int .i64 t,.int .i64 v] 70)) w' (.slice ad L.length cap) (L.take i ++ (t,v):: L.drop i) lv'):=fun W hW=>by
   obtain ⟨k1,k2,k3⟩:=HW.out W hW
   exact B1o _ ad cap L i W.heap.size t v (A0a k3.row fun g hg=>Below.heap_alloc _ _ _ (A0c k3.row hg)) hle hsz (heap_alloc_new W _) (fun e=>by have:=A0c k3.row e;omega)
  have FIN:Hid (∀ W w3 lv',Chg (fun _=>False) (w.alloc (.cells #[.int .i64 t,.int .i64 v] 70)) W→A7w (W.alloc (.cells #[.int .i64 t,.int .i64 v] 70)) w3 (.slice ad L.length cap) (L.take i ++ (t,v):: L.drop i) lv'→
   (w3.cell? ⟨rb,ro,none⟩=some (.slice ad L.length cap)∧w3.cell? ⟨w.heap.size,0,none⟩=some (.int .i64 t)∧w3.cell? ⟨w.heap.size,1,none⟩=some (.int .i64 v))∧w3.frozen? ⟨rb,ro,none⟩=false∧A6B w (w3.setCell ⟨rb,ro,none⟩ lv') rb ro cs T (.slice ad L.length cap) (A2w L t v) lv'∧∃ a c,lv'=.slice a (L.length+1) c):=by
   intro W w3 lv' hW hI
   obtain ⟨k1,k2,k3⟩:=HW.out W hW
   have hnb:(Value.slice ad L.length cap).ownBlock≠some rb:=fun e=>by
    obtain ⟨c,hh⟩:=A0f k3.row e
    rw [k3.blk] at hh;cases hh;exact hT rfl
   have hnp:(Value.slice ad L.length cap).ownBlock≠some w.heap.size:=fun e=>by
    have:=A0c H.out.row e;omega
   have hb3:w3.heap[rb]?=some (.cells cs T (0,0)):=(hI.chg.block rb (by have:=lt_of_block k3.blk;simp;omega) hnb).trans ((Below.heap_alloc _ _ _ (lt_of_block k3.blk)).trans k3.blk)
   have hp3:w3.heap[w.heap.size]?=some (.cells #[.int .i64 t,.int .i64 v] 70 (0,0)):=(hI.chg.block _ (by have:=lt_of_block k2;simp;omega) hnp).trans ((Below.heap_alloc _ _ _ (lt_of_block k2)).trans k2)
   have hll:(L.take i ++ (t,v):: L.drop i).length=L.length+1:=by simp;omega
   have hins:A2w L t v=L.take i ++ (t,v):: L.drop i:=by have:=HIP.out;simpa using this
   refine ⟨⟨by simp [World.cell?,hb3,H.out.at_],by simp [World.cell?,hp3],by simp [World.cell?,hp3]⟩,by simp [World.frozen?,hb3],⟨⟨A0h hb3,?_,?_,A3a H.out.sorted t v,A6G hsm⟩,?_,?_⟩,?_⟩
   ·have hlt:ro<cs.size:=(Array.getElem?_eq_some_iff.1 H.out.at_).1
    simp [hlt]
   ·rw [hins]
    refine A0a hI.row fun g hg=>?_
    have hne:g≠rb:=fun e=>by
     obtain ⟨c,hh⟩:=A0f hI.row hg
     subst e
     rw [hb3] at hh;cases hh;exact hT rfl
    exact Below.heap_setCell _ _ _ _ (fun e=>hne (by simpa using e))
   ·have c1:Chg (fun k=>k=rb∨(Value.slice ad L.length cap).ownBlock=some k) w w3:=((k1.alloc (.cells #[.int .i64 t,.int .i64 v] 70)).mono (fun _ _ h=>h.elim)).trans hI.chg (fun x hx _=>.inr hx)
    exact c1.setAt (.inl rfl) ro _
   ·intro g hg
    rcases hI.own g hg with h | h
    ·exact .inl h
    ·right
     have:=k1.size
     simp at h;omega
   ·obtain ⟨a,c,e,_⟩:=A0g hI.row
    rw [hll] at e
    exact ⟨a,c,e⟩
  go_enter Tryz.func102,Tryz.ntmps102
  go_wp2_with (fail)
  refine (FA.out _ ((Chg.refl _ w).alloc _)).mono ?_
  rintro e w1 ⟨rfl,k1⟩
  have K1:=A0b k1
  obtain ⟨k2,k3,k4⟩:=HW.out w1 k1
  have c0:=k4.toAt.cell
  have p0:w1.cell? ⟨w.heap.size,0,none⟩=some (.int .i64 t):=by simp [World.cell?,k3]
  have p1:w1.cell? ⟨w.heap.size,1,none⟩=some (.int .i64 v):=by simp [World.cell?,k3]
  clear k1 k2 k3 k4
  go_wp2
  refine A0e (fun w'=>w'.cell? ⟨rb,ro,none⟩=some (.slice ad L.length cap)∧w'.cell? ⟨w.heap.size,0,none⟩=some (.int .i64 t)∧w'.cell? ⟨w.heap.size,1,none⟩=some (.int .i64 v)) 9
   [(0,true),(1,true),(2,true),(3,true),(4,true),(5,true),(6,true),(7,false),(8,false)] (by kernel_rfl) (by kernel_rfl) (fun _ _ _ _ _ h=>h) ⟨c0,p0,p1⟩ ?_
  iterate 7 (refine A0d (v:=?_) rfl (by rfl) ?_ ?_;rotate_left;(· (intro w' hS;(try dsimp only at hS);go_simp;try with_reducible rfl));(try simp only [Act.put,List.setIfInBounds_toArray,List.set_cons_zero,List.set_cons_succ,List.getElem_toArray,List.getElem_cons_zero,List.getElem_cons_succ]))
  refine A0i rfl (by rfl) (fun K hK=>?_)
  go_simp
  refine hK _ _ ?_ (fun hS=>?_)
  ·simp [World.cell?_alloc_some,c0,p0,p1]
  clear hK K hS
  (try simp only [Act.put,List.setIfInBounds_toArray,List.set_cons_zero,List.set_cons_succ,List.getElem_toArray,List.getElem_cons_zero,List.getElem_cons_succ])
  refine A0i rfl (by rfl) (fun K hK=>?_)
  go_simp
  refine (INS.out w1.drew K1.out.drew).mono ?_
  rintro e w3 ⟨lv',rfl,hI⟩
  obtain ⟨f1,f2,f3,a3,d3,rfl⟩:=FIN.out w1.drew w3 lv' K1.out.drew hI
  have F3:=A0b f3
  refine hK _ _ f1 (fun hS=>?_)
  obtain ⟨f1,-,-⟩:=f1
  clear hK K hS hI f3
  (try simp only [Act.put,List.setIfInBounds_toArray,List.set_cons_zero,List.set_cons_succ,List.getElem_toArray,List.getElem_cons_zero,List.getElem_cons_succ])
  refine A0k ?_
  simp only [List.drop_succ_cons,List.drop_zero]
  go_wp2
  go_end0
  exact ⟨rfl,_,F3.out⟩
end Go.Proofs.YtodcnkbblippnaaGreatDoor
namespace Go.Proofs.YtodcnkbblippnaaGreatDoor
open Go.RowKit
theorem A6B.before {w w1 w':World} {b o:Nat} {cs:Array Value} {T:Nat} {lv lv':Value} {L':List Pt} (h:A6B w1 w' b o cs T lv L' lv') (hc:Chg (fun _=>False) w w1):A6B w w' b o cs T lv L' lv':=
 ⟨h.row,(hc.mono fun _ _ h=>h.elim).trans h.chg fun _ h _=>h,fun g hg=>(h.own g hg).imp id fun h=>Nat.le_trans hc.size h⟩
set_option maxRecDepth 100000 in
set_option maxHeartbeats 1000000 in
theorem B3x (w:World) (sb sr:Nat) (cs:Array Value) (T:Nat) (hT:T≠70) (clock life t v:Int) (L:List Pt) (lv:Value) (hsr:sr<8) (h:A6m w sb (7+sr) cs T L lv) (hsm:L.length<1099511627775)
 (h3:cs[3]?=some (.int .i64 life)) (h4:cs[5]?=some (.int .i64 clock)) (hl:1≤life∧life≤4611686018427387904) (hc:A0P clock):
 Calls Tryz.prog 60 #[.pointer (some ⟨sb,0,none⟩),.agg #[.int .i64 sr,.int .i64 t,.int .i64 v]] w fun e w'=>e=.returned (.tuple #[])∧
  ((A0m clock life≤t∧∃ lv',A6B w w' sb (7+sr) cs T lv (A2w L t v) lv')∨(t<A0m clock life∧Chg (fun _=>False) w w')):=by
 have c3:w.cell? ⟨sb,3,none⟩=some (.int .i64 life):=by simp [World.cell?,h.blk,h3]
 have c4:w.cell? ⟨sb,5,none⟩=some (.int .i64 clock):=by simp [World.cell?,h.blk,h4]
 have OL:∀ w',Chg (fun _=>False) w w'→_:=fun w' hk=>A4N w' sb clock life (hk.cellKeep c3) (hk.cellKeep c4) hl hc
 obtain ⟨o,ho⟩:∃ o,A0m clock life=o:=⟨_,rfl⟩
 rw [ho] at OL ⊢
 have PU:∀ w',Chg (fun _=>False) w w'→_:=fun w' hk=>B4H w' sb (7+sr) cs T hT L lv t v (h.chg hk) hsm
 have HOL:=A0b OL
 have HPU:=A0b PU
 clear OL PU ho h3 h4 hl hc h hsm hT c3 c4
 go_enter Tryz.func60,Tryz.ntmps60
 go_wp2
 have hb:(w.alloc (.cells #[.int .i64 sr,.int .i64 t,.int .i64 v] 113)).heap[w.heap.size]?=some (.cells #[.int .i64 sr,.int .i64 t,.int .i64 v] 113 (0,0)):=by show (w.heap.push _)[w.heap.size]?=_;rw [Array.getElem?_push_size]
 have HB0:Hid ((w.alloc (.cells #[.int .i64 sr,.int .i64 t,.int .i64 v] 113)).heap[w.heap.size]?=some (.cells #[.int .i64 sr,.int .i64 t,.int .i64 v] 113 (0,0))∧Chg (fun _=>False) w (w.alloc (.cells #[.int .i64 sr,.int .i64 t,.int .i64 v] 113))):=⟨hb,(Chg.refl _ w).alloc _⟩
 clear hb
 generalize (w.alloc (.cells #[.int .i64 sr,.int .i64 t,.int .i64 v] 113))=w1 at HB0 ⊢
 refine A0O 5 (fun y=>{ tmps:=#[.pointer (some ⟨sb,0,none⟩),.agg #[.int .i64 sr,.int .i64 t,.int .i64 v],undef,.pointer (some ⟨w.heap.size,0,none⟩),y 0,y 1,y 2,y 3,y 4,undef,undef,undef,undef,undef,undef,undef,undef,undef,undef],defers:=[] }) (fun _=>undef)
  (fun w'=>w'.heap[w.heap.size]?=some (.cells #[.int .i64 sr,.int .i64 t,.int .i64 v] 113 (0,0))∧Chg (fun _=>False) w w') (Chg (fun _=>False))
  (fun j x w'=>match j with
   | 0=>x=.pointer (some ⟨w.heap.size,1,none⟩)
   | 1=>x=.pointer (some ⟨w.heap.size,1,none⟩)
   | 2=>x=.int .i64 t
   | 3=>x=.pointer (some ⟨sb,0,none⟩)
   | 4=>x=.int .i64 o
   | _=>True)
  (by kernel_rfl) (by kernel_rfl) rfl ?_ ?_ ?_ ?_
 ·exact ⟨HB0.out.1,HB0.out.2.drew⟩
 ·intro j x w1 w2 hR hS' hG
  split at hG <;> exact hG
 ·clear HB0
  simp only [List.take_succ_cons,List.take_zero,A2n,and_true]
  repeat' (with_reducible apply And.intro)
  all_goals refine ⟨?_,(by intro y wx _ _ h;exact Bool.noConfusion h),fun y x=>rfl⟩
  all_goals
   intro y wx hS hd hw K hK
   clear hw
   obtain ⟨hS1,hS2⟩:=hS
   simp [A2E,Region.binds,A3x,List.filter_cons] at hd
   have p1:wx.cell? ⟨w.heap.size,1,none⟩=some (.int .i64 t):=by simp [World.cell?,hS1]
   have HS:Hid (wx.heap[w.heap.size]?=some (.cells #[.int .i64 sr,.int .i64 t,.int .i64 v] 113 (0,0))∧Chg (fun _=>False) w wx):=⟨hS1,hS2⟩
   have HK:=A0b hK
   clear hS1 hS2 hK
  all_goals dsimp only
  all_goals try go_simp
  all_goals try with_reducible exact HK.out _ _ _ rfl (by simp [Act.put,hd]) (Chg.refl _ _) HS.out
  all_goals
   refine (HOL.out wx HS.out.2).mono ?_
   rintro e w2 ⟨rfl,hk⟩
   exact HK.out _ _ _ rfl (by simp [Act.put,hd]) hk ⟨hk.keep HS.out.1 (by simp),HS.out.2.trans hk (fun _ h _=>h)⟩
 ·intro y wx hS hG
  have h2:y 2=.int .i64 t:=hG 2 (by omega)
  have h4:y 4=.int .i64 o:=hG 4 (by omega)
  have p0:wx.cell? ⟨w.heap.size,0,none⟩=some (.int .i64 sr):=by simp [World.cell?,hS.1]
  have p1:wx.cell? ⟨w.heap.size,1,none⟩=some (.int .i64 t):=by simp [World.cell?,hS.1]
  have p2:wx.cell? ⟨w.heap.size,2,none⟩=some (.int .i64 v):=by simp [World.cell?,hS.1]
  have HS:=A0b hS
  clear hG hS HB0
  have hsrI:(sr:Int)<8:=by omega
  by_cases hot:o≤t
  ·go_wp2
   refine A0e (fun w'=>w'.cell? ⟨w.heap.size,0,none⟩=some (.int .i64 sr)∧w'.cell? ⟨w.heap.size,1,none⟩=some (.int .i64 t)∧w'.cell? ⟨w.heap.size,2,none⟩=some (.int .i64 v)) 8
    [(0,true),(1,true),(2,true),(3,true),(4,true),(5,true),(6,true),(7,true)] (by kernel_rfl) (by kernel_rfl) (fun _ _ _ _ _ h=>h) ⟨p0,p1,p2⟩ ?_
   iterate 8 (refine A0d (v:=?_) rfl (by rfl) ?_ ?_;rotate_left;(· (intro w' hS;(try dsimp only at hS);go_simp;try with_reducible rfl));(try simp only [Act.put,List.setIfInBounds_toArray,List.set_cons_zero,List.set_cons_succ,List.getElem_toArray,List.getElem_cons_zero,List.getElem_cons_succ]))
   refine A0k ?_
   simp only [List.drop_succ_cons,List.drop_zero]
   have PU2:=A0b (HPU.out wx.drew HS.out.2.drew)
   clear HPU HOL
   go_wp2_with (go_at_call 102;refine PU2.out.mono ?_;rintro e w2 ⟨rfl,lv',hR⟩;have HR:=A0b hR;clear hR)
   go_end0
   first | exact ⟨rfl,lv',HR.out.before HS.out.2.drew⟩ | exact ⟨rfl,.inl ⟨lv',HR.out.before HS.out.2.drew⟩⟩ | exact ⟨rfl,.inl ⟨hot,lv',HR.out.before HS.out.2.drew⟩⟩
  ·have hlt:t<o:=by omega
   go_wp2
   go_end0
   exact ⟨rfl,.inr HS.out.2⟩
end Go.Proofs.YtodcnkbblippnaaGreatDoor
namespace Go.Proofs.YtodcnkbblippnaaGreatDoor
abbrev Tryz.muLink:Go.Conc.Locks.MuLink:={ lock:=61,unlock:=62,ilock:=103,iunlock:=104,lockSlow:=144,unlockSlow:=147,disable:=140,enable:=142,acquire:=143,relMerge:=145,cas32:=141,add32:=146,tMutex:=106,tIMutex:=104,tPMutex:=167,tPIMutex:=213,tPI32:=215,tUP:=217,tNoCopy:=101,tU32:=102 }
theorem Tryz.muLib:Go.Conc.Locks.MuLib Tryz.prog Tryz.muLink:=
 ⟨Tryz.func61,Tryz.func62,Tryz.func103,Tryz.func104,Tryz.func140,Tryz.func142,Tryz.func143,Tryz.func145,Tryz.func141,Tryz.func146,
  Tryz.underlying104,Tryz.runUnderlying104,Tryz.sizeOf104,Tryz.isAgg104,Tryz.zeroValue104,
  Tryz.underlying106,Tryz.runUnderlying106,Tryz.sizeOf106,Tryz.isAgg106,Tryz.zeroValue106,
  Tryz.underlying167,Tryz.runUnderlying167,Tryz.sizeOf167,Tryz.isAgg167,Tryz.zeroValue167,
  Tryz.underlying213,Tryz.runUnderlying213,Tryz.sizeOf213,Tryz.isAgg213,Tryz.zeroValue213,
  Tryz.underlying215,Tryz.runUnderlying215,Tryz.sizeOf215,Tryz.isAgg215,Tryz.zeroValue215,
  Tryz.underlying217,Tryz.runUnderlying217,Tryz.sizeOf217,Tryz.isAgg217,Tryz.zeroValue217,
  Tryz.underlying101,Tryz.runUnderlying101,Tryz.sizeOf101,Tryz.isAgg101,Tryz.zeroValue101,
  Tryz.underlying21,Tryz.runUnderlying21,Tryz.sizeOf21,Tryz.isAgg21,Tryz.zeroValue21,(by kernel_rfl)⟩
end Go.Proofs.YtodcnkbblippnaaGreatDoor
namespace Go.Proofs.YtodcnkbblippnaaGreatDoor
open Go.RowKit
def A1B (mu:Int) (jv:Value) (life win clock:Int) (ro:Bool) (lv:Nat→Value):Array Value:=
 #[.int .i32 mu,.int .u32 0,jv,.int .i64 life,.int .i64 win,.int .i64 clock,.bool ro,lv 0,lv 1,lv 2,lv 3,lv 4,lv 5,lv 6,lv 7]
def A1w (w:World) (sb:Nat) (mu:Int) (jv:Value) (life win clock:Int) (ro:Bool) (lv:Nat→Value):Prop:=
 w.heap[sb]?=some (.cells (A1B mu jv life win clock ro lv) 111 (0,0))
section
variable {w:World} {sb:Nat} {mu:Int} {jv:Value} {life win clock:Int} {ro:Bool} {lv:Nat→Value}
theorem A1w.c0 (h:A1w w sb mu jv life win clock ro lv):w.cell? ⟨sb,0,none⟩=some (.int .i32 mu):=by unfold A1w at h;simp [World.cell?,h,A1B]
theorem A1w.c2 (h:A1w w sb mu jv life win clock ro lv):w.cell? ⟨sb,2,none⟩=some jv:=by unfold A1w at h;simp [World.cell?,h,A1B]
theorem A1w.c3 (h:A1w w sb mu jv life win clock ro lv):w.cell? ⟨sb,3,none⟩=some (.int .i64 life):=by unfold A1w at h;simp [World.cell?,h,A1B]
theorem A1w.cW (h:A1w w sb mu jv life win clock ro lv):w.cell? ⟨sb,4,none⟩=some (.int .i64 win):=by unfold A1w at h;simp [World.cell?,h,A1B]
theorem A1w.cK (h:A1w w sb mu jv life win clock ro lv):w.cell? ⟨sb,5,none⟩=some (.int .i64 clock):=by unfold A1w at h;simp [World.cell?,h,A1B]
theorem A1w.cR (h:A1w w sb mu jv life win clock ro lv):w.cell? ⟨sb,6,none⟩=some (.bool ro):=by unfold A1w at h;simp [World.cell?,h,A1B]
theorem A1w.fz (h:A1w w sb mu jv life win clock ro lv) (o:Nat):w.frozen? ⟨sb,o,none⟩=false:=by unfold A1w at h;simp [World.frozen?,h]
theorem A1w.lt (h:A1w w sb mu jv life win clock ro lv):sb<w.heap.size:=lt_of_block h
theorem A1w.chg {S:Nat→Prop} {w':World} (h:A1w w sb mu jv life win clock ro lv) (hg:Chg S w w') (hr:¬ S sb):A1w w' sb mu jv life win clock ro lv:=(hg.block sb h.lt hr).trans h
theorem A1w.s0 (h:A1w w sb mu jv life win clock ro lv) (x:Int):A1w (w.setCell ⟨sb,0,none⟩ (.int .i32 x)) sb x jv life win clock ro lv:=A0h h
theorem A1w.sK (h:A1w w sb mu jv life win clock ro lv) (x:Int):A1w (w.setCell ⟨sb,5,none⟩ (.int .i64 x)) sb mu jv life win x ro lv:=A0h h
theorem A1w.sR (h:A1w w sb mu jv life win clock ro lv) (x:Bool):A1w (w.setCell ⟨sb,6,none⟩ (.bool x)) sb mu jv life win clock x lv:=A0h h
theorem A9m {mu:Int} {jv:Value} {life win clock:Int} {ro:Bool} {lv:Nat→Value} {k:Nat} (hk:k<8):(A1B mu jv life win clock ro lv)[7+k]?=some (lv k):=by
 match k,hk with
 | 0,_=>rfl
 | 1,_=>rfl
 | 2,_=>rfl
 | 3,_=>rfl
 | 4,_=>rfl
 | 5,_=>rfl
 | 6,_=>rfl
 | 7,_=>rfl
def B3S (lv:Nat→Value) (k:Nat) (v:Value):Nat→Value:=fun i=>if i=k then v else lv i
theorem A8X {mu:Int} {jv:Value} {life win clock:Int} {ro:Bool} {lv:Nat→Value} {k:Nat} (hk:k<8) (v:Value):(A1B mu jv life win clock ro lv).setIfInBounds (7+k) v=A1B mu jv life win clock ro (B3S lv k v):=by
 match k,hk with
 | 0,_=>rfl
 | 1,_=>rfl
 | 2,_=>rfl
 | 3,_=>rfl
 | 4,_=>rfl
 | 5,_=>rfl
 | 6,_=>rfl
 | 7,_=>rfl
end
structure A1q (w:World) (lv:Nat→Value) (L:Nat→List Pt):Prop where
 row:∀ k,k<8→A2r w (lv k) (L k)
 sorted:∀ k,k<8→A1z (L k)
 small:∀ k,k<8→(L k).length<1099511627775
 sep:∀ i j,i<8→j<8→i≠j→∀ g,(lv i).ownBlock=some g→(lv j).ownBlock≠some g
def A1C (lv:Nat→Value) (g:Nat):Prop:=∃ k,k<8∧(lv k).ownBlock=some g
theorem A1q.lt {w:World} {lv:Nat→Value} {L:Nat→List Pt} (h:A1q w lv L) {g:Nat} (hg:A1C lv g):g<w.heap.size:=by
 obtain ⟨k,hk,e⟩:=hg;exact A0c (h.row k hk) e
theorem A1q.chg {S:Nat→Prop} {w w':World} {lv:Nat→Value} {L:Nat→List Pt} (h:A1q w lv L) (hc:Chg S w w') (hS:∀ g,A1C lv g→¬ S g):A1q w' lv L:=
 ⟨fun k hk=>A0a (h.row k hk) fun g hg=>hc.block g (A0c (h.row k hk) hg) (hS g ⟨k,hk,hg⟩),h.sorted,h.small,h.sep⟩
theorem A1q.elem {w:World} {lv:Nat→Value} {L:Nat→List Pt} (h:A1q w lv L) {g:Nat} (hg:A1C lv g):∃ c,w.heap[g]?=some (.cells c 70 (0,0)):=by
 obtain ⟨k,hk,e⟩:=hg;exact A0f (h.row k hk) e
theorem A1q.ne {w:World} {lv:Nat→Value} {L:Nat→List Pt} (h:A1q w lv L) {sb:Nat} {c:Array Value} {T:TypeId} (hb:w.heap[sb]?=some (.cells c T (0,0))) (hT:T≠70):¬ A1C lv sb:=fun hg=>by
 obtain ⟨c',hh⟩:=h.elem hg
 rw [hb] at hh;cases hh;exact hT rfl
theorem A1q.rowIn {w:World} {lv:Nat→Value} {L:Nat→List Pt} (h:A1q w lv L) {sb:Nat} {mu:Int} {jv:Value} {life win clock:Int} {ro:Bool} (hb:A1w w sb mu jv life win clock ro lv) {k:Nat} (hk:k<8):
 A6m w sb (7+k) (A1B mu jv life win clock ro lv) 111 (L k) (lv k):=
 ⟨hb,A9m hk,h.row k hk,h.sorted k hk,Nat.lt_trans (h.small k hk) (by decide)⟩
def B3f (L:Nat→List Pt) (k:Nat) (l:List Pt):Nat→List Pt:=fun i=>if i=k then l else L i
theorem B3H {lv:Nat→Value} {k:Nat} {v:Value} {g:Nat} (h:A1C (B3S lv k v) g):A1C lv g∨v.ownBlock=some g:=by
 obtain ⟨i,hi,e⟩:=h
 unfold B3S at e
 split at e
 ·exact .inr e
 ·exact .inl ⟨i,hi,e⟩
theorem A1q.turn {w w':World} {lv:Nat→Value} {L:Nat→List Pt} (h:A1q w lv L) {sb:Nat} {mu:Int} {jv:Value} {life win clock:Int} {ro:Bool} (hb:A1w w sb mu jv life win clock ro lv) {k:Nat} (hk:k<8) {L':List Pt} {lv':Value} {t:Nat}
 (hR:A6B w w' sb (7+k) (A1B mu jv life win clock ro lv) t (lv k) L' lv') (ht:t=111) (hl:L'.length<1099511627775):
 A1w w' sb mu jv life win clock ro (B3S lv k lv')∧A1q w' (B3S lv k lv') (B3f L k L')∧Chg (fun x=>x=sb∨A1C lv x) w w'∧∀ g,A1C (B3S lv k lv') g→A1C lv g∨w.heap.size≤g:=by
 subst ht
 have hblk:=hR.row.blk
 rw [A8X hk] at hblk
 have hown:∀ g,lv'.ownBlock=some g→(lv k).ownBlock=some g∨w.heap.size≤g:=hR.own
 have hc:Chg (fun x=>x=sb∨A1C lv x) w w':=hR.chg.mono fun x _ hx=>hx.imp id fun e=>⟨k,hk,e⟩
 have hnb:=h.ne hb (by decide)
 refine ⟨hblk,⟨?_,?_,?_,?_⟩,hc,fun g hg=>?_⟩
 ·intro i hi
  unfold B3S B3f
  by_cases e:i=k
  ·simp only [e,if_true];exact hR.row.row
  ·simp only [e,if_false]
   exact A0a (h.row i hi) fun g hg=>hR.chg.block g (A0c (h.row i hi) hg) fun hx=>by
    rcases hx with rfl | hx
    ·exact hnb ⟨i,hi,hg⟩
    ·exact h.sep k i hk hi (fun x=>e x.symm) g hx hg
 ·intro i hi
  unfold B3f
  by_cases e:i=k
  ·simp only [e,if_true];exact hR.row.sorted
  ·simp only [e,if_false];exact h.sorted i hi
 ·intro i hi
  unfold B3f
  by_cases e:i=k
  ·simp only [e,if_true];exact hl
  ·simp only [e,if_false];exact h.small i hi
 ·intro i j hi hj hij g hg hg'
  unfold B3S at hg hg'
  by_cases e:i=k
  ·subst e
   have e2:¬ j=i:=fun x=>hij x.symm
   simp only [if_true] at hg
   simp only [e2,if_false] at hg'
   rcases hown g hg with hx | hx
   ·exact h.sep i j hk hj hij g hx hg'
   ·have:=A0c (h.row j hj) hg';omega
  ·simp only [e,if_false] at hg
   by_cases e2:j=k
   ·subst e2
    simp only [if_true] at hg'
    rcases hown g hg' with hx | hx
    ·exact h.sep i j hi hk hij g hg hx
    ·have:=A0c (h.row i hi) hg;omega
   ·simp only [e2,if_false] at hg'
    exact h.sep i j hi hj hij g hg hg'
 ·rcases B3H hg with hx | hx
  ·exact .inl hx
  ·rcases hown g hx with hy | hy
   ·exact .inl ⟨k,hk,hy⟩
   ·exact .inr hy
theorem A1w.locked {w:World} {sb:Nat} {jv:Value} {life win clock:Int} {ro:Bool} {lv:Nat→Value} {L:Nat→List Pt} (h:A1w w sb 0 jv life win clock ro lv) (hr:A1q w lv L):
 A1w (w.setCell ⟨sb,0,none⟩ (.int .i32 1)) sb 1 jv life win clock ro lv∧A1q (w.setCell ⟨sb,0,none⟩ (.int .i32 1)) lv L∧Chg (One sb) w (w.setCell ⟨sb,0,none⟩ (.int .i32 1)):=
 ⟨h.s0 1,hr.chg ((Chg.refl (One sb) w).setAt rfl 0 _) (fun g hg e=>hr.ne h (by decide) (e ▸ hg)),(Chg.refl (One sb) w).setAt rfl 0 _⟩
theorem A1w.freed {w w':World} {sb:Nat} {mu:Int} {jv:Value} {life win clock:Int} {ro:Bool} {lv:Nat→Value} (h:A1w w sb 0 jv life win clock ro lv) (h':A1w w' sb mu jv life win clock ro lv) (hc:Chg (One sb) w w'):
 Chg (fun _=>False) w (w'.setCell ⟨sb,0,none⟩ (.int .i32 0)):=by
 have h2:=h'.s0 0
 have hc2:=hc.setAt (b:=sb) rfl 0 (.int .i32 0)
 refine ⟨hc2.os,hc2.tape,hc2.output,hc2.size,fun k hk _=>?_⟩
 by_cases e:k=sb
 ·subst e;unfold A1w at h h2;rw [h,h2]
 ·exact hc2.block k hk e
end Go.Proofs.YtodcnkbblippnaaGreatDoor
namespace Go.Proofs.YtodcnkbblippnaaGreatDoor
open Go.RowKit Go.MuLone
attribute [local go_sem ↓] Go.wp_at_zero Go.wp_at_succ A0p
section
variable {w:World} {sb:Nat} {jv:Value} {life win clock:Int} {ro:Bool} {lv:Nat→Value} {L:Nat→List Pt}
set_option maxRecDepth 100000 in
set_option maxHeartbeats 1000000 in
theorem A8i (w:World) (h:A1w w sb 0 jv life win clock ro lv):
 Calls Tryz.prog 38 #[.pointer (some ⟨sb,0,none⟩)] w fun e w'=>e=.returned (.agg #[.bool ro,.int .i64 clock])∧Chg (fun _=>False) w w':=by
 have hA:∀ o,A1w (w.alloc o) sb 0 jv life win clock ro lv:=fun o=>h.chg ((Chg.refl (fun _=>False) w).alloc o) (fun h=>h)
 have HA:=A0b hA
 have H:=A0b h
 have hlt:=h.lt
 clear hA h
 go_enter_defers Tryz.func38,Tryz.ntmps38
 go_wp2_with (go_at_call 61;refine (lock_free Tryz.muLib ⟨sb,0,none⟩ _ (HA.out _).c0 ((HA.out _).fz 0)).mono ?_;rintro e w' ⟨rfl,rfl⟩)
 have hw1:∀ o,A1w ((w.setCell ⟨sb,0,none⟩ (.int .i32 1)).alloc o) sb 1 jv life win clock ro lv∧Chg (One sb) w ((w.setCell ⟨sb,0,none⟩ (.int .i32 1)).alloc o):=fun o=>
  ⟨(H.out.s0 1).chg ((Chg.refl (fun _=>False) _).alloc o) (fun h=>h),((Chg.refl (One sb) w).setAt rfl 0 _).alloc o⟩
 obtain ⟨hb1,hc1⟩:=hw1 (.cells #[.bool false,.int .i64 0] 74)
 have hn1:((w.setCell ⟨sb,0,none⟩ (.int .i32 1)).alloc (.cells #[.bool false,.int .i64 0] 74)).heap[w.heap.size]?=some (.cells #[.bool false,.int .i64 0] 74 (0,0)):=by
  have:=heap_alloc_new (w.setCell ⟨sb,0,none⟩ (.int .i32 1)) (.cells #[.bool false,.int .i64 0] 74)
  simpa using this
 generalize ((w.setCell ⟨sb,0,none⟩ (.int .i32 1)).alloc (.cells #[.bool false,.int .i64 0] 74))=w1 at hb1 hc1 hn1 ⊢
 clear hw1
 have c4:=hb1.cK
 have c5:=hb1.cR
 have r0:w1.cell? ⟨w.heap.size,0,none⟩=some (.bool false):=by simp [World.cell?,hn1]
 have r1:w1.cell? ⟨w.heap.size,1,none⟩=some (.int .i64 0):=by simp [World.cell?,hn1]
 have f0:w1.frozen? ⟨w.heap.size,0,none⟩=false:=by simp [World.frozen?,hn1]
 have f1:w1.frozen? ⟨w.heap.size,1,none⟩=false:=by simp [World.frozen?,hn1]
 have hne:sb≠w.heap.size:=by omega
 have HB1:=A0b hb1
 have HC1:=A0b hc1
 clear hb1 hc1
 refine A2K (fun w'=>w'.cell? ⟨sb,5,none⟩=some (.int .i64 clock)∧w'.cell? ⟨sb,6,none⟩=some (.bool ro)) 11
  [(0,true),(1,true),(2,true),(3,true),(4,true),(5,true),(6,true),(7,true),(8,false),(9,true),(10,false)] (by kernel_rfl) (by kernel_rfl) ⟨c4,c5⟩ ?_
 iterate 8 (refine A0d (v:=?_) rfl (by rfl) ?_ ?_;rotate_left;(· (intro w' hS;(try dsimp only at hS);go_simp;try with_reducible rfl));(try simp only [Act.put,List.setIfInBounds_toArray,List.set_cons_zero,List.set_cons_succ,List.getElem_toArray,List.getElem_cons_zero,List.getElem_cons_succ]))
 refine A0i rfl (by rfl) (fun K hK=>?_)
 go_simp
 refine hK _ _ ⟨by simp [World.cell?_setCell_other,c4],by simp [World.cell?_setCell_other,c5]⟩ (fun hS=>?_)
 clear hK K hS
 (try simp only [Act.put,List.setIfInBounds_toArray,List.set_cons_zero,List.set_cons_succ,List.getElem_toArray,List.getElem_cons_zero,List.getElem_cons_succ])
 iterate 1 (refine A0d (v:=?_) rfl (by rfl) ?_ ?_;rotate_left;(· (intro w' hS;(try dsimp only at hS);go_simp;try with_reducible rfl));(try simp only [Act.put,List.setIfInBounds_toArray,List.set_cons_zero,List.set_cons_succ,List.getElem_toArray,List.getElem_cons_zero,List.getElem_cons_succ]))
 refine A0i rfl (by rfl) (fun K hK=>?_)
 go_simp
 refine hK _ _ ⟨by simp [World.cell?_setCell_other,c4],by simp [World.cell?_setCell_other,c5]⟩ (fun hS=>?_)
 clear hK K hS
 (try simp only [Act.put,List.setIfInBounds_toArray,List.set_cons_zero,List.set_cons_succ,List.getElem_toArray,List.getElem_cons_zero,List.getElem_cons_succ])
 refine A0k ?_
 simp only [List.drop_succ_cons,List.drop_zero]
 go_wp2
 rw [A0p]
 go_wp2
 generalize hW:(((w1.setCell ⟨w.heap.size,0,none⟩ (.bool false)).setCell ⟨w.heap.size,1,none⟩ (.int .i64 0)).setCell ⟨w.heap.size,0,none⟩ (.bool ro)).setCell ⟨w.heap.size,1,none⟩ (.int .i64 clock)=w2
 have hb2:A1w w2 sb 1 jv life win clock ro lv∧Chg (One sb) w w2∧w2.heap[w.heap.size]?=some (.cells #[.bool ro,.int .i64 clock] 74 (0,0)):=by
  subst hW
  refine ⟨?_,?_,?_⟩
  ·exact HB1.out.chg (S:=One w.heap.size) (((((Chg.refl (One w.heap.size) w1).setAt rfl 0 _).setAt rfl 1 _).setAt rfl 0 _).setAt rfl 1 _) hne
  ·have n:∀ (p:Addr),p.block=w.heap.size→p.block<w.heap.size→One sb p.block:=fun p e h=>by omega
   exact ((((HC1.out.setCell (n _ rfl) _).setCell (n _ rfl) _).setCell (n _ rfl) _).setCell (n _ rfl) _)
  ·have:=A0h (o:=1) (v:=.int .i64 clock) (A0h (o:=0) (v:=.bool ro) (A0h (o:=1) (v:=.int .i64 0) (A0h (o:=0) (v:=.bool false) hn1)))
   simpa using this
 refine leaves_cons (f:=62) (args:=#[.pointer (some ⟨sb,0,none⟩)]) (by simp) (by simp [go_sem]) ?_
 refine (unlock_deferred Tryz.muLib ⟨sb,0,none⟩ .returning _ ?_ ?_).mono ?_
 ·exact hb2.1.c0
 ·exact hb2.1.fz 0
 rintro e u' w'' ⟨rfl,rfl,rfl⟩
 have d0:w2.cell? ⟨w.heap.size,0,none⟩=some (.bool ro):=by simp [World.cell?,hb2.2.2]
 have d1:w2.cell? ⟨w.heap.size,1,none⟩=some (.int .i64 clock):=by simp [World.cell?,hb2.2.2]
 refine ⟨_,?_,rfl,H.out.freed (w':=w2.drew) hb2.1 hb2.2.1.drew⟩
 simp [results,Tryz.results38,go_sem,d0,d1]
set_option maxRecDepth 100000 in
set_option maxHeartbeats 1000000 in
theorem B2w (w:World) (k a b:Int) (h:A1w w sb 0 jv life win clock ro lv) (hk:¬ (0≤k∧k<8)):
 Calls Tryz.prog 37 #[.pointer (some ⟨sb,0,none⟩),.int .i64 k,.int .i64 a,.int .i64 b] w fun e w'=>e=.returned (.tuple #[.slice none 0 0,.int .i64 2])∧Chg (fun _=>False) w w':=by
 have H:=A0b h
 have IS:Hid (∀ w',Calls Tryz.prog 63 #[.int .i64 k] w' fun e w''=>e=.returned (.bool false)∧w'=w''):=fun w'=>by
  have:=A2H w' k
  rwa [decide_eq_false hk] at this
 have c0:=h.c0
 have f0:=h.fz 0
 clear h hk
 go_enter_defers Tryz.func37,Tryz.ntmps37
 go_wp2_with (first
  | (go_at_call 61;refine (lock_free Tryz.muLib ⟨sb,0,none⟩ _ c0 f0).mono ?_;rintro e w' ⟨rfl,rfl⟩)
  | (go_at_call 63;refine (IS.out _).mono ?_;rintro e w' ⟨rfl,rfl⟩))
 refine leaves_cons (f:=62) (args:=#[.pointer (some ⟨sb,0,none⟩)]) (by simp) (by simp [go_sem]) ?_
 refine (unlock_deferred Tryz.muLib ⟨sb,0,none⟩ .returning _ ?_ ?_).mono ?_
 ·exact (H.out.s0 1).c0
 ·exact (H.out.s0 1).fz 0
 rintro e u' w'' ⟨rfl,rfl,rfl⟩
 exact ⟨_,results_tmp2 rfl _ _ _,rfl,H.out.freed (H.out.s0 1) ((Chg.refl (One sb) w).setAt rfl 0 _)⟩
set_option maxRecDepth 100000 in
set_option maxHeartbeats 2000000 in
theorem A5v (w:World) (k:Nat) (a b:Int) (h:A1w w sb 0 jv life win clock ro lv) (hr:A1q w lv L) (hk:k<8) (hl:1≤life∧life≤4611686018427387904) (hc:A0P clock):
 Calls Tryz.prog 37 #[.pointer (some ⟨sb,0,none⟩),.int .i64 k,.int .i64 a,.int .i64 b] w fun e w'=>∃ v,e=.returned (.tuple #[v,.int .i64 0])∧
  A2r w' v (A1Z (L k) (max a (A0m clock life)) b)∧Chg (fun _=>False) w w'∧∀ g,v.ownBlock=some g→w.heap.size≤g:=by
 have IS:Hid (∀ w',Calls Tryz.prog 63 #[.int .i64 k] w' fun e w''=>e=.returned (.bool true)∧w'=w''):=fun w'=>by
  have:=A2H w' k
  rwa [decide_eq_true (by omega)] at this
 have c0:=h.c0
 have f0:=h.fz 0
 obtain ⟨hb1,hr1,hc1⟩:=h.locked hr
 have OL:∀ w',A1w w' sb 1 jv life win clock ro lv→_:=fun w' h'=>A4N w' sb clock life h'.c3 h'.cK hl hc
 obtain ⟨o,ho⟩:∃ o,A0m clock life=o:=⟨_,rfl⟩
 rw [ho] at OL ⊢
 have BE:∀ w',A1w w' sb 1 jv life win clock ro lv→A1q w' lv L→_:=fun w' h' h2'=>A9v w' sb (7+k) (L k) (lv k) (max a o) b (h2'.rowIn h' hk).toAt
 have hk1:(0:Int)≤(k:Int):=Int.natCast_nonneg _
 have hk2:(k:Int)<8:=by omega
 have H:=A0b h
 have HOL:=A0b OL
 have HBE:=A0b BE
 have HB1:=A0b hb1
 have HR1:=A0b hr1
 have HC1:=A0b hc1
 clear h hr OL BE hb1 hr1 hc1 ho hl hc hk
 go_enter_defers Tryz.func37,Tryz.ntmps37
 go_wp2_with (first
  | (go_at_call 61;refine (lock_free Tryz.muLib ⟨sb,0,none⟩ _ c0 f0).mono ?_;rintro e w' ⟨rfl,rfl⟩)
  | (go_at_call 63;refine (IS.out _).mono ?_;rintro e w' ⟨rfl,rfl⟩))
 generalize (w.setCell ⟨sb,0,none⟩ (.int .i32 1))=w1 at HB1 HR1 HC1 ⊢
 refine A2K (fun _=>True) 11
  [(0,true),(1,true),(2,true),(3,true),(4,true),(5,true),(6,true),(9,true),(7,false),(8,true),(10,false)] (by kernel_rfl) (by kernel_rfl) trivial ?_
 iterate 8 (refine A0d (v:=?_) rfl (by rfl) ?_ ?_;rotate_left;(· (intro w' hS;(try dsimp only at hS);go_simp;try with_reducible rfl));(try simp only [Act.put,List.setIfInBounds_toArray,List.set_cons_zero,List.set_cons_succ,List.getElem_toArray,List.getElem_cons_zero,List.getElem_cons_succ]))
 refine A0i rfl (by rfl) (fun K hK=>?_)
 go_simp
 refine (HOL.out w1.drew HB1.out).mono ?_
 rintro e w2 ⟨rfl,hc2⟩
 refine hK _ _ trivial (fun hS=>?_)
 have H2:Hid (A1w w2 sb 1 jv life win clock ro lv∧A1q w2 lv L∧Chg (One sb) w w2):=
  have hc2':Chg (fun _=>False) w1 w2:=⟨hc2.os,hc2.tape,hc2.output,hc2.size,hc2.block⟩
  ⟨HB1.out.chg hc2' (fun h=>h),HR1.out.chg hc2' (fun _ _ h=>h),HC1.out.trans hc2' fun _ h _=>h.elim⟩
 clear hK K hS hc2 HB1 HR1 HC1 HOL
 (try simp only [Act.put,List.setIfInBounds_toArray,List.set_cons_zero,List.set_cons_succ,List.getElem_toArray,List.getElem_cons_zero,List.getElem_cons_succ])
 (refine A0d (v:=?_) rfl (by rfl) ?_ ?_;rotate_left;(· (intro w' hS;(try dsimp only at hS);go_simp;try with_reducible rfl));(try simp only [Act.put,List.setIfInBounds_toArray,List.set_cons_zero,List.set_cons_succ,List.getElem_toArray,List.getElem_cons_zero,List.getElem_cons_succ]))
 refine A0i rfl (by rfl) (fun K hK=>?_)
 go_simp
 refine (HBE.out w2 H2.out.1 H2.out.2.1).mono ?_
 rintro e w3 ⟨v,rfl,hv,hc3,hf⟩
 refine hK _ _ trivial (fun hS=>?_)
 have H3:Hid (A1w w3 sb 1 jv life win clock ro lv∧Chg (One sb) w w3):=⟨H2.out.1.chg hc3 (fun h=>h),H2.out.2.2.trans hc3 fun _ h _=>h.elim⟩
 have HV:=A0b hv
 have HF:Hid (∀ g,v.ownBlock=some g→w.heap.size≤g):=fun g hg=>Nat.le_trans H2.out.2.2.size (hf g hg)
 have HL:Hid (∀ g,v.ownBlock=some g→g≠sb):=fun g hg e=>by
  have:=hf g hg;have:=H2.out.1.lt;omega
 clear hK K hS hc3 hf hv H2 HBE
 (try simp only [Act.put,List.setIfInBounds_toArray,List.set_cons_zero,List.set_cons_succ,List.getElem_toArray,List.getElem_cons_zero,List.getElem_cons_succ])
 refine A0k ?_
 simp only [List.drop_succ_cons,List.drop_zero]
 go_wp2
 rw [A0p]
 go_wp2
 refine leaves_cons (f:=62) (args:=#[.pointer (some ⟨sb,0,none⟩)]) (by simp) (by simp [go_sem]) ?_
 refine (unlock_deferred Tryz.muLib ⟨sb,0,none⟩ .returning _ ?_ ?_).mono ?_
 ·exact H3.out.1.c0
 ·exact H3.out.1.fz 0
 rintro e u' w'' ⟨rfl,rfl,rfl⟩
 exact ⟨_,results_tmp2 rfl _ _ _,v,rfl,A0a HV.out fun g hg=>Below.heap_setCell _ _ _ _ (fun e=>HL.out g hg (by simpa using e)),H.out.freed H3.out.1 H3.out.2,HF.out⟩
end
end Go.Proofs.YtodcnkbblippnaaGreatDoor
namespace Go.Proofs.YtodcnkbblippnaaGreatDoor
open Go.RowKit Go.MuLone
attribute [local go_sem ↓] Go.wp_at_zero Go.wp_at_succ A0p
def Own (sb:Nat) (lv:Nat→Value) (x:Nat):Prop:=x=sb∨A1C lv x
structure A5u (w w':World) (sb:Nat) (mu:Int) (jv:Value) (life win clock:Int) (ro:Bool) (lv lv':Nat→Value) (L':Nat→List Pt):Prop where
 blk:A1w w' sb mu jv life win clock ro lv'
 rows:A1q w' lv' L'
 chg:Chg (Own sb lv) w w'
 own:∀ g,A1C lv' g→A1C lv g∨w.heap.size≤g
section
variable {w w' w2:World} {sb:Nat} {mu mu':Int} {jv:Value} {life win clock clock':Int} {ro ro':Bool} {lv lv' lv2:Nat→Value} {L L' L2:Nat→List Pt}
theorem A5u.trans (h:A5u w w' sb mu jv life win clock ro lv lv' L') (h2:A5u w' w2 sb mu' jv life win clock' ro' lv' lv2 L2):A5u w w2 sb mu' jv life win clock' ro' lv lv2 L2:=
 ⟨h2.blk,h2.rows,h.chg.trans h2.chg fun x hx hlt=>by
  rcases hx with hx | hx
  ·exact .inl hx
  ·rcases h.own x hx with hy | hy
   ·exact .inr hy
   ·omega,fun g hg=>by
  rcases h2.own g hg with hx | hx
  ·exact h.own g hx
  ·exact .inr (Nat.le_trans h.chg.size hx)⟩
theorem A5u.of (hb:A1w w' sb mu jv life win clock ro lv) (hr:A1q w lv L) (hc:Chg (One sb) w w') (hn:¬ A1C lv sb):A5u w w' sb mu jv life win clock ro lv lv L:=
 ⟨hb,hr.chg hc (fun g hg e=>hn (by cases e;exact hg)),hc.mono fun _ _ h=>.inl h,fun _ h=>.inl h⟩
theorem A5u.same (h:A5u w w' sb mu jv life win clock ro lv lv' L') (hc:Chg (fun _=>False) w' w2):A5u w w2 sb mu jv life win clock ro lv lv' L':=
 ⟨h.blk.chg hc (fun h=>h),h.rows.chg hc (fun _ _ h=>h),h.chg.trans hc fun _ h _=>h.elim,h.own⟩
theorem A5u.cell (h:A5u w w' sb mu jv life win clock ro lv lv' L') (o:Nat) (u:Value) (hb:A1w (w'.setCell ⟨sb,o,none⟩ u) sb mu' jv life win clock' ro' lv'):A5u w (w'.setCell ⟨sb,o,none⟩ u) sb mu' jv life win clock' ro' lv lv' L':=
 ⟨hb,h.rows.chg ((Chg.refl (One sb) w').setAt rfl o u) (fun g hg e=>h.rows.ne h.blk (by decide) (by cases e;exact hg)),h.chg.setAt (.inl rfl) o u,h.own⟩
def A3r (L L':Nat→List Pt) (o:Int):Prop:=∀ i,i<8→L' i=L i∨L' i=(L i).drop (A1H (L i) o)
theorem B0P (c x:Int):min c (9223372036854775807 - x)+x=A0M c x:=by
 unfold A0M;split <;> omega
theorem A3n {c x:Int} (hc:A0P c) (hx:0≤x) (hx2:x≤9223372036854775807):A0P (A0M c x):=by
 obtain ⟨h1,h2⟩:=hc
 unfold A0M;split <;> constructor <;> omega
set_option maxRecDepth 100000 in
set_option maxHeartbeats 1000000 in
theorem B3k (w:World) (x:Int) (h:A1w w sb 0 jv life win clock ro lv) (hx:x<0):
 Calls Tryz.prog 27 #[.pointer (some ⟨sb,0,none⟩),.int .i64 x] w fun e w'=>e=.returned (.int .i64 3)∧Chg (fun _=>False) w w':=by
 have H:=A0b h
 have c0:=h.c0
 have f0:=h.fz 0
 clear h
 go_enter_defers Tryz.func27,Tryz.ntmps27
 go_wp2_with (go_at_call 61;refine (lock_free Tryz.muLib ⟨sb,0,none⟩ _ c0 f0).mono ?_;rintro e w' ⟨rfl,rfl⟩)
 refine leaves_cons (f:=62) (args:=#[.pointer (some ⟨sb,0,none⟩)]) (by simp) (by simp [go_sem]) ?_
 refine (unlock_deferred Tryz.muLib ⟨sb,0,none⟩ .returning _ ?_ ?_).mono ?_
 ·exact (H.out.s0 1).c0
 ·exact (H.out.s0 1).fz 0
 rintro e u' w'' ⟨rfl,rfl,rfl⟩
 exact ⟨_,results_tmp rfl _ _ _,rfl,H.out.freed (H.out.s0 1) ((Chg.refl (One sb) w).setAt rfl 0 _)⟩
set_option maxRecDepth 100000 in
set_option maxHeartbeats 2000000 in
theorem B2v (w:World) (x:Int) (h:A1w w sb 0 jv life win clock ro lv) (hr:A1q w lv L) (hx:0≤x∧x≤9223372036854775807) (hl:1≤life∧life≤4611686018427387904) (hc:A0P clock):
 Calls Tryz.prog 27 #[.pointer (some ⟨sb,0,none⟩),.int .i64 x] w fun e w'=>e=.returned (.int .i64 0)∧
  ∃ lv' L',A5u w w' sb 0 jv life win (A0M clock x) ro lv lv' L'∧A3r L L' (A0m (A0M clock x) life):=by
 obtain ⟨hx1,hx2⟩:=hx
 have hc':=A3n hc hx1 hx2
 have ew1:IntKind.i64.wrap (9223372036854775807 - x)=9223372036854775807 - x:=by simp [IntKind.wrap,IntKind.bits,IntKind.signed];omega
 have ew2:IntKind.i64.wrap (min clock (9223372036854775807 - x)+x)=A0M clock x:=by
  rw [B0P];obtain ⟨h1,h2⟩:=hc';simp [IntKind.wrap,IntKind.bits,IntKind.signed];omega
 have c0:=h.c0
 have f0:=h.fz 0
 obtain ⟨hb1,hr1,hc1⟩:=h.locked hr
 have hn:=hr.ne h (by decide)
 have d3:=hb1.cK
 have d3f:=hb1.fz 5
 have ht1:A5u w (w.setCell ⟨sb,0,none⟩ (.int .i32 1)) sb 1 jv life win clock ro lv lv L:=A5u.of hb1 hr hc1 hn
 have HT2:∀ c',Hid (A5u w ((w.setCell ⟨sb,0,none⟩ (.int .i32 1)).setCell ⟨sb,5,none⟩ (.int .i64 c')) sb 1 jv life win c' ro lv lv L):=fun c'=>ht1.cell 5 _ (hb1.sK c')
 obtain ⟨c',hcc⟩:∃ c',A0M clock x=c':=⟨_,rfl⟩
 rw [hcc] at ew2 hc' ⊢
 have HT:=HT2 c'
 have OL:∀ w' lv',A1w w' sb 1 jv life win c' ro lv'→_:=fun w' lv' h'=>A4N w' sb c' life h'.c3 h'.cK hl hc'
 obtain ⟨o,ho⟩:∃ o,A0m c' life=o:=⟨_,rfl⟩
 rw [ho] at OL ⊢
 have HOL:=A0b OL
 clear h hr hb1 hr1 hc1 ht1 HT2 hcc hc' hl hc ho OL hn hx2
 go_enter_defers Tryz.func27,Tryz.ntmps27
 go_wp2_with (go_at_call 61;refine (lock_free Tryz.muLib ⟨sb,0,none⟩ _ c0 f0).mono ?_;rintro e w' ⟨rfl,rfl⟩)
 clear c0 f0 d3 d3f ew1 ew2
 generalize ((w.setCell ⟨sb,0,none⟩ (.int .i32 1)).setCell ⟨sb,5,none⟩ (.int .i64 c'))=w1 at HT ⊢
 go_loopw [27] (fun iv wr=>∃ k:Nat,k≤8∧iv=.int .i64 k∧Hid (∃ lv' L',A5u w wr sb 1 jv life win c' ro lv lv' L'∧A3r L L' o∧∀ i,k≤i→L' i=L i)) (fun iv _=>8 - (intOf iv).toNat)
 case atStart=>exact ⟨0,by omega,rfl,lv,L,HT.out,fun i _=>.inl rfl,fun i _=>rfl⟩
 case round=>
  obtain ⟨k,hk,rfl,hH⟩:=hrel
  obtain ⟨w0,hw0⟩:∃ w0,w0=wr:=⟨_,rfl⟩
  subst hw0
  have k0:(0:Int)≤(k:Int):=Int.natCast_nonneg _
  by_cases hlk:k<8
  ·have k1:(k:Int)<8:=by omega
   have HH:Hid (∀ w2,(∃ lv' L',A5u w w2 sb 1 jv life win c' ro lv lv' L'∧A3r L L' o∧∀ i,k≤i→L' i=L i)→Calls Tryz.prog 72 #[.pointer (some ⟨sb,7+k,none⟩),.int .i64 o] w2 fun e w'=>e=.returned (.tuple #[])∧
    ∃ lv' L',A5u w w' sb 1 jv life win c' ro lv lv' L'∧A3r L L' o∧∀ i,k+1≤i→L' i=L i):=fun w2 ⟨lv',L',a1,a2,a3⟩=>by
    refine (B0H w2 sb (7+k) _ _ (by decide) _ _ o (a1.rows.rowIn a1.blk hlk)).mono ?_
    rintro e w3 ⟨rfl,L2,v2,hL2,hR⟩
    have hlen:L2.length≤(L' k).length:=by
     rcases hL2 with rfl | rfl
     ·exact Nat.le_refl _
     ·rw [List.length_drop];omega
    obtain ⟨b1,b2,b3,b4⟩:=a1.rows.turn a1.blk hlk hR rfl (Nat.lt_of_le_of_lt hlen (a1.rows.small k hlk))
    refine ⟨rfl,B3S lv' k v2,B3f L' k L2,a1.trans ⟨b1,b2,b3,b4⟩,fun i hi=>?_,fun i hi=>?_⟩
    ·unfold B3f
     by_cases e:i=k
     ·subst e
      simp only [if_true]
      rw [a3 i (Nat.le_refl _)] at hL2
      exact hL2
     ·simp only [e,if_false];exact a2 i hi
    ·unfold B3f
     rw [if_neg (by omega)];exact a3 i (by omega)
   have HO:Hid (∀ w2,(∃ lv' L',A5u w w2 sb 1 jv life win c' ro lv lv' L'∧A3r L L' o∧∀ i,k≤i→L' i=L i)→Calls Tryz.prog 71 #[.pointer (some ⟨sb,0,none⟩)] w2 fun e w'=>e=.returned (.int .i64 o)∧∃ lv' L',A5u w w' sb 1 jv life win c' ro lv lv' L'∧A3r L L' o∧∀ i,k≤i→L' i=L i):=fun w2 ⟨lv',L',a1,a2,a3⟩=>by
    refine (HOL.out w2 lv' a1.blk).mono ?_
    rintro e w3 ⟨rfl,hc⟩
    exact ⟨rfl,lv',L',a1.same hc,a2,a3⟩
   clear HOL HT
   go_wp2
   refine A2K (fun _=>True) 7
    [(0,true),(1,true),(2,true),(3,true),(4,true),(5,true),(6,false)] (by kernel_rfl) (by kernel_rfl) trivial ?_
   iterate 6 (refine A0d (v:=?_) rfl (by rfl) ?_ ?_;rotate_left;(· (intro w' hS;(try dsimp only at hS);go_simp;try with_reducible rfl));(try simp only [Act.put,List.setIfInBounds_toArray,List.set_cons_zero,List.set_cons_succ,List.getElem_toArray,List.getElem_cons_zero,List.getElem_cons_succ]))
   refine A0i rfl (by rfl) (fun K hK=>?_)
   go_simp
   refine (HO.out w0.drew (by obtain ⟨lv',L',a1,a2⟩:=hH.out;exact ⟨lv',L',a1.same ((Chg.refl _ w0).drew),a2⟩)).mono ?_
   rintro e w2 ⟨rfl,h2⟩
   refine hK _ _ trivial (fun hS=>?_)
   have H2:=A0b h2
   clear hK K hS h2 HO
   (try simp only [Act.put,List.setIfInBounds_toArray,List.set_cons_zero,List.set_cons_succ,List.getElem_toArray,List.getElem_cons_zero,List.getElem_cons_succ])
   refine A0k ?_
   simp only [List.drop_succ_cons,List.drop_zero]
   go_wp2_with (go_at_call 72;refine (HH.out _ H2.out).mono ?_;rintro e w3 ⟨rfl,h3⟩;have H3:=A0b h3;clear h3)
   rw [A0p]
   go_wp2
   go_roundw
   case rel=>exact ⟨k+1,by omega,by go_num,H3.out⟩
   case measure=>simp [intOf];omega
  ·obtain rfl:k=8:=by omega
   clear HOL HT
   go_wp2
   refine leaves_cons (f:=62) (args:=#[.pointer (some ⟨sb,0,none⟩)]) (by simp) (by simp [go_sem]) ?_
   obtain ⟨lv',L',a1,a2,-⟩:=hH.out
   refine (unlock_deferred Tryz.muLib ⟨sb,0,none⟩ .returning _ ?_ ?_).mono ?_
   ·exact a1.blk.c0
   ·exact a1.blk.fz 0
   rintro e u' w'' ⟨rfl,rfl,rfl⟩
   exact ⟨_,results_tmp rfl _ _ _,rfl,lv',L',a1.cell 0 _ (a1.blk.s0 0),a2⟩
end
end Go.Proofs.YtodcnkbblippnaaGreatDoor
