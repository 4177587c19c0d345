/-
  The statement WritesUptoCardSaid is proved: the law Writes answers true for every setting and every script of at most 1048576 bytes; there is no other condition.
  Part 10 of 33.
-/
import Derived.Test.YtodcnkbblippnaaGreatDoorPart09
import Derived.StillTailTactics
import Derived.StillTactics
import Derived.Laws.Externs
namespace Go.Proofs.YtodcnkbblippnaaGreatDoor
open Go.RowKit
attribute [local go_sem ↓] Go.wp_at_zero Go.wp_at_succ
theorem Tryz.infoPt2:(Tryz.prog.info? 70).map (fun i=>(i.zero,i.size,i.bytes))=some (some (.agg #[.int .i64 0,.int .i64 0]),2,16):=by kernel_rfl
theorem B2B {l:List Pt} (hs:A1z l) (t:Int):A1H l (t+1)=A1H l t+(if A6N l t then 1 else 0):=by
 have hle:=A4p l t
 by_cases h:A6N l t=true
 ·rw [if_pos h]
  unfold A6N at h
  by_cases hl:A1H l t<l.length
  ·rw [List.getElem?_eq_getElem hl] at h
   simp at h
   refine A3l hs (by omega) (fun i hi hlt=>?_) fun i hi hge=>?_
   ·by_cases e:i=A1H l t
    ·subst e;omega
    ·have:=A4S (show i<A1H l t by omega) hi;omega
   ·have:=List.pairwise_iff_getElem.1 hs (A1H l t) i hl hi (by omega)
    rw [h] at this;omega
  ·rw [List.getElem?_eq_none (by omega)] at h;cases h
 ·rw [if_neg h,Nat.add_zero]
  refine A3l hs hle (fun i hi hlt=>?_) fun i hi hge=>?_
  ·have:=A4S hlt hi;omega
  ·have h2:=A5V hs hge hi
   by_cases e:(l[i]'hi).1=t
   ·exfalso
    apply h
    by_cases e2:i=A1H l t
    ·subst e2;unfold A6N;rw [List.getElem?_eq_getElem hi];simpa using e
    ·have:=List.pairwise_iff_getElem.1 hs (A1H l t) i (by omega) hi (by omega)
     have:=A5V hs (Nat.le_refl (A1H l t)) (show A1H l t<l.length by omega)
     omega
   ·omega
theorem B2H {l:List Pt} (hs:A1z l) {a b:Int} (h:a≤b):A1H l a≤A1H l b:=by
 apply Decidable.byContradiction
 intro hn
 have hl:=A4p l a
 have h1:=A4S (show A1H l b<A1H l a by omega) (by omega)
 have h2:=A5V hs (Nat.le_refl (A1H l b)) (by omega)
 omega
def A1Z (l:List Pt) (a b:Int):List Pt:=l.filter fun x=>decide (a≤x.1) && decide (x.1≤b)
theorem B3T {l:List Pt} (hs:A1z l) (a b:Int):A1Z l a b=(l.take (A1H l b+(if A6N l b then 1 else 0))).drop (A1H l a):=by
 rw [← B2B hs b,← A7W hs a (b+1)]
 unfold A1Z
 congr 1
 funext x
 have:decide (x.1≤b)=decide (x.1<b+1):=by
  apply Bool.eq_iff_iff.2;simp;omega
 rw [this]
set_option maxRecDepth 100000 in
set_option maxHeartbeats 2000000 in
theorem A9v (w:World) (rb ro:Nat) (L:List Pt) (lv:Value) (a b:Int) (h:B3W w rb ro L lv):
 Calls Tryz.prog 80 #[.pointer (some ⟨rb,ro,none⟩),.int .i64 a,.int .i64 b] w fun e w'=>∃ v,e=.returned v∧A2r w' v (A1Z L a b)∧Chg (fun _=>False) w w'∧∀ g,v.ownBlock=some g→w.heap.size≤g:=by
 have H:=A0b h
 have hc:=h.cell
 obtain ⟨ad,cap,rfl,h1,h2,h3,h4,h5⟩:=A0g h.row
 unfold maxLen at h2
 have HA:=A0b h3
 have hbl:=World.block_lt_of_cell? w _ hc
 have HC:Hid (∀ W,Chg (fun _=>False) w W→B3W W rb ro L (.slice ad L.length cap)):=fun W hW=>
  ⟨(World.cell?_of_block (hW.block rb hbl (fun h=>h))).trans H.out.cell,A0a H.out.row fun g hg=>hW.block g (A0c H.out.row hg) (fun h=>h),H.out.sorted,H.out.small⟩
 obtain ⟨i0,hi,hz0,hz1,hz2⟩:=info_parts Tryz.infoPt2
 have hsm:=h.small
 have H4:=A0b h4
 have H5:=A0b h5
 clear h h3 h4 h5
 by_cases hab:b<a
 ·have q:Hid (A1Z L a b = []):=by
   unfold Hid A1Z
   rw [List.filter_eq_nil_iff]
   intro x _
   simp;omega
  go_enter Tryz.func80,Tryz.ntmps80
  go_wp2
  go_ret
  exact ⟨_,rfl,by rw [q.out];exact World.ownsRow_nil _ _ _ _,Chg.refl _ _,by simp [Value.ownBlock]⟩
 ·have hab':a≤b:=by omega
  have hpe:=B3T H.out.sorted a b
  have hm:=B2H H.out.sorted hab'
  have hle:=A4p L b
  have hhas:A6N L b=true→A1H L b<L.length:=fun hh=>by
   unfold A6N at hh
   apply Decidable.byContradiction
   intro hn
   rw [List.getElem?_eq_none (by omega)] at hh;cases hh
  obtain ⟨i,hiq⟩:∃ i,A1H L a=i:=⟨_,rfl⟩
  obtain ⟨j,hjq⟩:∃ j,A1H L b=j:=⟨_,rfl⟩
  obtain ⟨hs,hsq⟩:∃ hs,A6N L b=hs:=⟨_,rfl⟩
  rw [hiq,hjq] at hm
  rw [hjq] at hle
  rw [hsq,hjq] at hhas
  rw [hiq,hjq,hsq] at hpe
  have FA:Hid (∀ W,Chg (fun _=>False) w W→Calls Tryz.prog 116 #[.pointer (some ⟨rb,ro,none⟩),.int .i64 a] W fun e w'=>∃ x,e=.returned (.tuple #[.int .i64 i,.bool x])∧Chg (fun _=>False) W w'):=fun W hW=>
   (A5s W rb ro L _ a (HC.out W hW)).mono (by rintro e w' ⟨rfl,h⟩;rw [hiq];exact ⟨_,rfl,h⟩)
  have FB:Hid (∀ W,Chg (fun _=>False) w W→Calls Tryz.prog 116 #[.pointer (some ⟨rb,ro,none⟩),.int .i64 b] W fun e w'=>e=.returned (.tuple #[.int .i64 j,.bool hs])∧Chg (fun _=>False) W w'):=fun W hW=>
   (A5s W rb ro L _ b (HC.out W hW)).mono (by rintro e w' ⟨rfl,h⟩;rw [hjq,hsq];exact ⟨rfl,h⟩)
  have HPE:=A0b hpe
  have SRC:Hid (∀ W (n:Nat),Chg (fun _=>False) w W→i≤n→n≤L.length→n=j+(if hs then 1 else 0)→∀ v,(v=.slice (Option.map (fun x=>x.add (i*2)) ad) (n - i) (cap - i)∨(n=i∧∃ x c,v=.slice x 0 c))→Src Tryz.prog 2 66 v (n - i) (A0n (A1Z L a b)) W∧(A1Z L a b).length=n - i):=by
   intro W n hW hin hnl hn v hv
   have hlen:(A1Z L a b).length=n - i:=by rw [HPE.out,← hn,List.length_drop,List.length_take];omega
   have hrow:=(HC.out W hW).row
   refine ⟨?_,hlen⟩
   have hat:∀ g,ad=some ⟨g,0,none⟩→∀ (k:Nat) u,(A0n (A1Z L a b))[k]?=some u→W.cell? ⟨g,i*2+k,none⟩=some u:=by
    intro g hg k u hk
    subst hg
    refine A0j hrow (g:=g) rfl ?_
    rw [HPE.out,← hn,← A3m,← A4j,List.getElem?_drop,List.getElem?_take] at hk
    split at hk
    ·exact hk
    ·cases hk
   have hnil:n - i=0→∀ x c,Src Tryz.prog 2 66 (.slice x 0 c) 0 (A0n (A1Z L a b)) W:=by
    intro h0 x c
    have:A1Z L a b = []:=List.eq_nil_of_length_eq_zero (by omega)
    rw [this]
    cases x with
    | none=>exact Src.ofNil W Tryz.underlying66 c
    | some y=>exact Src.ofSlice W Tryz.underlying66 _ 0 c [] rfl (by simp) (by simp)
   rcases hv with rfl | ⟨hni,x,c,rfl⟩
   ·cases ad with
    | none=>
     have:=(H4.out rfl).1
     have h0:n - i=0:=by omega
     rw [h0];exact hnil h0 _ _
    | some x=>
     obtain ⟨g,rfl⟩:=H5.out x rfl
     refine Src.ofSlice W Tryz.underlying66 _ _ _ _ (by rw [A0C,hlen]) (fun k u hk=>?_) (A1E _)
     have hx:Addr.add (Addr.add ⟨g,0,none⟩ (i*2)) k=⟨g,i*2+k,none⟩:=by
      unfold Addr.add
      by_cases h1:i*2=0 <;> by_cases h2:k=0 <;> simp [h1,h2]
     rw [hx];exact hat g rfl k u hk
   ·have h0:n - i=0:=by omega
    rw [h0]
    exact hnil h0 x c
  have HLEN:Hid ((A1Z L a b).length=j+(if hs then 1 else 0) - i):=by
   unfold Hid
   rw [hpe,List.length_drop,List.length_take]
   cases hs with
   | true=>have:=hhas rfl;simp;omega
   | false=>simp;omega
  clear hpe hiq hjq hsq
  have j0:(0:Int)≤(j:Int):=Int.natCast_nonneg _
  have iz:(0:Int)≤(i:Int):=Int.natCast_nonneg _
  have hij:(i:Int)≤(j:Int):=by omega
  have hjc:(j:Int)≤(cap:Int):=by omega
  have hic:(i:Int)≤(cap:Int):=by omega
  have hbyt:(0+(j+1 - i))*16≤140737488355328:=by omega
  have FIN:Hid (∀ (W w3:World) (n:Nat) (b3:Option Addr) (cap3:Nat),Chg (fun _=>False) w W→(A1Z L a b).length=n→App W w3 70 2 (.slice none 0 0) (.slice b3 (0+n) cap3) (0+n) ([] ++ A0n (A1Z L a b))→A2r w3 (.slice b3 n cap3) (A1Z L a b)∧Chg (fun _=>False) w w3∧∀ g,(Value.slice b3 n cap3).ownBlock=some g→w.heap.size≤g):=by
   intro W w3 n b3 cap3 hW hn hA
   refine ⟨?_,hW.trans hA.chgNil fun _ h _=>h,fun g hg=>?_⟩
   ·have:=hA.own
    unfold A2r
    rw [hn];simpa using this
   ·have:=hA.fresh g (by simpa using hg)
    have:=hW.size
    omega
  cases hs with
  | false=>
   by_cases hci:cap=i
   ·obtain rfl:i=cap:=hci.symm
    obtain rfl:j=i:=by omega
    have SR0:Hid (∀ W x c,Chg (fun _=>False) w W→Src Tryz.prog 2 66 (.slice x 0 c) 0 (A0n (A1Z L a b)) W∧(A1Z L a b).length=0):=fun W x c hW=>by
     have:=SRC.out W j hW (Nat.le_refl _) (by omega) (by simp) (.slice x 0 c) (.inr ⟨rfl,x,c,rfl⟩)
     rwa [Nat.sub_self] at this
    clear SRC HPE HLEN
    go_enter Tryz.func80,Tryz.ntmps80
    go_wp2_with (fail)
    refine (FA.out _ (Chg.refl _ _)).mono ?_
    rintro e w1 ⟨x,rfl,k1⟩
    have K1:=A0b k1
    clear k1
    go_wp2_with (fail)
    refine (FB.out _ K1.out).mono ?_
    rintro e w2 ⟨rfl,k2⟩
    have K2:Hid (Chg (fun _=>False) w w2):=K1.out.trans k2 fun _ h _=>h
    have c2:=(HC.out _ K2.out).cell
    clear k2
    go_wp2_with (at_builtin;refine A0o rfl (.const (.slice none 0 0)) (.tmp 35) 66 66 rfl 70 i0 _ 2 16 Tryz.underlying66 hi hz0 hz1 hz2 rfl (by decide) (.slice none 0 0) 0 [] (by rfl) (World.ownsRow_nil _ 0 70 2) _ 0 _ (by rfl) (SR0.out _ _ _ K2.out).1 (by omega) ?_;intro b3 cap3 w3 hA;have hA3:=A0b (FIN.out _ w3 _ b3 cap3 K2.out (SR0.out _ none 0 K2.out).2 hA);clear hA)
    go_ret
    exact ⟨_,rfl,hA3.out.1,hA3.out.2.1,hA3.out.2.2⟩
   ·skip
    go_enter Tryz.func80,Tryz.ntmps80
    go_wp2_with (fail)
    refine (FA.out _ (Chg.refl _ _)).mono ?_
    rintro e w1 ⟨x,rfl,k1⟩
    have K1:=A0b k1
    clear k1
    go_wp2_with (fail)
    refine (FB.out _ K1.out).mono ?_
    rintro e w2 ⟨rfl,k2⟩
    have K2:Hid (Chg (fun _=>False) w w2):=K1.out.trans k2 fun _ h _=>h
    have c2:=(HC.out _ K2.out).cell
    clear k2
    go_wp2_with (at_builtin;refine A0o rfl (.const (.slice none 0 0)) (.tmp 35) 66 66 rfl 70 i0 _ 2 16 Tryz.underlying66 hi hz0 hz1 hz2 rfl (by decide) (.slice none 0 0) 0 [] (by rfl) (World.ownsRow_nil _ 0 70 2) _ (j - i) _ (by rfl) (SRC.out _ j K2.out (by omega) (by omega) (by simp) _ (.inl rfl)).1 (by omega) ?_;intro b3 cap3 w3 hA;have hA3:=A0b (FIN.out _ w3 _ b3 cap3 K2.out (SRC.out _ j K2.out (by omega) (by omega) (by simp) _ (.inl rfl)).2 hA);clear hA)
    go_ret
    exact ⟨_,rfl,hA3.out.1,hA3.out.2.1,hA3.out.2.2⟩
  | true=>
   have hjl:j<L.length:=hhas rfl
   have hjc':(j:Int)+1≤(cap:Int):=by omega
   have hij':(i:Int)≤(j:Int)+1:=by omega
   have hjt:((j:Int)+1).toNat=j+1:=by omega
   by_cases hci:cap=i
   ·exfalso;omega
   ·skip
    go_enter Tryz.func80,Tryz.ntmps80
    go_wp2_with (fail)
    refine (FA.out _ (Chg.refl _ _)).mono ?_
    rintro e w1 ⟨x,rfl,k1⟩
    have K1:=A0b k1
    clear k1
    go_wp2_with (fail)
    refine (FB.out _ K1.out).mono ?_
    rintro e w2 ⟨rfl,k2⟩
    have K2:Hid (Chg (fun _=>False) w w2):=K1.out.trans k2 fun _ h _=>h
    have c2:=(HC.out _ K2.out).cell
    clear k2
    go_wp2_with (at_builtin;refine A0o rfl (.const (.slice none 0 0)) (.tmp 35) 66 66 rfl 70 i0 _ 2 16 Tryz.underlying66 hi hz0 hz1 hz2 rfl (by decide) (.slice none 0 0) 0 [] (by rfl) (World.ownsRow_nil _ 0 70 2) _ ((j+1) - i) _ (by rfl) (SRC.out _ (j+1) K2.out (by omega) (by omega) (by simp) _ (.inl rfl)).1 (by omega) ?_;intro b3 cap3 w3 hA;have hA3:=A0b (FIN.out _ w3 _ b3 cap3 K2.out (SRC.out _ (j+1) K2.out (by omega) (by omega) (by simp) _ (.inl rfl)).2 hA);clear hA)
    go_ret
    exact ⟨_,rfl,hA3.out.1,hA3.out.2.1,hA3.out.2.2⟩
end Go.Proofs.YtodcnkbblippnaaGreatDoor
namespace Go.Proofs.YtodcnkbblippnaaGreatDoor
open Go.RowKit
attribute [local go_sem ↓] Go.wp_at_zero Go.wp_at_succ
structure A6m (w:World) (b o:Nat) (cs:Array Value) (T:Nat) (L:List Pt) (lv:Value):Prop where
 blk:w.heap[b]?=some (.cells cs T (0,0))
 at_:cs[o]?=some lv
 row:A2r w lv L
 sorted:A1z L
 small:L.length<1099511627776
theorem A6m.toAt {w:World} {b o:Nat} {cs:Array Value} {T:Nat} {L:List Pt} {lv:Value} (h:A6m w b o cs T L lv):B3W w b o L lv:=
 ⟨by simp [World.cell?,h.blk,h.at_],h.row,h.sorted,h.small⟩
theorem A6m.chg {w w':World} {b o:Nat} {cs:Array Value} {T:Nat} {L:List Pt} {lv:Value} (h:A6m w b o cs T L lv) (hc:Chg (fun _=>False) w w'):A6m w' b o cs T L lv:=
 ⟨(hc.block b (lt_of_block h.blk) (fun h=>h)).trans h.blk,h.at_,A0a h.row fun g hg=>hc.block g (A0c h.row hg) (fun h=>h),h.sorted,h.small⟩
structure A6B (w w':World) (b o:Nat) (cs:Array Value) (T:Nat) (lv:Value) (L':List Pt) (lv':Value):Prop where
 row:A6m w' b o (cs.setIfInBounds o lv') T L' lv'
 chg:Chg (fun k=>k=b∨lv.ownBlock=some k) w w'
 own:∀ g,lv'.ownBlock=some g→lv.ownBlock=some g∨w.heap.size≤g
set_option maxRecDepth 100000 in
set_option maxHeartbeats 2000000 in
theorem B0H (w:World) (rb ro:Nat) (cs:Array Value) (T:Nat) (hT:T≠70) (L:List Pt) (lv:Value) (t:Int) (h:A6m w rb ro cs T L lv):
 Calls Tryz.prog 72 #[.pointer (some ⟨rb,ro,none⟩),.int .i64 t] w fun e w'=>e=.returned (.tuple #[])∧∃ L' lv',(L'=L∨L'=L.drop (A1H L t))∧A6B w w' rb ro cs T lv L' lv':=by
 have H:=A0b h
 obtain ⟨ad,cap,rfl,h1,h2,h3,h4,h5⟩:=A0g h.row
 unfold maxLen at h2
 have HA:=A0b h3
 have H4:=A0b h4
 have H5:=A0b h5
 obtain ⟨i0,hi,hz0,hz1,hz2⟩:=info_parts Tryz.infoPt2
 have hsm:=h.small
 have hle:=A4p L t
 obtain ⟨i,hiq⟩:∃ i,A1H L t=i:=⟨_,rfl⟩
 rw [hiq] at hle
 have FA:Hid (Calls Tryz.prog 116 #[.pointer (some ⟨rb,ro,none⟩),.int .i64 t] w fun e w'=>∃ x,e=.returned (.tuple #[.int .i64 i,.bool x])∧Chg (fun _=>False) w w'):=
  (A5s w rb ro L _ t h.toAt).mono (by rintro e w' ⟨rfl,h⟩;rw [hiq];exact ⟨_,rfl,h⟩)
 have HIQ:=A0b hiq
 clear h h3 h4 h5 hiq
 have iz:(0:Int)≤(i:Int):=Int.natCast_nonneg _
 have hic:(i:Int)≤(L.length:Int):=by omega
 have hlc:(L.length:Int)≤(cap:Int):=by omega
 by_cases hgt:((L.length:Int) / 2<(i:Int))
 ·
  have SRC:Hid (∀ W,Chg (fun _=>False) w W→∀ v m,(v=.slice (Option.map (fun x=>x.add (i*2)) ad) m (cap - i)∧m=L.length - i∨(L.length=i∧m=0∧∃ x c,v=.slice x 0 c))→Src Tryz.prog 2 66 v m (A0n (L.drop i)) W):=by
   intro W hW v m hv
   have hrow:=(H.out.chg hW).row
   have hnil:L.length - i=0→∀ x c,Src Tryz.prog 2 66 (.slice x 0 c) 0 (A0n (L.drop i)) W:=by
    intro h0 x c
    have:L.drop i = []:=List.drop_of_length_le (by omega)
    rw [this]
    cases x with
    | none=>exact Src.ofNil W Tryz.underlying66 c
    | some y=>exact Src.ofSlice W Tryz.underlying66 _ 0 c [] rfl (by simp) (by simp)
   rcases hv with ⟨rfl,rfl⟩ | ⟨hni,rfl,x,c,rfl⟩
   ·cases ad with
    | none=>
     have:=(H4.out rfl).1
     have h0:L.length - i=0:=by omega
     rw [h0];exact hnil h0 _ _
    | some x=>
     obtain ⟨g,rfl⟩:=H5.out x rfl
     refine Src.ofSlice W Tryz.underlying66 _ _ _ _ (by rw [A0C,List.length_drop]) (fun k u hk=>?_) (A1E _)
     have hx:Addr.add (Addr.add ⟨g,0,none⟩ (i*2)) k=⟨g,i*2+k,none⟩:=by
      unfold Addr.add
      by_cases h1:i*2=0 <;> by_cases h2:k=0 <;> simp [h1,h2]
     rw [hx]
     refine A0j hrow (g:=g) rfl ?_
     rw [← A3m,List.getElem?_drop] at hk;exact hk
   ·exact hnil (by omega) x c
  have FIN:Hid (∀ (W w3:World) (m:Nat) (b3:Option Addr) (cap3:Nat),Chg (fun _=>False) w W→m=L.length - i→App W w3 70 2 (.slice none 0 0) (.slice b3 (0+m) cap3) (0+m) ([] ++ A0n (L.drop i))→
   w3.cell? ⟨rb,ro,none⟩=some (.slice ad L.length cap)∧w3.frozen? ⟨rb,ro,none⟩=false∧A6B w (w3.setCell ⟨rb,ro,none⟩ (.slice b3 m cap3)) rb ro cs T (.slice ad L.length cap) (L.drop i) (.slice b3 m cap3)):=by
   intro W w3 m b3 cap3 hW hm hA
   subst hm
   have hb3:w3.heap[rb]?=some (.cells cs T (0,0)):=(hA.chgNil.block rb (lt_of_block (H.out.chg hW).blk) (fun h=>h)).trans (H.out.chg hW).blk
   have hrow:A2r w3 (.slice b3 (L.length - i) cap3) (L.drop i):=by
    have:=hA.own
    unfold A2r
    rw [List.length_drop];simpa using this
   have hw3:Chg (fun _=>False) w w3:=hW.trans hA.chgNil fun _ h _=>h
   refine ⟨by simp [World.cell?,hb3,H.out.at_],by simp [World.frozen?,hb3],⟨⟨A0h hb3,?_,?_,H.out.sorted.drop i,by rw [List.length_drop];omega⟩,?_,?_⟩⟩
   ·have hlt:ro<cs.size:=(Array.getElem?_eq_some_iff.1 H.out.at_).1
    simp [hlt]
   ·refine A0a hrow fun g hg=>?_
    have hne:g≠rb:=fun e=>by
     obtain ⟨c,hh⟩:=A0f hrow hg
     subst e
     rw [hb3] at hh;cases hh;exact hT rfl
    exact Below.heap_setCell _ _ _ _ (fun e=>hne (by simpa using e))
   ·exact (hw3.mono (fun _ _ h=>h.elim)).setAt (.inl rfl) ro _
   ·intro g hg
    right
    have:=hA.fresh g (by simpa using hg)
    have:=hW.size
    omega
  by_cases hci:cap=i
  ·obtain rfl:i=cap:=hci.symm
   have hli:L.length=i:=by omega
   have HLI:=A0b hli
   clear hli
   go_enter Tryz.func72,Tryz.ntmps72
   go_wp2_with (fail)
   refine FA.out.mono ?_
   rintro e w1 ⟨x,rfl,k1⟩
   have K1:=A0b k1
   have c2:=(H.out.chg k1).toAt.cell
   clear k1
   go_wp2_with (at_builtin;refine A0o rfl (.const (.slice none 0 0)) (.tmp 26) 66 66 rfl 70 i0 _ 2 16 Tryz.underlying66 hi hz0 hz1 hz2 rfl (by decide) (.slice none 0 0) 0 [] (by rfl) (World.ownsRow_nil _ 0 70 2) _ 0 _ (by rfl) (SRC.out _ K1.out _ 0 (.inr ⟨HLI.out,rfl,_,_,rfl⟩)) (by omega) ?_;intro b3 cap3 w3 hA;have hA3:=A0b (FIN.out _ w3 0 b3 cap3 K1.out (by have:=HLI.out;omega) hA);have y1:=hA3.out.1;have y2:=hA3.out.2.1;clear hA)
   go_end0
   refine ⟨rfl,_,.slice b3 0 cap3,.inr rfl,?_⟩
   rw [HIQ.out]
   have:=hA3.out.2.2
   simpa using this
  ·go_enter Tryz.func72,Tryz.ntmps72
   go_wp2_with (fail)
   refine FA.out.mono ?_
   rintro e w1 ⟨x,rfl,k1⟩
   have K1:=A0b k1
   have c2:=(H.out.chg k1).toAt.cell
   clear k1
   go_wp2_with (at_builtin;refine A0o rfl (.const (.slice none 0 0)) (.tmp 26) 66 66 rfl 70 i0 _ 2 16 Tryz.underlying66 hi hz0 hz1 hz2 rfl (by decide) (.slice none 0 0) 0 [] (by rfl) (World.ownsRow_nil _ 0 70 2) _ (L.length - i) _ (by rfl) (SRC.out _ K1.out _ _ (.inl ⟨rfl,rfl⟩)) (by omega) ?_;intro b3 cap3 w3 hA;have hA3:=A0b (FIN.out _ w3 _ b3 cap3 K1.out rfl hA);have y1:=hA3.out.1;have y2:=hA3.out.2.1;clear hA)
   go_end0
   refine ⟨rfl,_,.slice b3 (L.length - i) cap3,.inr rfl,?_⟩
   rw [HIQ.out]
   have:=hA3.out.2.2
   simpa using this
 ·have hgt':(i:Int)≤(L.length:Int) / 2:=by omega
  go_enter Tryz.func72,Tryz.ntmps72
  go_wp2_with (fail)
  refine FA.out.mono ?_
  rintro e w1 ⟨x,rfl,k1⟩
  have K1:=A0b k1
  have c2:=(H.out.chg k1).toAt.cell
  clear k1
  go_wp2
  go_end0
  have hR:=H.out.chg K1.out
  refine ⟨rfl,L,_,.inl rfl,⟨?_,K1.out.mono (fun _ _ h=>h.elim),fun g hg=>.inl hg⟩⟩
  have hset:cs.setIfInBounds ro (.slice ad L.length cap)=cs:=by
   obtain ⟨hlt,he⟩:=Array.getElem?_eq_some_iff.1 H.out.at_
   apply Array.ext_getElem?
   intro k
   by_cases hk:ro=k
   ·subst hk;simp [hlt,he]
   ·rw [Array.getElem?_setIfInBounds_ne hk]
  rw [hset]
  exact hR
end Go.Proofs.YtodcnkbblippnaaGreatDoor
namespace Go.Proofs.YtodcnkbblippnaaGreatDoor
open Go.RowKit
attribute [local go_sem ↓] Go.wp_at_zero Go.wp_at_succ
theorem A1W {P:Program} (w:World) {ops:Array Oper} {rest:List Oper} {o:Oper} {a:Act} {Q:Exit→Act→World→Prop} (hgd:o.guard=none) (d s:Operand) (t t':TypeId)
 (ho:o.op=.call { callee:=.builtin .copy,args:=#[d,s],argTypes:=#[t,t'] }) (v u:Value) (hd:a.eval d=v) (hs:a.eval s=u) {v':Value} {w':World}
 (hr:(Builtin.copy_ #[t,t'] o.type #[v,u]).run P w=.ok v' w') (h:wpList P ops Q rest (a.put o.dst v') w'):wpList P ops Q (o :: rest) a w:=
 wpList_plain hgd fun _ hK=>by
  unfold Oper.wp execOp
  simp only [ho,resolve,invoke,builtin,Sem.run_bind,Sem.run_pure,Result.andThen_ok,List.map_toArray,List.map_cons,List.map_nil,hd,hs,hr]
  exact hK _ _ h
def A1L (cur:List Value) (L:List Pt) (i:Nat):List Value:=cur.take ((i+1)*2) ++ A0n (L.drop i) ++ cur.drop ((i+1)*2+(A0n (L.drop i)).length)
def A1S (c:List Value) (i:Nat) (t v:Int):List Value:=c.take (i*2) ++ [Value.int .i64 t,Value.int .i64 v] ++ c.drop (i*2+2)
theorem B2S (L:List Pt) (i:Nat) (t v:Int):A0n (L.take i ++ (t,v):: L.drop i)=A0n (L.take i) ++ [Value.int .i64 t,Value.int .i64 v] ++ A0n (L.drop i):=by
 rw [A1Q];simp [A0n]
theorem A5l (cur:List Value) (L:List Pt) (i:Nat) (hi:i≤L.length) (hlen:(L.length+1)*2≤cur.length):(A1L cur L i).length=cur.length:=by
 have hpl:(A0n (L.drop i)).length=(L.length - i)*2:=by rw [A0C,List.length_drop]
 unfold A1L
 simp only [List.length_append,List.length_take,List.length_drop,hpl];omega
theorem A3G (c:List Value) (i:Nat) (t v:Int) (h:i*2+2≤c.length):(A1S c i t v).length=c.length:=by
 unfold A1S
 simp only [List.length_append,List.length_take,List.length_drop,List.length_cons,List.length_nil];omega
theorem B1F (L:List Pt) (i:Nat) (hi:i≤L.length) (t v:Int) (cur:List Value) (hcur:cur.take (i*2)=A0n (L.take i)) (hlen:(L.length+1)*2≤cur.length):
 (A1S (A1L cur L i) i t v).take ((L.length+1)*2)=A0n (L.take i ++ (t,v):: L.drop i):=by
 have hpl:(A0n (L.drop i)).length=(L.length - i)*2:=by rw [A0C,List.length_drop]
 have h1:(cur.take ((i+1)*2)).length=(i+1)*2:=by rw [List.length_take];omega
 have e1:(A1L cur L i).take (i*2)=A0n (L.take i):=by
  unfold A1L
  rw [List.append_assoc,List.take_append_of_le_length (by rw [h1];omega),List.take_take,show min (i*2) ((i+1)*2)=i*2 from by omega,hcur]
 have e2:(A1L cur L i).drop (i*2+2)=A0n (L.drop i) ++ cur.drop ((i+1)*2+(A0n (L.drop i)).length):=by
  unfold A1L
  rw [List.append_assoc]
  conv=>lhs;rw [show i*2+2=(cur.take ((i+1)*2)).length from by rw [h1];omega]
  rw [List.drop_left]
 have hwl:(A0n (L.take i) ++ [Value.int .i64 t,Value.int .i64 v] ++ A0n (L.drop i)).length=(L.length+1)*2:=by
  simp only [List.length_append,A0C,hpl,List.length_take,List.length_cons,List.length_nil];omega
 unfold A1S
 rw [e1,e2,B2S,← List.append_assoc,← hwl,List.take_left]
structure A7w (w w':World) (lv:Value) (L':List Pt) (lv':Value):Prop where
 row:A2r w' lv' L'
 chg:Chg (fun k=>lv.ownBlock=some k) w w'
 own:∀ g,lv'.ownBlock=some g→lv.ownBlock=some g∨w.heap.size≤g
set_option maxRecDepth 100000 in
set_option maxHeartbeats 4000000 in
theorem B2s (w:World) (g cap:Nat) (L:List Pt) (i vb:Nat) (t v:Int) (hL:A2r w (.slice (some ⟨g,0,none⟩) L.length cap) L) (hi:i<L.length) (hroom:L.length+1≤cap) (hsm:L.length<1099511627776)
 (hv:w.heap[vb]?=some (.cells #[.int .i64 t,.int .i64 v] 70 (0,0))) (hvb:vb≠g):
 Calls Tryz.prog 139 #[.slice (some ⟨g,0,none⟩) L.length cap,.int .i64 i,.slice (some ⟨vb,0,none⟩) 1 1] w fun e w'=>∃ lv',e=.returned lv'∧A7w w w' (.slice (some ⟨g,0,none⟩) L.length cap) (L.take i ++ (t,v):: L.drop i) lv':=by
 obtain ⟨cur,hg,hcs,htake,_,hcm⟩:=A4u hL
 unfold maxLen at hcm
 obtain ⟨i0,hi0,hz0,hz1,hz2⟩:=info_parts Tryz.infoPt2
 have hov:∀ lb cb,(callFunc 181 #[.slice (some ⟨vb,0,none⟩) 1 1,.slice (some ⟨g,(i+1)*2,none⟩) lb cb]).run Tryz.prog w=.ok (.value (.bool false)) w:=fun lb cb=>by
  have hsz:∀ w,(Go.sizeOf 70).run Tryz.prog w=.ok 2 w:=fun w=>by simp [sizeOf,typeInfo,hi0,hz1]
  rw [run_callFunc_extern Tryz.func181 (by kernel_rfl) (by kernel_rfl) (by kernel_rfl) (e:=Extern.SlicesOverlaps.overlaps #[66,66] #[4]) (by kernel_rfl),
   Lib.run_overlaps_apart w 66 4 70 Tryz.underlying66 2 hsz ⟨vb,0,none⟩ ⟨g,(i+1)*2,none⟩ 1 1 lb cb hvb 70 70 2 cur.size (by simp [World.shape?,hv]) (by simp [World.shape?,hg]) (by rw [hcs];omega) (by simp [World.frozen?,hv]) (by simp [World.frozen?,hv])]
  rfl
 have hcl:(L.length+1)*2≤cur.toList.length:=by have:=Array.length_toList (xs:=cur);omega
 have hc1s:(A1L cur.toList L i).length=cap*2:=by rw [A5l _ _ _ (by omega) hcl,Array.length_toList,hcs]
 have hdl:(A0n (L.drop i)).length=(L.length - i)*2:=by rw [A0C,List.length_drop]
 have htk:cur.toList.take (i*2)=A0n (L.take i):=by
  rw [show i*2=min (i*2) (L.length*2) from by omega,← List.take_take,htake,A4j]
 have adc:∀ (x y:Nat),Addr.add ⟨g,x,none⟩ y=⟨g,x+y,none⟩:=fun x y=>by unfold Addr.add;by_cases h:y=0 <;> simp [h]
 have adv:∀ (y:Nat),Addr.add ⟨vb,0,none⟩ y=⟨vb,y,none⟩:=fun y=>by unfold Addr.add;by_cases h:y=0 <;> simp [h]
 have hcp1:Hid (∀ ty dc sc,(Builtin.copy_ #[66,66] ty #[.slice (some ⟨g,(i+1)*2,none⟩) (L.length - i) dc,.slice (some ⟨g,i*2,none⟩) (L.length+1 - i) sc]).run Tryz.prog w.drew=.ok (goInt ((L.length - i:Nat):Int)) (w.drew.setRow g (A1L cur.toList L i).toArray)):=fun ty dc sc=>
  A3P w.drew _ _ ty 70 i0 2 g ((i+1)*2) _ dc ⟨g,i*2,none⟩ _ sc (L.length - i) cur 70 (A0n (L.drop i)) Tryz.underlying66 hi0 hz1 hg (by simp only [Nat.min_def];split <;> omega) hdl
   (fun j u hj=>by
    rw [adc]
    refine A0j (w:=w) hL (g:=g) rfl ?_
    rw [← A3m,List.getElem?_drop] at hj;exact hj)
   (by rw [hdl,hcs];omega) (A1E _)
 have hcp2:Hid (∀ ty dc,(Builtin.copy_ #[66,66] ty #[.slice (some ⟨g,i*2,none⟩) (L.length+1 - i) dc,.slice (some ⟨vb,0,none⟩) 1 1]).run Tryz.prog (w.drew.setRow g (A1L cur.toList L i).toArray)=.ok (goInt ((1:Nat):Int)) ((w.drew.setRow g (A1L cur.toList L i).toArray).setRow g (A1S (A1L cur.toList L i) i t v).toArray)):=fun ty dc=>by
  have hg1:(w.drew.setRow g (A1L cur.toList L i).toArray).heap[g]?=some (.cells (A1L cur.toList L i).toArray 70 (0,0)):=setRow_heap w.drew g cur _ 70 _ hg
  have:=A3P (P:=Tryz.prog) (w.drew.setRow g (A1L cur.toList L i).toArray) 66 66 ty 70 i0 2 g (i*2) (L.length+1 - i) dc ⟨vb,0,none⟩ 1 1 1 (A1L cur.toList L i).toArray 70 [Value.int .i64 t,Value.int .i64 v] Tryz.underlying66 hi0 hz1 hg1 (by simp only [Nat.min_def];split <;> omega) rfl
   (fun j u hj=>by
    rw [adv]
    have hv1:(w.drew.setRow g (A1L cur.toList L i).toArray).heap[vb]?=some (.cells #[.int .i64 t,.int .i64 v] 70 (0,0)):=(setRow_other w.drew g vb _ hvb).trans hv
    unfold World.cell?
    rw [hv1]
    match j,hj with
    | 0,hj=>simpa using hj
    | 1,hj=>simpa using hj
    | j+2,hj=>simp at hj)
   (by simp only [List.size_toArray,hc1s,List.length_cons,List.length_nil];omega) (by simp [Value.oneCell'])
  simpa [A1S] using this
 have FIN:Hid (A7w w ((w.drew.setRow g (A1L cur.toList L i).toArray).setRow g (A1S (A1L cur.toList L i) i t v).toArray) (.slice (some ⟨g,0,none⟩) L.length cap) (L.take i ++ (t,v):: L.drop i) (.slice (some ⟨g,0,none⟩) (L.length+1) cap)):=by
  have hg1:(w.drew.setRow g (A1L cur.toList L i).toArray).heap[g]?=some (.cells (A1L cur.toList L i).toArray 70 (0,0)):=setRow_heap w.drew g cur _ 70 _ hg
  have hg2:((w.drew.setRow g (A1L cur.toList L i).toArray).setRow g (A1S (A1L cur.toList L i) i t v).toArray).heap[g]?=some (.cells (A1S (A1L cur.toList L i) i t v).toArray 70 (0,0)):=setRow_heap _ g _ _ 70 _ hg1
  have hll:(L.take i ++ (t,v):: L.drop i).length=L.length+1:=by simp;omega
  refine ⟨?_,?_,fun g' h'=>.inl h'⟩
  ·unfold A2r
   rw [hll]
   refine ⟨by rw [A0C,hll],.inr ⟨g,cap,_,rfl,Nat.zero_le _,hg2,hroom,by unfold maxLen;omega,?_,?_⟩⟩
   ·rw [List.size_toArray,A3G _ _ _ _ (by rw [hc1s];omega),hc1s]
   ·exact B1F L i (by omega) t v cur.toList htk hcl
  ·refine ⟨rfl,rfl,rfl,by simp,fun k hk hn=>?_⟩
   have hkg:k≠g:=fun e=>hn (by simp [Value.ownBlock,e])
   rw [setRow_other _ g k _ hkg,setRow_other _ g k _ hkg];rfl
 have HOV:=A0b hov
 have q1:((i:Int) == (L.length:Int))=false:=by simp;omega
 have q2:¬ (cap=i):=by omega
 have q3:¬ (cap=i+1):=by omega
 have q4:(i:Int)≤(L.length:Int):=by omega
 have q5:(L.length:Int)≤(cap:Int):=by omega
 have q6:(L.length:Int)+1≤(cap:Int):=by omega
 have q7:((L.length:Int)+1).toNat=L.length+1:=by omega
 have q8:((i:Int)+1).toNat=i+1:=by omega
 have q9:(i:Int)+1≤(L.length:Int)+1:=by omega
 have q10:(0:Int)≤(i:Int):=Int.natCast_nonneg _
 have q11:(i:Int)≤(L.length:Int)+1:=by omega
 have q13:(0:Int)≤(i:Int)+1:=by omega
 have q12:IntKind.i64.wrap ((i:Int)+1)=(i:Int)+1:=by simp only [IntKind.wrap_i64];omega
 clear hL hv hg hcs htake hcl hc1s hdl htk adc adv
 go_enter Tryz.func139,Tryz.ntmps139
 go_wp2_with (simp only [hov])
 refine wp_region_still_tail 8 (by kernel_rfl) (by kernel_rfl) ?_
 simp only [World.drew_eq,List.take_succ_cons,List.take_zero,List.drop_succ_cons,List.drop_zero]
 repeat still_step
 refine wpStill_nil ?_
 refine A1W _ rfl (.tmp 73) (.tmp 76) 66 66 rfl _ _ (by rfl) (by rfl) (hcp1.out _ _ _) ?_
 go_wp2_with (refine A1W _ rfl (.tmp 80) (.tmp 81) 66 66 rfl _ _ (by rfl) (by rfl) (hcp2.out _ _) ?_)
 go_ret
 exact ⟨_,rfl,FIN.out⟩
end Go.Proofs.YtodcnkbblippnaaGreatDoor
namespace Go.Proofs.YtodcnkbblippnaaGreatDoor
open Go.RowKit
attribute [local go_sem ↓] Go.wp_at_zero Go.wp_at_succ
set_option maxRecDepth 100000 in
set_option maxHeartbeats 4000000 in
theorem B1k (w:World) (ad:Option Addr) (cap:Nat) (L:List Pt) (vb:Nat) (t v:Int) (hL:A2r w (.slice ad L.length cap) L) (hsm:L.length<1099511627776)
 (hv:w.heap[vb]?=some (.cells #[.int .i64 t,.int .i64 v] 70 (0,0))):
 Calls Tryz.prog 139 #[.slice ad L.length cap,.int .i64 L.length,.slice (some ⟨vb,0,none⟩) 1 1] w fun e w'=>∃ lv',e=.returned lv'∧A7w w w' (.slice ad L.length cap) (L.take L.length ++ (t,v):: L.drop L.length) lv':=by
 obtain ⟨i0,hi0,hz0,hz1,hz2⟩:=info_parts Tryz.infoPt2
 obtain ⟨_,_,he,h1,h2,_,h4,h5⟩:=A0g hL
 cases he
 unfold maxLen at h2
 have hsr:Hid (Src Tryz.prog 2 66 (.slice (some ⟨vb,0,none⟩) 1 1) 1 [.int .i64 t,.int .i64 v] w):=Src.ofBlock Tryz.underlying66 hv 1 1 rfl (by simp [Value.oneCell'])
 have FIN:Hid (∀ b3 cap3 w3,App w w3 70 2 (.slice ad L.length cap) (.slice b3 (L.length+1) cap3) (L.length+1) (A0n L ++ [.int .i64 t,.int .i64 v])→A7w w w3 (.slice ad L.length cap) (L.take L.length ++ (t,v):: L.drop L.length) (.slice b3 (L.length+1) cap3)):=by
  intro b3 cap3 w3 hA
  refine ⟨?_,hA.chg fun k hk=>hk,fun g hg=>?_⟩
  ·have:=hA.own
   unfold A2r
   rw [List.take_of_length_le (Nat.le_refl _),List.drop_of_length_le (Nat.le_refl _),A1Q,List.length_append]
   exact this
  ·rcases hA.at_ with e | e
   ·rw [e] at hg;exact .inl hg
   ·rw [e] at hg;cases hg;exact .inr (Nat.le_refl _)
 have HL:=A0b hL
 have q4:(0:Int)≤(L.length:Int):=Int.natCast_nonneg _
 have hbb:(L.length+1)*16≤140737488355328:=by omega
 clear hL hv h4 h5
 by_cases hc:cap=L.length
 ·subst hc
  go_enter Tryz.func139,Tryz.ntmps139
  go_wp2_with (at_builtin;refine A0o rfl (.tmp 23) (.tmp 24) 66 66 rfl 70 i0 _ 2 16 Tryz.underlying66 hi0 hz0 hz1 hz2 rfl (by decide) _ L.length (A0n L) (by rfl) HL.out _ 1 _ (by rfl) hsr.out hbb ?_;intro b3 cap3 w3 hA;have hA3:=A0b (FIN.out b3 cap3 w3 hA);clear hA)
  go_ret
  exact ⟨_,rfl,hA3.out⟩
 ·go_enter Tryz.func139,Tryz.ntmps139
  go_wp2_with (at_builtin;refine A0o rfl (.tmp 23) (.tmp 24) 66 66 rfl 70 i0 _ 2 16 Tryz.underlying66 hi0 hz0 hz1 hz2 rfl (by decide) _ L.length (A0n L) (by rfl) HL.out _ 1 _ (by rfl) hsr.out hbb ?_;intro b3 cap3 w3 hA;have hA3:=A0b (FIN.out b3 cap3 w3 hA);clear hA)
  go_ret
  exact ⟨_,rfl,hA3.out⟩
theorem B0x (L:List Pt) (i:Nat) (hi:i≤L.length) (t v:Int) (c:List Value) (hcur:c.take (i*2)=A0n (L.take i)) (hlen:(L.length+1)*2≤c.length):
 (A1L (A1S c i t v) L i).take ((L.length+1)*2)=A0n (L.take i ++ (t,v):: L.drop i)∧(A1L (A1S c i t v) L i).length=c.length:=by
 have hpl:(A0n (L.drop i)).length=(L.length - i)*2:=by rw [A0C,List.length_drop]
 have hl2:(A1S c i t v).length=c.length:=A3G c i t v (by omega)
 refine ⟨?_,by rw [A5l _ _ _ hi (by omega),hl2]⟩
 have h1:(A0n (L.take i) ++ [Value.int .i64 t,Value.int .i64 v]).length=(i+1)*2:=by
  simp only [List.length_append,A0C,List.length_take,List.length_cons,List.length_nil];omega
 have e1:(A1S c i t v).take ((i+1)*2)=A0n (L.take i) ++ [Value.int .i64 t,Value.int .i64 v]:=by
  unfold A1S
  rw [hcur,← h1,List.take_left]
 have hwl:(A0n (L.take i) ++ [Value.int .i64 t,Value.int .i64 v] ++ A0n (L.drop i)).length=(L.length+1)*2:=by
  rw [List.length_append,h1,hpl];omega
 unfold A1L
 rw [e1,B2S,← hwl,List.take_left]
set_option maxRecDepth 100000 in
set_option maxHeartbeats 4000000 in
theorem A8O (w:World) (g cap:Nat) (L:List Pt) (i vb:Nat) (t v:Int) (hL:A2r w (.slice (some ⟨g,0,none⟩) L.length cap) L) (hi:i<L.length) (hroom:cap<L.length+1) (hsm:L.length<1099511627776)
 (hv:w.heap[vb]?=some (.cells #[.int .i64 t,.int .i64 v] 70 (0,0))):
 Calls Tryz.prog 139 #[.slice (some ⟨g,0,none⟩) L.length cap,.int .i64 i,.slice (some ⟨vb,0,none⟩) 1 1] w fun e w'=>∃ lv',e=.returned lv'∧A7w w w' (.slice (some ⟨g,0,none⟩) L.length cap) (L.take i ++ (t,v):: L.drop i) lv':=by
 obtain ⟨cur,hg,hcs,htake,hnc,hcm⟩:=A4u hL
 unfold maxLen at hcm
 obtain rfl:cap=L.length:=by omega
 obtain ⟨i0,hi0,hz0,hz1,hz2⟩:=info_parts Tryz.infoPt2
 have hdl:(A0n (L.drop i)).length=(L.length - i)*2:=by rw [A0C,List.length_drop]
 have adc:∀ (b x y:Nat),Addr.add ⟨b,x,none⟩ y=⟨b,x+y,none⟩:=fun b x y=>by unfold Addr.add;by_cases h:y=0 <;> simp [h]
 have hold:(Builtin.firstCells i0.size i (.slice (some ⟨g,0,none⟩) i L.length)).run Tryz.prog w.drew=.ok (A0n (L.take i)).toArray w.drew:=
  run_firstCells_some w.drew i0.size i ⟨g,0,none⟩ i L.length (A0n (L.take i)) (by rw [hz1,A0C,List.length_take];omega) (fun j u hj=>by
   rw [adc,Nat.zero_add]
   refine A0j (w:=w) hL (g:=g) rfl ?_
   rw [← A4j,List.getElem?_take] at hj
   split at hj
   ·exact hj
   ·cases hj)
 have happ:=A3D (P:=Tryz.prog) w 66 3 66 70 i0 _ .i64 Tryz.underlying66 Tryz.underlying3 hi0 hz0 (by omega) (some ⟨g,0,none⟩) i L.length (A0n (L.take i)) hold (L.length+1 - i) (by omega) (by omega) (by omega) (by rw [hz2];omega) (by rw [hz2];exact growslice_fits (by omega) (by omega))
 rw [show i+(L.length+1 - i)=L.length+1 from by omega,show ((L.length+1 - i:Nat):Int)=(L.length:Int)+1 - (i:Int) from by omega] at happ
 obtain ⟨nc,hnc2⟩:∃ nc,grownCap w (L.length+1) L.length 70=nc:=⟨_,rfl⟩
 have hge:=grownCap_ge w (L.length+1) L.length 70
 have hgm:grownCap w (L.length+1) L.length 70≤maxLen:=grownCap_le_maxLen w (L.length+1) L.length 70 (by unfold maxLen;omega)
 rw [hnc2] at happ hge hgm
 obtain ⟨c0,hc0⟩:∃ c0,(A0n (L.take i)).toArray ++ Builtin.zeroCells (Value.agg #[Value.int .i64 0,Value.int .i64 0]).cells (L.length+1 - i) ++ Builtin.zeroCells (Value.agg #[Value.int .i64 0,Value.int .i64 0]).cells (nc - (L.length+1))=c0:=⟨_,rfl⟩
 have hc0s:c0.toList.length=nc*2:=by
  rw [← hc0]
  have e1:(Value.agg #[Value.int .i64 0,Value.int .i64 0]).cells.size=2:=rfl
  simp only [Array.toList_append,List.length_append,Array.length_toList,size_zeroCells,e1,A0C,List.length_take]
  omega
 have hc0t:c0.toList.take (i*2)=A0n (L.take i):=by
  rw [← hc0,Array.toList_append,Array.toList_append,List.append_assoc]
  have:(A0n (L.take i)).length=i*2:=by rw [A0C,List.length_take];omega
  rw [← this,List.take_left]
 rw [hc0] at happ
 unfold maxLen at hgm
 have hg1:((w.drew.alloc (.cells c0 70))).heap[w.heap.size]?=some (.cells c0 70 (0,0)):=heap_alloc_new w.drew _
 have hvl:=lt_of_block hv
 have hgl:=lt_of_block hg
 have hv1:((w.drew.alloc (.cells c0 70))).heap[vb]?=some (.cells #[.int .i64 t,.int .i64 v] 70 (0,0)):=(Below.heap_alloc w.drew _ _ hvl).trans hv
 have hcp1:Hid (∀ ty dc,(Builtin.copy_ #[66,66] ty #[.slice (some ⟨w.heap.size,i*2,none⟩) (L.length+1 - i) dc,.slice (some ⟨vb,0,none⟩) 1 1]).run Tryz.prog (w.drew.alloc (.cells c0 70))=.ok (goInt ((1:Nat):Int)) ((w.drew.alloc (.cells c0 70)).setRow w.heap.size (A1S c0.toList i t v).toArray)):=fun ty dc=>by
  have:=A3P (P:=Tryz.prog) (w.drew.alloc (.cells c0 70)) 66 66 ty 70 i0 2 w.heap.size (i*2) (L.length+1 - i) dc ⟨vb,0,none⟩ 1 1 1 c0 70 [Value.int .i64 t,Value.int .i64 v] Tryz.underlying66 hi0 hz1 hg1 (by simp only [Nat.min_def];split <;> omega) rfl
   (fun j u hj=>by
    rw [adc,Nat.zero_add]
    unfold World.cell?
    rw [hv1]
    match j,hj with
    | 0,hj=>simpa using hj
    | 1,hj=>simpa using hj
    | j+2,hj=>simp at hj)
   (by rw [← Array.length_toList,hc0s];simp only [List.length_cons,List.length_nil];omega) (by simp [Value.oneCell'])
  simpa [A1S] using this
 have hc2l:(A1S c0.toList i t v).length=nc*2:=by rw [A3G _ _ _ _ (by omega),hc0s]
 have hg2:((w.drew.alloc (.cells c0 70)).setRow w.heap.size (A1S c0.toList i t v).toArray).heap[w.heap.size]?=some (.cells (A1S c0.toList i t v).toArray 70 (0,0)):=setRow_heap _ w.heap.size c0 _ 70 _ hg1
 have hcp2:Hid (∀ ty dc sc,(Builtin.copy_ #[66,66] ty #[.slice (some ⟨w.heap.size,(i+1)*2,none⟩) (L.length - i) dc,.slice (some ⟨g,i*2,none⟩) (L.length - i) sc]).run Tryz.prog ((w.drew.alloc (.cells c0 70)).setRow w.heap.size (A1S c0.toList i t v).toArray).drew=.ok (goInt ((L.length - i:Nat):Int)) (((w.drew.alloc (.cells c0 70)).setRow w.heap.size (A1S c0.toList i t v).toArray).drew.setRow w.heap.size (A1L (A1S c0.toList i t v) L i).toArray)):=fun ty dc sc=>
  A3P (P:=Tryz.prog) ((w.drew.alloc (.cells c0 70)).setRow w.heap.size (A1S c0.toList i t v).toArray).drew 66 66 ty 70 i0 2 w.heap.size ((i+1)*2) (L.length - i) dc ⟨g,i*2,none⟩ (L.length - i) sc (L.length - i) (A1S c0.toList i t v).toArray 70 (A0n (L.drop i)) Tryz.underlying66 hi0 hz1 hg2 (by simp) hdl
   (fun j u hj=>by
    rw [adc]
    have h0:w.cell? ⟨g,i*2+j,none⟩=some u:=by
     refine A0j (w:=w) hL (g:=g) rfl ?_
     rw [← A3m,List.getElem?_drop] at hj;exact hj
    refine (World.cell?_of_block ?_).trans h0
    exact (setRow_other _ w.heap.size g _ (by omega)).trans (Below.heap_alloc w.drew _ _ hgl))
   (by rw [hdl,List.size_toArray,hc2l];omega) (A1E _)
 have FIN:Hid (A7w w (((w.drew.alloc (.cells c0 70)).setRow w.heap.size (A1S c0.toList i t v).toArray).drew.setRow w.heap.size (A1L (A1S c0.toList i t v) L i).toArray) (.slice (some ⟨g,0,none⟩) L.length L.length) (L.take i ++ (t,v):: L.drop i) (.slice (some ⟨w.heap.size,0,none⟩) (L.length+1) nc)):=by
  have hg3:(((w.drew.alloc (.cells c0 70)).setRow w.heap.size (A1S c0.toList i t v).toArray).drew.setRow w.heap.size (A1L (A1S c0.toList i t v) L i).toArray).heap[w.heap.size]?=some (.cells (A1L (A1S c0.toList i t v) L i).toArray 70 (0,0)):=setRow_heap _ w.heap.size _ _ 70 _ hg2
  have hll:(L.take i ++ (t,v):: L.drop i).length=L.length+1:=by simp;omega
  obtain ⟨k1,k2⟩:=B0x L i (by omega) t v c0.toList hc0t (by omega)
  refine ⟨?_,?_,fun g' h'=>by simp [Value.ownBlock] at h';exact .inr (by omega)⟩
  ·unfold A2r
   rw [hll]
   refine ⟨by rw [A0C,hll],.inr ⟨w.heap.size,nc,_,rfl,Nat.zero_le _,hg3,hge,by unfold maxLen;omega,?_,k1⟩⟩
   rw [List.size_toArray,k2,hc0s]
  ·refine ⟨rfl,rfl,rfl,by simp,fun k hk hn=>?_⟩
   have hkg:k≠w.heap.size:=by omega
   rw [setRow_other _ _ k _ hkg]
   exact (setRow_other _ _ k _ hkg).trans (Below.heap_alloc w.drew _ _ hk)
 have q1:((i:Int) == (L.length:Int))=false:=by simp;omega
 have q2:¬ (nc=i):=by omega
 have q3:¬ (nc=i+1):=by omega
 have q3':¬ (L.length=i):=by omega
 have q4:(i:Int)≤(L.length:Int):=by omega
 have q8:((i:Int)+1).toNat=i+1:=by omega
 have q9:(i:Int)+1≤(L.length:Int)+1:=by omega
 have q10:(0:Int)≤(i:Int):=Int.natCast_nonneg _
 have q11:(i:Int)≤(L.length:Int)+1:=by omega
 have q13:(0:Int)≤(i:Int)+1:=by omega
 have q12:IntKind.i64.wrap ((i:Int)+1)=(i:Int)+1:=by simp only [IntKind.wrap_i64];omega
 have q14:IntKind.i64.wrap ((L.length:Int)+1 - (i:Int))=(L.length:Int)+1 - (i:Int):=by simp only [IntKind.wrap_i64];omega
 have HAPP:=A0b happ
 clear hL hv hg hcs htake hdl adc hold happ hnc2 hc0 hc0s hc0t hg1 hv1 hg2 hc2l hgl hvl
 go_enter Tryz.func139,Tryz.ntmps139
 go_wp2_with (first
  | (at_builtin;refine Lib.wpList_append_run _ rfl (.tmp 34) (.tmp 39) 66 3 rfl _ _ (by rfl) (by rfl) _ _ HAPP.out ?_)
  | (refine A1W _ rfl (.tmp 43) (.tmp 44) 66 66 rfl _ _ (by rfl) (by rfl) (hcp1.out _ _) ?_))
 refine wp_region_still_tail 8 (by kernel_rfl) (by kernel_rfl) ?_
 simp only [World.drew_eq,List.take_succ_cons,List.take_zero,List.drop_succ_cons,List.drop_zero]
 repeat still_step
 refine wpStill_nil ?_
 refine A1W _ rfl (.tmp 50) (.tmp 53) 66 66 rfl _ _ (by rfl) (by rfl) (hcp2.out _ _ _) ?_
 go_wp2
 go_ret
 exact ⟨_,rfl,FIN.out⟩
theorem B1o (w:World) (ad:Option Addr) (cap:Nat) (L:List Pt) (i vb:Nat) (t v:Int) (hL:A2r w (.slice ad L.length cap) L) (hi:i≤L.length) (hsm:L.length<1099511627776)
 (hv:w.heap[vb]?=some (.cells #[.int .i64 t,.int .i64 v] 70 (0,0))) (hvb:(Value.slice ad L.length cap).ownBlock≠some vb):
 Calls Tryz.prog 139 #[.slice ad L.length cap,.int .i64 i,.slice (some ⟨vb,0,none⟩) 1 1] w fun e w'=>∃ lv',e=.returned lv'∧A7w w w' (.slice ad L.length cap) (L.take i ++ (t,v):: L.drop i) lv':=by
 by_cases hil:i=L.length
 ·subst hil
  exact B1k w ad cap L vb t v hL hsm hv
 ·obtain ⟨_,_,he,h1,h2,h3,h4,h5⟩:=A0g hL
  cases he
  obtain ⟨g,rfl⟩:=h3 (by omega)
  have hne:vb≠g:=fun e=>hvb (by simp [Value.ownBlock,e])
  by_cases hroom:L.length+1≤cap
  ·exact B2s w g cap L i vb t v hL (by omega) hroom hsm hv hne
  ·exact A8O w g cap L i vb t v hL (by omega) (by omega) hsm hv
end Go.Proofs.YtodcnkbblippnaaGreatDoor
