/-
  The statement WritesUptoCardSaid is proved: the law Writes answers true for every setting and every script of at most 1048576 bytes; there is no other condition.
  Part 16 of 33.
-/
import Derived.Test.YtodcnkbblippnaaGreatDoorPart15
import Derived.OwnWalk
namespace Go.Proofs.YtodcnkbblippnaaGreatDoor
open Go.RowKit
def A1g (w:World) (jb b:Nat) (lv:Value) (last puts:Int) (ov:Value):Prop:=w.heap[jb]?=some (.cells #[.pointer (some ⟨b,0,none⟩),lv,.int .i64 last,.int .i64 puts,ov] 208 (0,0))
section
variable {w w':World} {jb b:Nat} {lv ov:Value} {last puts:Int}
theorem A1g.c0 (h:A1g w jb b lv last puts ov):w.cell? ⟨jb,0,none⟩=some (.pointer (some ⟨b,0,none⟩)):=by unfold A1g at h;simp [World.cell?,h]
theorem A1g.c1 (h:A1g w jb b lv last puts ov):w.cell? ⟨jb,1,none⟩=some lv:=by unfold A1g at h;simp [World.cell?,h]
theorem A1g.c2 (h:A1g w jb b lv last puts ov):w.cell? ⟨jb,2,none⟩=some (.int .i64 last):=by unfold A1g at h;simp [World.cell?,h]
theorem A1g.c3 (h:A1g w jb b lv last puts ov):w.cell? ⟨jb,3,none⟩=some (.int .i64 puts):=by unfold A1g at h;simp [World.cell?,h]
theorem A1g.c4 (h:A1g w jb b lv last puts ov):w.cell? ⟨jb,4,none⟩=some ov:=by unfold A1g at h;simp [World.cell?,h]
theorem A1g.fz (h:A1g w jb b lv last puts ov) (o:Nat):w.frozen? ⟨jb,o,none⟩=false:=by unfold A1g at h;simp [World.frozen?,h]
theorem A1g.lt (h:A1g w jb b lv last puts ov):jb<w.heap.size:=lt_of_block h
theorem A1g.s1 (h:A1g w jb b lv last puts ov) (x:Value):A1g (w.setCell ⟨jb,1,none⟩ x) jb b x last puts ov:=A0h h
theorem A1g.s2 (h:A1g w jb b lv last puts ov) (x:Int):A1g (w.setCell ⟨jb,2,none⟩ (.int .i64 x)) jb b lv x puts ov:=A0h h
theorem A1g.s3 (h:A1g w jb b lv last puts ov) (x:Int):A1g (w.setCell ⟨jb,3,none⟩ (.int .i64 x)) jb b lv last x ov:=A0h h
theorem A1g.s4 (h:A1g w jb b lv last puts ov) (x:Value):A1g (w.setCell ⟨jb,4,none⟩ x) jb b lv last puts x:=A0h h
theorem A1g.drew (h:A1g w jb b lv last puts ov):A1g w.drew jb b lv last puts ov:=by unfold A1g at h ⊢;exact h
theorem A1g.keep {S:Nat→Prop} (h:A1g w jb b lv last puts ov) (hc:Chg S w w') (hn:¬ S jb):A1g w' jb b lv last puts ov:=hc.keep h hn
end
structure JnV (w:World) (jb b:Nat) (lv ov:Value) (J:Jn):Prop where
 blk:A1g w jb b lv J.last J.puts ov
 logs:A5p w lv J.logs
 own:(J.own=none∧ov=.pointer none)∨∃ n s lb,J.own=some (n,s)∧ov=.pointer (some ⟨lb,0,none⟩)∧A0z w lb 237 (.pointer (some ⟨b,0,none⟩)) ⟨(A0l n).toArray⟩ s∧s<4294967296
def A3M (jb:Nat) (lv ov:Value) (k:Nat):Prop:=k=jb∨lv.ownBlock=some k∨ov=.pointer (some ⟨k,0,none⟩)
section
variable {w w':World} {jb b:Nat} {lv ov:Value} {J:Jn}
theorem JnV.frame (h:JnV w jb b lv ov J) (hs:A9f (A3M jb lv ov) w w'):JnV w' jb b lv ov J:=by
 refine ⟨(hs jb (.inl rfl)).trans h.blk,A0a h.logs fun g hg=>hs g (.inr (.inl hg)),?_⟩
 rcases h.own with h1 | ⟨n,s,lb,h1,rfl,h3,h4⟩
 ·exact .inl h1
 ·exact .inr ⟨n,s,lb,h1,rfl,(hs lb (.inr (.inr rfl))).trans h3,h4⟩
theorem JnV.lt (h:JnV w jb b lv ov J) {k:Nat} (hk:A3M jb lv ov k):k<w.heap.size:=by
 rcases hk with rfl | hk | rfl
 ·exact h.blk.lt
 ·exact A0c h.logs hk
 ·rcases h.own with ⟨_,h2⟩ | ⟨n,s,lb,_,h2,h3,_⟩
  ·cases h2
  ·cases h2;exact h3.lt
theorem JnV.chg {S:Nat→Prop} (h:JnV w jb b lv ov J) (hc:Chg S w w') (hn:∀ k,A3M jb lv ov k→¬ S k):JnV w' jb b lv ov J:=
 h.frame (hc.same (fun _ hk=>h.lt hk) hn)
theorem JnV.chg0 (h:JnV w jb b lv ov J) (hc:Chg (fun _=>False) w w'):JnV w' jb b lv ov J:=h.chg hc fun _ _ h=>h
end
theorem A5T (l:List Int) (j:Nat) (hj:j<l.length):l.getD j 0=l[j]'hj:=by simp [List.getD,hj]
theorem A8m (w:World) (v1 v2:Value) (l1 l2:List Int) (h1:RdI w v1 l1) (h2:RdI w v2 l2):
 Calls Tryz.prog 241 #[v1,v2] w fun e w'=>e=.returned (.bool (decide (l1=l2)))∧∃ q,w'=w.drewN q:=by
 obtain ⟨a1,c1,rfl,p1,p2⟩:=h1.form
 obtain ⟨a2,c2,rfl,q1,q2⟩:=h2.form
 unfold maxLen at p2 q2
 by_cases hl:l1.length=l2.length
 case neg=>
  have hne:¬ l1=l2:=fun e=>hl (by rw [e])
  refine (Tryz.slices_Equal_int_lens a1 a2 _ c1 _ c2 w hl).mono ?_
  rintro e w' ⟨rfl,rfl⟩
  exact ⟨by rw [decide_eq_false hne],0,rfl⟩
 case pos=>
 by_cases h0:l1.length=0
 ·have e1:l1 = []:=List.length_eq_zero_iff.1 h0
  have e2:l2 = []:=List.length_eq_zero_iff.1 (by omega)
  subst e1;subst e2
  refine (Tryz.slices_Equal_int_empty a1 a2 c1 0 c2 w (by omega)).mono ?_
  rintro e w' ⟨rfl,rfl⟩
  exact ⟨by simp,0,rfl⟩
 ·obtain ⟨g1,o1,rfl,-⟩:=RdI.at h1 0 (by omega)
  obtain ⟨g2,o2,rfl,-⟩:=RdI.at h2 0 (by omega)
  refine (Tryz.slices_Equal_int g1 o1 _ c1 g2 o2 _ c2 l1 l2 w (Nat.le_refl _) (Nat.le_refl _) (by omega) (by omega) (fun j hj=>?_) (fun j hj=>?_)).mono ?_
  ·obtain ⟨g,o,e,hc⟩:=RdI.at h1 j hj
   cases e
   rw [A5T l1 j hj];exact hc
  ·obtain ⟨g,o,e,hc⟩:=RdI.at h2 j hj
   cases e
   rw [A5T l2 j hj];exact hc
  rintro e w' ⟨rfl,q,rfl⟩
  refine ⟨?_,q,rfl⟩
  rw [List.take_length,List.take_length]
  by_cases he:l1=l2
  ·rw [decide_eq_true he,he];simp
  ·rw [decide_eq_false he,beq_eq_false_iff_ne.2 he]
theorem A5b:∀ (k s:Nat) (l:Bs),(A2f k s l).1.length*21≤l.length
 | 0,_,l=>by simp [A2f]
 | k+1,s,l=>by
  unfold A2f
  split
  ·simp
  ·rename_i h
   split
   ·have:=A5b k (A0w s (l.take 17)) (l.drop 21)
    rw [List.length_drop] at this
    simp only [List.length_cons];omega
   ·simp
theorem A7T (s:Nat) (ahead:Int) (l:Bs):(A8r s ahead l).1.length*21≤l.length:=by
 unfold A8r
 split
 ·simp
 ·split
  ·split
   ·have:=A5b l.length (A0w s (l.take 8)) (l.drop 12)
    rw [List.length_drop] at this
    simp only;omega
   ·simp
  ·simp
theorem B0z {P:PD} {a c m:Nat} (hF:Fit P a c m) (n ahead:Int):(P.log n ahead).1.length*21≤m:=by
 have h1:=A8A hF (A0l n)
 unfold PD.log A2q
 split
 ·simp
 ·exact Nat.le_trans (A7T _ _ _) h1
end Go.Proofs.YtodcnkbblippnaaGreatDoor
namespace Go.Proofs.YtodcnkbblippnaaGreatDoor
open Go.RowKit
attribute [local go_sem ↓] A0p
section
variable {w:World} {b B jb:Nat} {P:PD} {Ft:Nat→Prop} {a c m:Nat} {lv ov:Value} {J:Jn}
set_option maxRecDepth 100000 in
set_option maxHeartbeats 4000000 in
theorem A9T (w:World) (h:A1A w b P Ft) (hlt:∀ k,Ft k→k<w.heap.size) (hJ:JnV w jb b lv ov J) (hF:Fit P a c m) (hl:Lim a c m) (hm:J.logs.length*m≤70368744177664) (hn:∀ n∈J.logs,A1j n) (hL:A2i B w):
 Calls Tryz.prog 106 #[.pointer (some ⟨jb,0,none⟩)] w fun e w'=>∃ v,e=.returned (.tuple #[v,.int .i64 (P.puts J.logs).2])∧A1r w' v (P.puts J.logs).1∧(∀ g,v.ownBlock=some g→w.heap.size≤g)∧Chg (fun _=>False) w w':=by
 obtain ⟨i0,hi,hz0,hz1,hz2⟩:=info_parts A2a
 have c0:=hJ.blk.c0
 have c1:=hJ.blk.c1
 have HLG:=A0b (A5p.rd hJ.logs)
 obtain ⟨la,lcap,rfl,lc1,lc2⟩:=HLG.out.form
 unfold maxLen at lc2
 have HR:Hid (P.puts J.logs=P.putsK J.logs []):=rfl
 obtain ⟨R,hR⟩:∃ R,P.puts J.logs=R:=⟨_,rfl⟩
 rw [hR] at HR ⊢
 have RL:Hid (∀ w1,Chg (fun _=>False) w w1→∀ n∈J.logs,∀ ahead,Calls Tryz.prog 149 #[.pointer (some ⟨b,0,none⟩),.int .i64 n,.int .i64 ahead] w1 fun e w'=>∃ v,e=.returned (.tuple #[v,.int .i64 (P.log n ahead).2])∧A1r w' v (P.log n ahead).1∧(∀ g,v.ownBlock=some g→w1.heap.size≤g)∧Chg (fun _=>False) w1 w'):=fun w1 hc n hn' ahead=>
  A9w w1 ahead (A0R.same h hlt hc) (fun k hk=>Nat.lt_of_lt_of_le (hlt k hk) hc.size) (hn n hn') (hL.keep0 hc) (by have h1:(A6s P.D P.F ⟨(A2b 1 n).toArray⟩).1.length≤m:=A8A hF (A0l n);have:=hl.m;omega)
 have LL:Hid (∀ n ahead,(P.log n ahead).1.length*21≤m):=fun n ahead=>B0z hF n ahead
 have HM:=A0b hm
 clear hR h hlt hF hl hn hL hJ hm
 generalize J.logs=logs at *
 have BL:∀ k,k≤logs.length→k*m≤70368744177664:=fun k hk=>Nat.le_trans (Nat.mul_le_mul_right m hk) HM.out
 have HBL:=A0b BL
 clear BL HM
 go_enter Tryz.func106,Tryz.ntmps106
 go_wp2
 go_loopw [4,14] (fun v iv wr=>∃ (k:Nat) (ps:List Pu),iv=.int .i64 k∧k≤logs.length∧Hid (A1r wr v ps∧(∀ g,v.ownBlock=some g→w.heap.size≤g)∧Chg (fun _=>False) w wr∧ps.length*21≤k*m∧R=P.putsK (logs.drop k) ps)) (fun _ iv _=>logs.length - (intOf iv).toNat)
 case atStart=>exact ⟨0,[],rfl,by omega,World.ownsRow_nil _ _ _ _,fun g hg=>by simp [Value.ownBlock] at hg,Chg.refl _ _,by simp,HR.out⟩
 case round=>
  obtain ⟨k,ps,rfl,hk,hI⟩:=hrel
  obtain ⟨i1,i2,i3,i4,i5⟩:=hI.out
  obtain ⟨ap,cp,rfl,hcap1,hcap2,-⟩:=A0g i1
  unfold maxLen at hcap2
  by_cases hk1:k<logs.length
  ·obtain ⟨g,o,rfl,d1⟩:=RdI.at HLG.out k hk1
   have hmem:=List.getElem_mem hk1
   have hdr:=List.drop_eq_getElem_cons hk1
   obtain ⟨n,hne⟩:∃ n,(logs[k]'hk1)=n:=⟨_,rfl⟩
   rw [hne] at d1 hmem hdr
   have e1:=i3.cellKeep d1
   have e0:=i3.cellKeep c0
   have RL1:=A0b (RL.out wr i3 n hmem ps.length)
   have LL1:=A0b (LL.out n ps.length)
   rw [hdr] at i5
   have I5:Hid (R=if (P.log n ps.length).2≠0 then ([],(P.log n ps.length).2) else P.putsK (logs.drop (k+1)) (ps ++ (P.log n ps.length).1)):=i5
   obtain ⟨X,hX⟩:∃ X,P.log n ps.length=X:=⟨_,rfl⟩
   rw [hX] at RL1 LL1 I5
   obtain ⟨X1,X2⟩:=X
   dsimp only at RL1 LL1 I5
   have I1:=A0b i1
   have I2:=A0b i2
   have I3:=A0b i3
   have I4:=A0b i4
   have hki:(k:Int)<(logs.length:Int):=by omega
   have hk0:(0:Int)≤(k:Int):=Int.natCast_nonneg _
   clear hI i1 i2 i3 i4 i5 d1 hmem hdr hne hX
   by_cases hx:X2=0
   case neg=>
    have hxb:(X2 != 0)=true:=by simpa using hx
    have hR1:R=([],X2):=by rw [I5.out,if_pos hx]
    subst hR1
    go_wp2_with (go_at_call 149;refine RL1.out.mono ?_;rintro e w6 ⟨v,rfl,-,-,hc6⟩;have HC6:=A0b hc6;clear hc6)
    go_ret2
    exact ⟨_,rfl,World.ownsRow_nil _ _ _ _,fun g hg=>by simp [Value.ownBlock] at hg,I3.out.trans HC6.out fun _ h _=>h⟩
   case pos=>
    subst hx
    have I6:Hid (R=P.putsK (logs.drop (k+1)) (ps ++ X1)):=by unfold Hid;rw [I5.out,if_neg (by simp)]
    have HB:=A0b (HBL.out (k+1) hk1)
    go_wp2_with (fail)
    refine RL1.out.mono ?_
    rintro e w6 ⟨v,rfl,hv,hvo,hc6⟩
    obtain ⟨ap2,cp2,rfl,-,hcap3,-⟩:=A0g hv
    unfold maxLen at hcap3
    have HC6:=A0b hc6
    have HVO:=A0b hvo
    have HOWN:Hid (w6.ownsRow 0 113 3 (.slice ap ps.length cp) ps.length (A0x ps)):=A0a I1.out fun g hg=>hc6.block g (A0c I1.out hg) (fun h=>h)
    have HSRC:=A0b (Src.ofOwn Tryz.underlying97 hv (A0G X1))
    clear hv hvo hc6 RL1
    go_wp2_with (at_builtin;refine A0o rfl (.tmp 32) (.tmp 33) 97 97 rfl 113 i0 _ 3 24 Tryz.underlying97 hi hz0 hz1 hz2 rfl (by decide) (.slice ap ps.length cp) ps.length (A0x ps) (by rfl) HOWN.out _ X1.length _ (by rfl) HSRC.out (by have:=LL1.out;have:=I4.out;have:=HB.out;rw [Nat.succ_mul] at this;omega) ?_;intro a8 cap8 w8 hA;have HA:=A0b hA;clear hA)
    go_roundw
    case rel=>
     have hA:=HA.out
     have hA2:=hA.chg (S:=fun k=>(Value.slice ap ps.length cp).ownBlock=some k) fun _ h=>h
     refine ⟨k+1,ps ++ X1,by go_num,by omega,?_,?_,?_,?_,I6.out⟩
     ·have e:(ps ++ X1).length=ps.length+X1.length:=by simp
      unfold A1r
      rw [A0Y,e]
      exact hA.own
     ·intro g hg
      rcases hA.at_ with h | h
      ·rw [h] at hg;exact I2.out g hg
      ·rw [h] at hg;cases hg;have:=I3.out.size;have:=HC6.out.size;omega
     ·exact (I3.out.trans HC6.out fun _ h _=>h).trans hA2 fun y hy hlt=>by have:=I2.out y hy;omega
     ·have:=LL1.out;have:=I4.out;rw [Nat.succ_mul];simp only [List.length_append];omega
    case measure=>simp [intOf];omega
  ·obtain rfl:k=logs.length:=by omega
   have I1:=A0b i1
   have I2:=A0b i2
   have I3:=A0b i3
   have hR1:R=(ps,0):=by rw [i5,List.drop_length];rfl
   subst hR1
   have hki:¬ ((logs.length:Int)<(logs.length:Int)):=by omega
   clear i1 i2 i3 i4 i5 hI
   go_wp2
   go_ret2
   exact ⟨_,rfl,I1.out,I2.out,I3.out⟩
end
end Go.Proofs.YtodcnkbblippnaaGreatDoor
namespace Go.Proofs.YtodcnkbblippnaaGreatDoor
open Go.RowKit
attribute [local go_sem ↓] A0p
theorem A3b {lt nm:Bs} {v:Int} (h:A1y lt nm=some v):(1≤v∧v≤4611686018427387904)∧A2B lt v=nm:=by
 unfold A1y at h
 cases hx:Lib.atoiAll (Lib.trimPrefix nm lt) with
 | ok x=>
  rw [hx] at h
  dsimp only at h
  split at h
  ·rename_i hc;cases h;exact ⟨⟨by omega,hc.2.1⟩,hc.2.2⟩
  ·cases h
 | «syntax»=>rw [hx] at h;cases h
 | range=>rw [hx] at h;cases h
theorem B3b {nm:Bs}:(A5c nm).1≠1∧(A5c nm).1≠2:=by
 unfold A5c A6P
 split
 ·simp
 ·split <;> simp
theorem B0i {nm:Bs} (h:(A0D nm).1=1):(1≤(A0D nm).2∧(A0D nm).2≤4611686018427387904)∧A0l (A0D nm).2=nm:=by
 unfold A0D at h ⊢
 cases hx:A1y [108] nm with
 | some v=>exact A3b hx
 | none=>
  rw [hx] at h
  dsimp only at h
  unfold A6D at h
  cases hy:A1y [115] nm with
  | some v=>rw [hy] at h;cases h
  | none=>rw [hy] at h;exact absurd h B3b.1
theorem A5m (nm:Bs):A0P (A0D nm).2:=by
 unfold A0D
 cases hx:A1y [108] nm with
 | some v=>have:=(A3b hx).1;unfold A0P;dsimp only;omega
 | none=>
  dsimp only
  unfold A6D
  cases hy:A1y [115] nm with
  | some v=>have:=(A3b hy).1;unfold A0P;dsimp only;omega
  | none=>dsimp only;unfold A5c A6P A0P;split <;> (try split) <;> simp
theorem A7y (first:Int) (l l':List Bs):A0B first (l ++ l')=A0B first l ++ A0B first l':=by simp [A0B]
theorem A3o (first:Int) (l:List Bs):(A0B first l).length≤l.length:=List.length_filterMap_le _ _
theorem A6E {first n:Int} {l:List Bs} (h:n∈A0B first l):first≤n∧(1≤n∧n≤4611686018427387904)∧A0l n∈l:=by
 obtain ⟨nm,h1,h2⟩:=List.mem_filterMap.1 h
 split at h2
 ·rename_i hc
  cases h2
  obtain ⟨k1,k2⟩:=B0i hc.1
  exact ⟨hc.2,k1,by rw [k2];exact h1⟩
 ·cases h2
theorem A2g (P:PD):P.names.length=P.D.dir.length:=by
 unfold PD.names A7A
 rw [List.length_map,A4w _ _ (Nat.le_refl _)]
theorem A4I (l:List Int) (x d:Int):(l ++ [x]).getLastD d=x:=by
 rw [List.getLastD_eq_getLast?];simp
theorem B4T {w:World} {b:Nat} {P:PD} {Ft:Nat→Prop} {a c m:Nat} (h:A1A w b P Ft) (hF:Fit P a c m) (hl:Lim a c m):
 Calls Tryz.prog 76 #[.pointer (some ⟨b,0,none⟩)] w fun e w'=>∃ v,e=.returned v∧A3V w' v P.names∧Chg (fun _=>False) w w'∧(∀ g,v.ownBlock=some g→w.heap.size≤g):=by
 refine (B5U h (by have:=hF.dir;have:=hl.a;omega)).mono ?_
 rintro e w' ⟨v,h1,h2,h3,h4⟩
 refine ⟨v,h1,?_,h3,h4⟩
 have hn:=A2g P
 unfold A3V
 rw [hn]
 rw [B0T] at h2
 exact h2
section
variable {w:World} {b B:Nat} {P:PD} {Ft:Nat→Prop} {a c m:Nat} {first:Int}
set_option maxRecDepth 100000 in
set_option maxHeartbeats 8000000 in
theorem B1T (w:World) (h:A1A w b P Ft) (hlt:∀ k,Ft k→k<w.heap.size) (hF:Fit P a c m) (hl:Lim a c m) (ham:a*m≤70368744177664) (hf:1≤first∧first≤4611686018427387904) (hL:A2i B w) (hE:B3p w) (hnl:∀ nm∈P.names,nm.length≤281474976710656):
 Calls Tryz.prog 99 #[.pointer (some ⟨b,0,none⟩),.int .i64 first] w fun e w'=>
  ((P.puts (A0B first P.names)).2≠0∧e=.returned (.tuple #[.pointer none,.slice none 0 0,.int .i64 (P.puts (A0B first P.names)).2])∧Chg (fun _=>False) w w')∨
  ((P.puts (A0B first P.names)).2=0∧∃ jb lv v,e=.returned (.tuple #[.pointer (some ⟨jb,0,none⟩),v,.int .i64 0])∧JnV w' jb b lv (.pointer none) (P.journal first)∧A1r w' v (P.puts (A0B first P.names)).1∧(∀ k,A3M jb lv (.pointer none) k→w.heap.size≤k)∧(∀ g,v.ownBlock=some g→w.heap.size≤g)∧Chg (fun _=>False) w w'):=by
 obtain ⟨i0,hi,hz0,hz1,hz2⟩:∃ i0,Tryz.prog.info? 3=some i0∧i0.zero=some (.int .i64 0)∧i0.size=1∧i0.bytes=8:=by
  have h:=Tryz.infoInt
  cases hx:Tryz.prog.info? 3 with
  | none=>rw [hx] at h;cases h
  | some i=>rw [hx] at h;simp at h;exact ⟨i,rfl,h.1,h.2.1,h.2.2⟩
 have LI:Hid (∀ w1,Chg (fun _=>False) w w1→Calls Tryz.prog 76 #[.pointer (some ⟨b,0,none⟩)] w1 fun e w'=>∃ v,e=.returned v∧A3V w' v P.names∧Chg (fun _=>False) w1 w'∧(∀ g,v.ownBlock=some g→w1.heap.size≤g)):=fun w1 hc=>B4T (A0R.same h hlt hc) hF hl
 have NA:Hid (∀ w1,Chg (fun _=>False) w w1→∀ nm∈P.names,Calls Tryz.prog 97 #[.string ⟨nm.toArray⟩] w1 fun e w'=>e=.returned (.tuple #[.int .i64 (A0D nm).1,.int .i64 (A0D nm).2])∧Chg (fun _=>False) w1 w'):=fun w1 hc nm hm=>A8n w1 nm (hnl nm hm) (hE.keep0 hc) (hL.keep0 hc)
 have hnlen:P.names.length≤a:=by rw [A2g];exact hF.dir
 have PU:Hid (∀ w1 jb lv last,Chg (fun _=>False) w w1→JnV w1 jb b lv (.pointer none) ⟨A0B first P.names,last,0,none⟩→Calls Tryz.prog 106 #[.pointer (some ⟨jb,0,none⟩)] w1 fun e w'=>∃ v,e=.returned (.tuple #[v,.int .i64 (P.puts (A0B first P.names)).2])∧A1r w' v (P.puts (A0B first P.names)).1∧(∀ g,v.ownBlock=some g→w1.heap.size≤g)∧Chg (fun _=>False) w1 w'):=fun w1 jb lv last hc hJ=>
  A9T w1 (A0R.same h hlt hc) (fun k hk=>Nat.lt_of_lt_of_le (hlt k hk) hc.size) hJ hF hl (Nat.le_trans (Nat.mul_le_mul_right m (Nat.le_trans (A3o first P.names) hnlen)) ham) (fun n hn=>by obtain ⟨_,h2,_⟩:=A6E hn;exact A2c (by omega) h2.2) (hL.keep0 hc)
 have hnl2:P.names.length≤1073741824:=Nat.le_trans hnlen hl.a
 have HJ:Hid (P.journal first=⟨A0B first P.names,(A0B first P.names).getLastD (first - 1),(P.puts (A0B first P.names)).1.length,none⟩):=rfl
 obtain ⟨Z,hZ⟩:∃ Z,P.journal first=Z:=⟨_,rfl⟩
 rw [hZ] at HJ ⊢
 obtain ⟨R,hR⟩:∃ R,P.puts (A0B first P.names)=R:=⟨_,rfl⟩
 rw [hR] at PU HJ ⊢
 clear hZ hR h hlt hF hl ham hL hE hnl hnlen
 generalize P.names=ns at *
 obtain ⟨f1,f2⟩:=hf
 have ew:IntKind.i64.wrap (first - 1)=first - 1:=by simp [IntKind.wrap,IntKind.bits,IntKind.signed];omega
 have hjb:A1g (w.alloc (.cells #[.pointer (some ⟨b,0,none⟩),.slice none 0 0,.int .i64 (first - 1),.int .i64 0,.pointer none] 208)) w.heap.size b (.slice none 0 0) (first - 1) 0 (.pointer none):=heap_alloc_new w _
 have C1:Hid (Chg (fun _=>False) w (w.alloc (.cells #[.pointer (some ⟨b,0,none⟩),.slice none 0 0,.int .i64 (first - 1),.int .i64 0,.pointer none] 208))):=(Chg.refl _ w).alloc _
 have LI1:=A0b (LI.out _ C1.out)
 have HJB:=A0b hjb
 have S1:Hid (w.heap.size<(w.alloc (.cells #[.pointer (some ⟨b,0,none⟩),.slice none 0 0,.int .i64 (first - 1),.int .i64 0,.pointer none] 208)).heap.size):=by unfold Hid;simp
 clear hjb LI
 go_enter Tryz.func99,Tryz.ntmps99
 go_wp2_with (fail)
 refine LI1.out.mono ?_
 rintro e w1 ⟨v,rfl,hv,hc1,hvo⟩
 obtain ⟨na,ncap,rfl,nc1,nc2⟩:=(A3V.rd hv).form
 unfold maxLen at nc2
 have HV:=A0b (A3V.rd hv)
 have B1:=A0b (HJB.out.keep hc1 (fun h=>h))
 have K1:Hid (Chg (fun _=>False) w w1):=C1.out.trans hc1 fun _ h _=>h
 have HW1:Hid (w.heap.size<w1.heap.size):=Nat.lt_of_lt_of_le S1.out hc1.size
 have HVO:Hid (∀ g,(Value.slice na ns.length ncap).ownBlock=some g→w.heap.size<g):=fun g hg=>Nat.lt_of_lt_of_le S1.out (hvo g hg)
 clear hv hc1 hvo LI1 C1 HJB S1
 obtain ⟨jb,hjb⟩:∃ jb,w.heap.size=jb:=⟨_,rfl⟩
 rw [hjb] at B1 HW1 ⊢
 have HBJ:=A0b hjb
 clear hjb
 go_wp2
 go_loopw [22] (fun iv wr=>∃ k:Nat,iv=.int .i64 k∧k≤ns.length∧Hid (∃ lv,A1g wr jb b lv ((A0B first (ns.take k)).getLastD (first - 1)) 0 (.pointer none)∧A5p wr lv (A0B first (ns.take k))∧(∀ g,lv.ownBlock=some g→w1.heap.size≤g)∧Chg (fun _=>False) w wr∧Chg (One jb) w1 wr)) (fun iv _=>ns.length - (intOf iv).toNat)
 case atStart=>exact ⟨0,rfl,by omega,_,B1.out,World.ownsRow_nil _ _ _ _,fun g hg=>by simp [Value.ownBlock] at hg,K1.out,Chg.refl _ _⟩
 case round=>
  obtain ⟨k,rfl,hk,hI⟩:=hrel
  obtain ⟨lv,i1,i2,i3,i4,i5⟩:=hI.out
  by_cases hk1:k<ns.length
  ·obtain ⟨g,o,rfl,d1⟩:=RdS.at HV.out k hk1
   have hmem:=List.getElem_mem hk1
   have htk:ns.take (k+1)=ns.take k ++ [ns[k]'hk1]:=List.take_succ_eq_append_getElem hk1
   obtain ⟨nm,hne⟩:∃ nm,(ns[k]'hk1)=nm:=⟨_,rfl⟩
   rw [hne] at d1 hmem htk
   have hvg:g<w1.heap.size:=A4a.lt HV.out rfl
   have hgj:jb<g:=by have:=HVO.out g rfl;have:=HBJ.out;omega
   have e1:=i5.cellKeepS d1 (fun h=>by have h':g=jb:=h;omega)
   have NA1:=A0b (NA.out wr i4 nm hmem)
   have hrg:=A5m nm
   have HTK:Hid (A0B first (ns.take (k+1))=A0B first (ns.take k) ++ (if (A0D nm).1=1∧first≤(A0D nm).2 then [(A0D nm).2] else [])):=by
    unfold Hid
    rw [htk,A7y]
    congr 1
    unfold A0B
    by_cases hc:(A0D nm).1=1∧first≤(A0D nm).2 <;> simp [hc]
   obtain ⟨X,hX⟩:∃ X,A0D nm=X:=⟨_,rfl⟩
   rw [hX] at NA1 HTK hrg
   obtain ⟨s,n⟩:=X
   dsimp only at NA1 HTK hrg
   obtain ⟨r1,r2⟩:=hrg
   have HLEN:Hid ((A0B first (ns.take k)).length≤ns.length):=Nat.le_trans (A3o _ _) (by rw [List.length_take];omega)
   have I1:=A0b i1
   have I2:=A0b i2
   have I3:=A0b i3
   have I4:=A0b i4
   have I5:=A0b i5
   have hki:(k:Int)<(ns.length:Int):=by omega
   have hk0:(0:Int)≤(k:Int):=Int.natCast_nonneg _
   clear hI i1 i2 i3 i4 i5 d1 hmem htk hne hX hgj
   obtain ⟨lg,hlg⟩:∃ lg,A0B first (ns.take k)=lg:=⟨_,rfl⟩
   rw [hlg] at HTK HLEN I1 I2
   clear hlg
   by_cases hc:s=1∧first≤n
   case neg=>
    have HTK2:Hid (A0B first (ns.take (k+1))=lg):=by rw [HTK.out,if_neg hc,List.append_nil];rfl
    by_cases hs:s=1
    ·subst hs
     have hfn:¬ first≤n:=fun h=>hc ⟨rfl,h⟩
     go_wp2_with (go_at_call 97;refine NA1.out.mono ?_;rintro e w6 ⟨rfl,hc6⟩;have HC6:=A0b hc6;clear hc6)
     go_roundw
     case rel=>exact ⟨k+1,by go_num,by omega,lv,by rw [HTK2.out];exact I1.out.keep HC6.out (fun h=>h),by rw [HTK2.out];exact A0a I2.out fun g hg=>HC6.out.block g (A0c I2.out hg) (fun h=>h),I3.out,I4.out.trans HC6.out fun _ h _=>h,I5.out.trans HC6.out fun _ h _=>h.elim⟩
     case measure=>simp [intOf];omega
    ·have hsb:(s == 1)=false:=by simpa using hs
     go_wp2_with (go_at_call 97;refine NA1.out.mono ?_;rintro e w6 ⟨rfl,hc6⟩;have HC6:=A0b hc6;clear hc6)
     go_roundw
     case rel=>exact ⟨k+1,by go_num,by omega,lv,by rw [HTK2.out];exact I1.out.keep HC6.out (fun h=>h),by rw [HTK2.out];exact A0a I2.out fun g hg=>HC6.out.block g (A0c I2.out hg) (fun h=>h),I3.out,I4.out.trans HC6.out fun _ h _=>h,I5.out.trans HC6.out fun _ h _=>h.elim⟩
     case measure=>simp [intOf];omega
   case pos=>
    have HTK2:Hid (A0B first (ns.take (k+1))=lg ++ [n]):=by rw [HTK.out,if_pos hc];rfl
    obtain ⟨rfl,hfn⟩:=hc
    obtain ⟨ap,cp,rfl,hcap1,hcap2,-⟩:=A0g I2.out
    unfold maxLen at hcap2
    go_wp2_with (fail)
    refine NA1.out.mono ?_
    rintro e w6 ⟨rfl,hc6⟩
    have B6:=I1.out.keep hc6 (fun h=>h)
    have g1:=B6.c1
    have HROW:Hid ((w6.alloc (.cells #[.int .i64 n] 3)).ownsRow 0 3 1 (.slice ap lg.length cp) lg.length (A0X lg)):=A0a I2.out fun g hg=>(hc6.alloc _).block g (A0c I2.out hg) (fun h=>h)
    have HS1:=A0b (Src.ofNew (size:=1) (B:=w6.heap.size) Tryz.underlying26 w6 #[.int .i64 n] 3 (by simp) 1 1 rfl (A1v [n]))
    have B7:=A0b (B6.keep ((Chg.refl (fun _=>False) w6).alloc (.cells #[.int .i64 n] 3)) (fun h=>h))
    have K7:Hid (Chg (fun _=>False) wr (w6.alloc (.cells #[.int .i64 n] 3))):=hc6.alloc _
    have c71:=B7.out.c1
    clear hc6 NA1 B6
    go_wp2_with (at_builtin;refine A0o rfl (.tmp 42) (.tmp 44) 26 26 rfl 3 i0 _ 1 8 Tryz.underlying26 hi hz0 hz1 hz2 rfl (by decide) (.slice ap lg.length cp) lg.length (A0X lg) (by rfl) HROW.out _ 1 _ (by rfl) HS1.out (by have:=HLEN.out;omega) ?_;intro a8 cap8 w8 hA;have HA2:=A0b (hA.chg (S:=fun k=>(Value.slice ap lg.length cp).ownBlock=some k) fun _ h=>h);have B8:=B7.out.keep HA2.out (fun h=>by have:=I3.out _ h;have:=HW1.out;omega);have g81:=B8.c1;have f81:=B8.fz 1;have B9:=B8.s1 (.slice a8 (lg.length+1) cap8);have g82:=B9.c2;have f82:=B9.fz 2;have HB10:=A0b (B9.s2 n);have HOWN:=A0b hA.own;have HAT:=A0b hA.at_;clear hA B8 B9)
    go_roundw
    case rel=>
     have e:(lg ++ [n]).length=lg.length+1:=by simp
     have hown:∀ g,(Value.slice a8 (lg.length+1) cap8).ownBlock=some g→w1.heap.size≤g:=fun g hg=>by
      rcases HAT.out with h | h
      ·rw [h] at hg;exact I3.out g hg
      ·rw [h] at hg;cases hg;have:=I5.out.size;have:=K7.out.size;omega
     have k8:Chg (fun k=>(Value.slice ap lg.length cp).ownBlock=some k) wr w8:=(K7.out.mono fun _ _ h=>h.elim).trans HA2.out fun _ h _=>h
     have k10:Chg (fun k=>k=jb∨(Value.slice ap lg.length cp).ownBlock=some k) wr ((w8.setCell ⟨jb,1,none⟩ (.slice a8 (lg.length+1) cap8)).setCell ⟨jb,2,none⟩ (.int .i64 n)):=
      ((k8.mono fun _ _ h=>.inr h).setAt (b:=jb) (.inl rfl) 1 _).setAt (b:=jb) (.inl rfl) 2 _
     refine ⟨k+1,by go_num,by omega,.slice a8 (lg.length+1) cap8,by rw [HTK2.out,A4I];exact HB10.out,?_,hown,?_,?_⟩
     ·rw [HTK2.out]
      unfold A5p
      rw [A2d,e]
      exact A0a HOWN.out fun g hg=>by
       have h1:=hown g hg
       have h2:=HW1.out
       rw [Below.heap_setCell _ _ _ _ (fun e=>by have e':g=jb:=e;omega),Below.heap_setCell _ _ _ _ (fun e=>by have e':g=jb:=e;omega)]
     ·exact I4.out.trans k10 fun x hx hlt=>by
       have h2:=HBJ.out
       rcases hx with rfl | hx
       ·omega
       ·have:=I3.out x hx;have:=HW1.out;omega
     ·exact I5.out.trans k10 fun x hx hlt=>by
       rcases hx with rfl | hx
       ·rfl
       ·have:=I3.out x hx;omega
    case measure=>simp [intOf];omega
  ·obtain rfl:k=ns.length:=by omega
   rw [List.take_length] at i1 i2
   have hki:¬ ((ns.length:Int)<(ns.length:Int)):=by omega
   have PU1:=A0b (PU.out wr jb lv _ i4 ⟨i1,i2,.inl ⟨rfl,rfl⟩⟩)
   obtain ⟨R1,R2⟩:=R
   dsimp only at PU1 HJ
   have I1:=A0b i1
   have I2:=A0b i2
   have I3:=A0b i3
   have I4:=A0b i4
   have I5:=A0b i5
   clear i1 i2 i3 i4 i5 hI PU
   by_cases hr:R2=0
   case neg=>
    have hrb:(R2 != 0)=true:=by simpa using hr
    go_wp2_with (go_at_call 106;refine PU1.out.mono ?_;rintro e w6 ⟨v,rfl,-,-,hc6⟩;have HC6:=A0b hc6;clear hc6)
    go_ret3
    exact ⟨rfl,I4.out.trans HC6.out fun _ h _=>h⟩
   case pos=>
    subst hr
    go_wp2_with (fail)
    refine PU1.out.mono ?_
    rintro e w6 ⟨v,rfl,hv,hvo,hc6⟩
    obtain ⟨va,vcap,rfl,vc1,vc2,-⟩:=A0g hv
    unfold maxLen at vc2
    have B6:=I1.out.keep hc6 (fun h=>h)
    have g63:=B6.c3
    have f63:=B6.fz 3
    have B7:=A0b (B6.s3 R1.length)
    have HV6:=A0b hv
    have HVO6:=A0b hvo
    have HC6:=A0b hc6
    clear hv hvo hc6 B6 PU1
    go_wp2
    go_ret3
    have hnj:∀ g,lv.ownBlock=some g→g≠jb:=fun g hg e=>by have:=I3.out g hg;have:=HW1.out;omega
    have h2:=HBJ.out
    have k7:Chg (One jb) wr (w6.setCell ⟨jb,3,none⟩ (.int .i64 R1.length)):=(HC6.out.mono (S':=One jb) fun _ _ h=>h.elim).setAt (b:=jb) rfl 3 _
    refine ⟨jb,lv,_,rfl,?_,?_,fun x hx=>?_,fun g hg=>?_,?_⟩
    ·rw [HJ.out]
     exact ⟨B7.out,A0a I2.out fun g hg=>k7.block g (A0c I2.out hg) (hnj g hg),.inl ⟨rfl,rfl⟩⟩
    ·exact A0a HV6.out fun g hg=>Below.heap_setCell _ _ _ _ (fun e=>by
      have e':g=jb:=e
      have:=HVO6.out g hg
      have:=I4.out.size
      have:=I5.out.size
      have:=HW1.out
      omega)
    ·rcases hx with rfl | hx | hx
     ·omega
     ·have:=I3.out x hx;have:=HW1.out;omega
     ·cases hx
    ·have:=HVO6.out g hg;have:=I4.out.size;omega
    ·exact I4.out.trans k7 fun x hx hlt=>by have e':x=jb:=hx;omega
end
end Go.Proofs.YtodcnkbblippnaaGreatDoor
namespace Go.Proofs.YtodcnkbblippnaaGreatDoor
open Go.RowKit
attribute [local go_sem ↓] A0p
def JD (w:World) (jb b:Nat) (J:Jn) (P:PD) (FT:Nat→Prop):Prop:=
 ∃ lv ov Ft,JnV w jb b lv ov J∧A1A w b P Ft∧(∀ k,Ft k→k<w.heap.size)∧(∀ k,A3M jb lv ov k→¬ Ft k)∧∀ k,Ft k∨A3M jb lv ov k→FT k
theorem JD.frame {w w':World} {jb b:Nat} {J:Jn} {P:PD} {FT:Nat→Prop} (h:JD w jb b J P FT) (hs:A9f FT w w') (hz:w.heap.size≤w'.heap.size):JD w' jb b J P FT:=by
 obtain ⟨lv,ov,Ft,h1,h2,h3,h4,h5⟩:=h
 exact ⟨lv,ov,Ft,h1.frame fun k hk=>hs k (h5 k (.inr hk)),h2.frame fun k hk=>hs k (h5 k (.inl hk)),fun k hk=>Nat.lt_of_lt_of_le (h3 k hk) hz,h4,h5⟩
theorem A0A.jd {w w':World} {jb b:Nat} {J:Jn} {P:PD} {FT S:Nat→Prop} {lv ov:Value} {Ft:Nat→Prop} (hc:Chg S w w') (hS:∀ k,k<w.heap.size→S k→FT k)
 (h1:JnV w' jb b lv ov J) (h2:A1A w' b P Ft) (h3:∀ k,Ft k→k<w'.heap.size) (h4:∀ k,A3M jb lv ov k→¬ Ft k) (h5:∀ k,Ft k→FT k∨w.heap.size≤k) (h6:∀ k,A3M jb lv ov k→FT k∨w.heap.size≤k):
 A0A w FT w' (fun w' FT'=>JD w' jb b J P FT'):=
 ⟨hc.mono hS,fun k=>Ft k∨A3M jb lv ov k,⟨lv,ov,Ft,h1,h2,h3,h4,fun _ h=>h⟩,fun k hk=>hk.elim (h3 k) fun h=>h1.lt h,fun k hk=>hk.elim (h5 k) (h6 k)⟩
theorem JnV.ne {w:World} {jb b:Nat} {lv ov:Value} {J:Jn} (h:JnV w jb b lv ov J) {g:Nat} (hg:lv.ownBlock=some g):g≠jb:=by
 obtain ⟨c,hc⟩:=A0f h.logs hg
 exact A0r hc h.blk (by decide)
theorem A0z.neInt {w:World} {lb:Nat} {p:Value} {name:ByteArray} {s n:Nat} {v:Value} {xs:List Value} (h:A0z w lb 237 p name s) (ho:w.ownsRow 0 3 1 v n xs) {g:Nat} (hg:v.ownBlock=some g):g≠lb:=by
 obtain ⟨c,hc⟩:=A0f ho hg
 exact A0r hc h (by decide)
theorem A0z.neJn {w:World} {lb jb b:Nat} {p:Value} {name:ByteArray} {s:Nat} {lv ov:Value} {last puts:Int} (h:A0z w lb 237 p name s) (hj:A1g w jb b lv last puts ov):lb≠jb:=A0r h hj (by decide)
section
variable {w:World} {b B jb lb:Nat} {P:PD} {Ft FT:Nat→Prop} {a c m:Nat} {lv ov:Value} {J:Jn} {n:Int}
set_option maxRecDepth 100000 in
theorem B0d (w:World) (hJ:JnV w jb b lv ov J) (hr:A0P (J.last+1)):
 Calls Tryz.prog 199 #[.pointer (some ⟨jb,0,none⟩)] w fun e w'=>e=.returned (.int .i64 (J.last+1))∧w=w':=by
 have c2:=hJ.blk.c2
 obtain ⟨r1,r2⟩:=hr
 have ew:wrap64 (J.last+1)=J.last+1:=by unfold wrap64;omega
 clear hJ
 go_enter Tryz.func199,Tryz.ntmps199
 go_wp2
 go_ret
 exact ⟨rfl,rfl⟩
set_option maxRecDepth 100000 in
set_option maxHeartbeats 1000000 in
theorem B4v (w:World) (hJ:JnV w jb b lv ov J) (hl:J.logs.length≤1073741824):
 Calls Tryz.prog 136 #[.pointer (some ⟨jb,0,none⟩)] w fun e w'=>∃ v,e=.returned v∧A5p w' v J.logs∧(∀ g,v.ownBlock=some g→w.heap.size≤g)∧Chg (fun _=>False) w w':=by
 obtain ⟨i0,hi,hz0,hz1,hz2⟩:∃ i0,Tryz.prog.info? 3=some i0∧i0.zero=some (.int .i64 0)∧i0.size=1∧i0.bytes=8:=by
  have h:=Tryz.infoInt
  cases hx:Tryz.prog.info? 3 with
  | none=>rw [hx] at h;cases h
  | some i=>rw [hx] at h;simp at h;exact ⟨i,rfl,h.1,h.2.1,h.2.2⟩
 have c1:=hJ.blk.c1
 have HSRC:=A0b (Src.ofOwn Tryz.underlying26 hJ.logs (A1v J.logs))
 have HNIL:Hid (w.ownsRow 0 3 1 (.slice none 0 0) 0 []):=World.ownsRow_nil _ _ _ _
 clear hJ
 generalize J.logs=l at *
 go_enter Tryz.func136,Tryz.ntmps136
 go_wp2_with (at_builtin;refine A0o rfl (.const (.slice none 0 0)) (.tmp 6) 26 26 rfl 3 i0 _ 1 8 Tryz.underlying26 hi hz0 hz1 hz2 rfl (by decide) (.slice none 0 0) 0 [] (by rfl) HNIL.out _ l.length _ (by rfl) HSRC.out (by omega) ?_;intro a8 cap8 w8 hA;have HA:=A0b hA;clear hA)
 go_ret
 have hA:=HA.out
 have hA2:=hA.chg (S:=fun _=>False) fun _ h=>by simp [Value.ownBlock] at h
 refine ⟨_,rfl,?_,?_,hA2⟩
 ·have:=hA.own
  simp only [List.nil_append,Nat.zero_add] at this ⊢
  exact this
 ·intro g hg
  have hat:=hA.at_
  simp only [Nat.zero_add] at hat
  cases a8 with
  | none=>simp [Value.ownBlock] at hg
  | some x=>
   simp [Value.ownBlock] at hat hg
   omega
set_option maxRecDepth 100000 in
set_option maxHeartbeats 1000000 in
theorem B2o (w:World) (hJ:JnV w jb b lv ov J):
 Calls Tryz.prog 201 #[.pointer (some ⟨jb,0,none⟩)] w fun e w'=>e=.returned (.tuple #[])∧JnV w' jb b (.slice none 0 0) (.pointer none) ⟨[],J.last,0,none⟩∧Chg (One jb) w w':=by
 have h1:=hJ.blk.s1 (.slice none 0 0)
 have h2:=h1.s3 0
 have h3:=h2.s4 (.pointer none)
 have c1:=hJ.blk.c1
 have f1:=hJ.blk.fz 1
 have c3:=h1.c3
 have f3:=h1.fz 3
 have c4:=h2.c4
 have f4:=h2.fz 4
 have H:=A0b h3
 clear h1 h2 h3 hJ
 go_enter Tryz.func201,Tryz.ntmps201
 go_wp2
 go_end0
 exact ⟨rfl,⟨H.out,World.ownsRow_nil _ _ _ _,.inl ⟨rfl,rfl⟩⟩,((((Chg.refl (One jb) w).setAt (b:=jb) rfl 1 _).setAt (b:=jb) rfl 3 _).setAt (b:=jb) rfl 4 _)⟩
theorem B4O (w:World) (ahead:Int) (h:A1A w b P Ft) (hlt:∀ k,Ft k→k<w.heap.size) (hn:A1j n) (hL:A2i B w) (ha:A0P ahead) (hF:Fit P a c m) (hl:Lim (a+1) (c+1) (m+12)):
 Calls Tryz.prog 236 #[.pointer (some ⟨b,0,none⟩),.int .i64 n,.int .i64 ahead] w fun e w'=>
  ((P.create (nmB (A0l n))).1≠0∧e=.returned (.tuple #[.pointer none,.int .i64 (P.create (nmB (A0l n))).1])∧A0A w Ft w' (fun w' Ft'=>A1A w' b (P.create (nmB (A0l n))).2 Ft'))∨
  ((P.create (nmB (A0l n))).1=0∧((P.create (nmB (A0l n))).2.add (nmB (A0l n)) (A1m (A0l n)) (A1h ahead)).2.1≠0∧e=.returned (.tuple #[.pointer none,.int .i64 ((P.create (nmB (A0l n))).2.add (nmB (A0l n)) (A1m (A0l n)) (A1h ahead)).2.1])∧A0A w Ft w' (fun w' Ft'=>A1A w' b ((P.create (nmB (A0l n))).2.add (nmB (A0l n)) (A1m (A0l n)) (A1h ahead)).2.2 Ft'))∨
  ((P.create (nmB (A0l n))).1=0∧((P.create (nmB (A0l n))).2.add (nmB (A0l n)) (A1m (A0l n)) (A1h ahead)).2.1=0∧∃ lb,e=.returned (.tuple #[.pointer (some ⟨lb,0,none⟩),.int .i64 0])∧w.heap.size≤lb∧A0z w' lb 237 (.pointer (some ⟨b,0,none⟩)) ⟨(A0l n).toArray⟩ (A0w (A1m (A0l n)) (A1h ahead))∧
    Chg Ft w w'∧∃ Ft',A1A w' b ((P.create (nmB (A0l n))).2.add (nmB (A0l n)) (A1m (A0l n)) (A1h ahead)).2.2 Ft'∧(∀ k,Ft' k→k<w'.heap.size)∧(∀ k,Ft' k→Ft k∨w.heap.size≤k)∧¬ Ft' lb):=by
 have hFc:=hF.create (nmB (A0l n))
 have hp:(A0L (A1m (A0l n)) (A1h ahead)).length=12:=by simp [A0L,A1i,A0v]
 have hA:=hFc.append (nmB (A0l n)) (A0L (A1m (A0l n)) (A1h ahead))
 have hz:=A3N hA (nmB (A0l n))
 have hz2:=A3N hFc (nmB (A0l n))
 have hm:=hl.m
 exact B1b w ahead P.D.fresh (P.create (nmB (A0l n))).2.D ((P.create (nmB (A0l n))).2.append (nmB (A0l n)) (A0L (A1m (A0l n)) (A1h ahead))).2.D (P.create (nmB (A0l n))).2.F ((P.create (nmB (A0l n))).2.append (nmB (A0l n)) (A0L (A1m (A0l n)) (A1h ahead))).2.F _ _ h hlt hn hL ha P.D.fresh_not
  (by have:=hF.dir;have:=hF.chg;have:=hl.a;have:=hl.c;omega) rfl rfl rfl hFc.room (Nat.le_trans hFc.used (Nat.le_trans (Nat.mul_le_mul hl.a (Nat.le_trans (Nat.le_add_right m 12) hl.m)) (by decide))) hFc.part
  (fun f hf=>by have:=hFc.len f (A0T hf);omega) ⟨Int.le_trans hz (by rw [hp];omega),Int.le_trans hz2 (by omega)⟩
theorem B4M (p:Pu) (name:ByteArray) (s:Nat) (hf:A0z w lb 237 (.pointer (some ⟨b,0,none⟩)) name s) (hs:s<4294967296) (h:A1A w b P Ft) (hlt:∀ k,Ft k→k<w.heap.size) (hn:¬ Ft lb) (hp:A4q p) (hF:Fit P a c m) (hl:Lim a c (m+21)):
 Calls Tryz.prog 191 #[.pointer (some ⟨lb,0,none⟩),A2t p] w fun e w'=>e=.returned (.tuple #[.bool (P.add name s (A1N p.1 p.2.1 p.2.2)).1,.int .i64 (P.add name s (A1N p.1 p.2.1 p.2.2)).2.1])∧
  A0z w' lb 237 (.pointer (some ⟨b,0,none⟩)) name (A0w s (A1N p.1 p.2.1 p.2.2))∧A9b w Ft lb w' b (P.add name s (A1N p.1 p.2.1 p.2.2)).2.2:=by
 obtain ⟨⟨h1,h2⟩,h3,h4⟩:=hp
 have hpl:(A0L s (A1N p.1 p.2.1 p.2.2)).length=21:=by simp [A0L,A1i,A7g]
 have hA:=hF.append name (A0L s (A1N p.1 p.2.1 p.2.2))
 have hz:=A3N hA name
 have hz2:=A3N hF name
 have hm:=hl.m
 have hl0:Lim a c m:=⟨hl.a,hl.c,by omega⟩
 exact B0A w lb name s p.1 p.2.1 p.2.2 ⟨h1,by omega⟩ h3 h4 hf hs h hlt hn hF.room (hF.usedLim hl0) hF.part (fun f hf=>by have:=hF.len f (A0T hf);omega) ⟨Int.le_trans hz (by rw [hpl];omega),Int.le_trans hz2 (by omega)⟩
end
end Go.Proofs.YtodcnkbblippnaaGreatDoor
