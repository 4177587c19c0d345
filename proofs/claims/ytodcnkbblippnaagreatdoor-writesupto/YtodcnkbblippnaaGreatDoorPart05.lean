/-
  The statement WritesUptoCardSaid is proved: the law Writes answers true for every setting and every script of at most 1048576 bytes; there is no other condition.
  Part 5 of 33.
-/
import Derived.Test.YtodcnkbblippnaaGreatDoorPart03
import Derived.Deep.RegionHeld3
import Derived.BigRegion
import Derived.BigQuiet
import Derived.Deep.QuietTactic
import Derived.Deep.RegionLaw
import Derived.Test.YtodcnkbblippnaaGreatDoorPart04
import Derived.StillTailTactics
namespace Go.Proofs.YtodcnkbblippnaaGreatDoor
open Go.RowKit
attribute [local go_sem ↓] Go.wp_at_zero Go.wp_at_succ
theorem A8V {w w1 w3 w5:World} {b:Nat} {D:DS} {F:Nat→FC} {vd vs vc vl vc':Value} {vals:List Value} {VB:Nat→Value} {Ft:Nat→Prop} {n1:DN} {es:List Ent}
 (hr:A2j w b D F vd vs vc vals VB) (hft:∀ k,A2M b D vd vs vc vals VB k→Ft k) (hb1:A0H w1 b vd vs vc n1) (hc1:Chg (One b) w w1) (c13:Chg (fun _=>False) w1 w3)
 (e3:A1l w3 vl es) (hvl:∀ g,vl.ownBlock=some g→w1.heap.size≤g) (hes:∀ f,A1f f es→D.ids f)
 (hb5:A0H w5 b vl vs vc' n1) (hch:w5.ownsRow 0 120 1 vc' (D.changes.length+1) (vals ++ [vl]))
 (hc5:Chg (fun k=>k=b∨vc.ownBlock=some k) w3 w5) (hv:∀ g,vc'.ownBlock=some g→vc.ownBlock=some g∨w3.heap.size≤g):
 A1O w Ft w5 b { D with dir:=es,changes:=D.changes ++ [es],n:=n1 } F:=by
 have s1:=hc1.size
 have s3:=c13.size
 have r1:=hr.turn hb1 hc1
 have r3:A2j w3 b { D with n:=n1 } F vd vs vc vals VB:=r1.frame fun k hk=>c13.block k (r1.lt hk) (fun h=>h)
 have e5:A1l w5 vl es:=A0a e3 fun g hg=>hc5.block g (A0c e3 hg) (by
  obtain ⟨c,hh⟩:=A0f e3 hg
  rintro (e | e)
  ·exact A0r hh r3.blk (by decide) e
  ·obtain ⟨c',hh'⟩:=A0f r3.chg e
   exact A0r hh hh' (by decide) rfl)
 have r5:=r3.turnDir (F':=F) (VB':=VB) (es:=es) hb5 hch e5 hc5 (fun k hk=>hk) (fun f hf=>⟨rfl,rfl⟩) (fun f hf=>.inl (hes f hf))
 have hids:∀ f,({ D with dir:=es,changes:=D.changes ++ [es],n:=n1 }:DS).ids f→D.ids f:=by
  rintro f (hf | hf | ⟨c,hcm,hf⟩)
  ·exact hes f hf
  ·exact .inr (.inl hf)
  ·rcases List.mem_append.1 hcm with hcm | hcm
   ·exact .inr (.inr ⟨c,hcm,hf⟩)
   ·simp at hcm;subst hcm;exact hes f hf
 refine A1O.mk' ?_ r5 ?_
 ·have a:Chg Ft w w3:=(hc1.mono (S':=Ft) fun k _ hk=>by cases hk;exact hft b .blk).trans c13 (fun x hx=>hx.elim)
  refine a.trans hc5 ?_
  rintro x (e | e) _
  ·subst e;exact hft x .blk
  ·exact hft x (.chg e)
 ·intro k hk
  cases hk using A2M.elim with
  | blk=>exact .inl (hft b .blk)
  | dir e=>right;have:=hvl _ e;omega
  | safe e=>exact .inl (hft k (.safe e))
  | chg e=>
   rcases hv k e with h | h
   ·exact .inl (hft k (.chg h))
   ·right;omega
  | che hm e=>
   rcases List.mem_append.1 hm with hm | hm
   ·exact .inl (hft k (.che hm e))
   ·simp at hm;subst hm;right;have:=hvl _ e;omega
  | fil hf=>exact .inl (hft _ (.fil (hids _ hf)))
  | byt hf e=>exact .inl (hft _ (.byt (hids _ hf) e))
theorem A8Y {w w1 w3:World} {b:Nat} {D:DS} {F:Nat→FC} {vd vs vc:Value} {vals:List Value} {VB:Nat→Value} {n1:DN} (hr:A2j w b D F vd vs vc vals VB) (hb1:A0H w1 b vd vs vc n1) (hc1:Chg (One b) w w1) (c13:Chg (fun _=>False) w1 w3):
 A0H w3 b vd vs vc n1∧w3.ownsRow 0 120 1 vc D.changes.length vals:=by
 have r1:=hr.turn hb1 hc1
 exact ⟨hb1.chg c13 (fun h=>h),A0a r1.chg fun g hg=>c13.block g (A0c r1.chg hg) (fun h=>h)⟩
theorem App.chgNil {w w':World} {e size n:Nat} {v':Value} {xs:List Value} (h:App w w' e size (.slice none 0 0) v' n xs):Chg (fun _=>False) w w':=h.chg (fun k hk=>by simp [Value.ownBlock] at hk)
theorem App.fresh {w w':World} {e size n:Nat} {v':Value} {xs:List Value} (h:App w w' e size (.slice none 0 0) v' n xs):∀ g,v'.ownBlock=some g→w.heap.size≤g:=by
 intro g hg
 rcases h.at_ with h | h
 ·rw [h] at hg;cases hg
 ·rw [h] at hg;cases hg;exact Nat.le_refl _
theorem App.chg2 {w0 w w':World} {e size n:Nat} {v v':Value} {xs:List Value} (h:App w w' e size v v' n xs) (h0:Chg (fun _=>False) w0 w) (hv:∀ g,v.ownBlock=some g→w0.heap.size≤g):
 Chg (fun _=>False) w0 w'∧∀ g,v'.ownBlock=some g→w0.heap.size≤g:=by
 refine ⟨h0.grown h.grown fun k hk hlt=>by have:=hv k hk;omega,fun g hg=>?_⟩
 rcases h.at_ with h1 | h1
 ·rw [h1] at hg;exact hv g hg
 ·rw [h1] at hg;cases hg;exact h0.size
def A1a (D:DS) (name:ByteArray):Int × DS:=
 if A1x D.dir name<0 then (8,D) else
  let es:=D.dir.take (A1x D.dir name).toNat ++ D.dir.drop ((A1x D.dir name).toNat+1)
  ((bg D.n).2.1,if (bg D.n).1 then { D with dir:=es,changes:=D.changes ++ [es],n:=(bg D.n).2.2 } else { D with n:=(bg D.n).2.2 })
set_option maxRecDepth 100000 in
set_option maxHeartbeats 1000000 in
theorem B0u (w:World) (b:Nat) (D:DS) (F:Nat→FC) (Ft:Nat→Prop) (h:Rep w b D F Ft) (name:ByteArray) (hs:D.dir.length<1099511627776∧D.changes.length<1099511627776):
 Calls Tryz.prog 193 #[.pointer (some ⟨b,0,none⟩),.string name] w fun e w'=>e=.returned (.int .i64 (A1a D name).1)∧A1O w Ft w' b (A1a D name).2 F:=by
 obtain ⟨vd,vs,vc,vals,VB,hr,hft⟩:=h
 obtain ⟨hs1,hs2⟩:=hs
 have HR:=A0b hr
 have HFT:=A0b hft
 have c0:=hr.blk.c0
 have hd:=A0b hr.dir
 have hbk:=A0b hr.blk
 rcases B0Z D.dir name with ⟨h1,h2⟩ | ⟨k,hk,h1,h2⟩
 ·have q:Hid (A1a D name=(8,D)):=by unfold Hid A1a;rw [if_pos (by omega)]
  have hfi:A1x D.dir name<0:=by omega
  clear hr h1 h2
  go_enter Tryz.func193,Tryz.ntmps193
  go_wp2_with (go_at_call 77;refine (A0F _ _ _ _ hd.out).mono ?_;rintro e w' ⟨rfl,rfl⟩)
  go_ret
  rw [q.out]
  exact ⟨rfl,A1O.mk' (Chg.refl _ _) HR.out fun k hk=>.inl (hft k hk)⟩
 ·have q:Hid (A1a D name=((bg D.n).2.1,if (bg D.n).1 then { D with dir:=D.dir.take k ++ D.dir.drop (k+1),changes:=D.changes ++ [D.dir.take k ++ D.dir.drop (k+1)],n:=(bg D.n).2.2 } else { D with n:=(bg D.n).2.2 })):=by
   unfold Hid A1a;rw [if_neg (by omega),h1];rfl
  have H1:=A0b h1
  clear hr h1 h2
  by_cases hdo:(bg D.n).1=true
  ·obtain ⟨i0,hi,hz0,hz1,hz2⟩:=info_parts Tryz.infoEntry
   obtain ⟨a,cap,rfl,z1,z2,hcell⟩:=HR.out.dir.form
   obtain ⟨g,rfl,_,_⟩:=hcell k hk
   clear hcell
   unfold maxLen at z2
   have hk1:k+1≤D.dir.length:=hk
   have r1':Hid (∀ w1,A0H w1 b (.slice (some ⟨g,0,none⟩) D.dir.length cap) vs vc (bg D.n).2.2→Chg (One b) w w1→w1.ownsRow 0 125 2 (.slice (some ⟨g,0,none⟩) k cap) k ((A0s D.dir).take (k*2))∧A1l w1 (.slice (some ⟨g,0,none⟩) D.dir.length cap) D.dir):=fun w1 g1 g2=>
    ⟨A9C (HR.out.turn g1 g2).dir (by omega),(HR.out.turn g1 g2).dir⟩
   have hone:∀ u∈(A0s D.dir).take (k*2),u.oneCell'=true:=fun u hu=>A2A _ u (List.mem_of_mem_take hu)
   have Hone:=A0b hone
   clear hone
   have hes:Hid (∀ f,A1f f (D.dir.take k ++ D.dir.drop (k+1))→D.ids f):=by
    rintro f ⟨e,he,rfl⟩
    rcases List.mem_append.1 he with he | he
    ·exact .inl ⟨e,List.mem_of_mem_take he,rfl⟩
    ·exact .inl ⟨e,List.mem_of_mem_drop he,rfl⟩
   have hlen:(D.dir.take k ++ D.dir.drop (k+1)).length=k+(D.dir.length - (k+1)):=by simp;omega
   have EB:Hid (∀ (w2 w3:World) (v2 v3:Value),App w2 w3 125 2 v2 v3 (k+(D.dir.length - (k+1))) ((A0s D.dir).take (k*2) ++ A0s (D.dir.drop (k+1)))→A1l w3 v3 (D.dir.take k ++ D.dir.drop (k+1))):=by
    intro w2 w3 v2 v3 h
    unfold A1l
    rw [hlen,A1G,← A8B];exact h.own
   clear hlen
   by_cases hcp:cap=k+1
   ·subst hcp
    have hz:D.dir.length=k+1:=by omega
    have HS:Hid (∀ w1 w2:World,A1l w1 (.slice (some ⟨g,0,none⟩) D.dir.length (k+1)) D.dir→Chg (fun _=>False) w1 w2→Src Tryz.prog 2 92 (.slice (some ⟨g,0,none⟩) 0 0) 0 [] w2):=
     fun w1 w2 _ _=>Src.ofSlice w2 Tryz.underlying92 _ 0 _ [] rfl (by simp) (by simp)
    have EB0:Hid (∀ (w2 w3:World) (v2 v3:Value),App w2 w3 125 2 v2 v3 (k+0) ((A0s D.dir).take (k*2) ++ [])→A1l w3 v3 (D.dir.take k ++ D.dir.drop (k+1))):=by
     intro w2 w3 v2 v3 h
     refine EB.out w2 w3 v2 v3 ?_
     rw [List.drop_of_length_le (by omega),show D.dir.length - (k+1)=0 from by omega];exact h
    clear hz
    go_enter Tryz.func193,Tryz.ntmps193
    go_wp2_with (first
     | (go_at_call 77;refine (A0F _ _ _ _ hd.out).mono ?_;rintro e w' ⟨rfl,rfl⟩;rw [H1.out])
     | (go_at_call 121;refine (A1e _ _ _ _ _ _ hbk.out).mono ?_;rintro e w1 ⟨rfl,hb1,hc1⟩;have c01:=hb1.c0;have R1:=A0b (r1'.out w1 hb1 hc1))
     | (at_builtin;refine A0o rfl (.const (.slice none 0 0)) (.tmp 28) 92 92 rfl 125 i0 _ 2 24 Tryz.underlying92 hi hz0 hz1 hz2 rfl (by decide) (.slice none 0 0) 0 [] (by rfl) (World.ownsRow_nil _ 0 125 2) (.slice (some ⟨g,0,none⟩) k (k+1)) k ((A0s D.dir).take (k*2)) (by rfl) (Src.ofOwn Tryz.underlying92 R1.out.1 Hone.out) (by omega) ?_;intro a2 cap2 w2 hA;simp only [Nat.zero_add,List.nil_append] at hA;have hA2:=A0b hA.own;have c02:=(hb1.chg hA.chgNil (fun h=>h)).c0;have hsr:=A0b (HS.out w1 w2 R1.out.2 hA.chgNil))
     | (at_builtin;refine A0o rfl (.tmp 31) (.tmp 38) 92 92 rfl 125 i0 _ 2 24 Tryz.underlying92 hi hz0 hz1 hz2 rfl (by decide) _ k ((A0s D.dir).take (k*2)) (by rfl) hA2.out _ _ _ (by rfl) hsr.out (by omega) ?_;intro a3 cap3 w3 hB;have c13:=A0b (hB.chg2 hA.chgNil hA.fresh);have hm:=A0b (A8Y HR.out hb1 hc1 c13.out.1))
     | (go_at_call 122;refine (A3K _ b _ vs vc _ _ _ _ _ _ hm.out.1 hm.out.2 hs2).mono ?_;rintro e w5 ⟨rfl,vc',k1,k2,k3,k4⟩))
    go_ret
    rw [q.out,hdo]
    have e3:=EB0.out _ _ _ _ hB
    exact ⟨rfl,A8V HR.out HFT.out hb1 hc1 c13.out.1 e3 c13.out.2 hes.out k1 k2 k3 k4⟩
   ·have HS:Hid (∀ w1 w2:World,A1l w1 (.slice (some ⟨g,0,none⟩) D.dir.length cap) D.dir→Chg (fun _=>False) w1 w2→Src Tryz.prog 2 92 (.slice (some ⟨g,(k+1)*2,none⟩) (D.dir.length - (k+1)) (cap - (k+1))) (D.dir.length - (k+1)) (A0s (D.dir.drop (k+1))) w2):=by
     intro w1 w2 h1 h12
     have h2:A1l w2 (.slice (some ⟨g,0,none⟩) D.dir.length cap) D.dir:=A0a h1 fun x hx=>h12.block x (A0c h1 hx) (fun h=>h)
     refine Src.ofSlice w2 Tryz.underlying92 _ _ _ _ (by rw [A6t,List.length_drop]) ?_ (A2A _)
     intro j u hu
     rw [← A7F,List.getElem?_drop] at hu
     have hadd:(⟨g,(k+1)*2,none⟩:Addr).add j=⟨g,(k+1)*2+j,none⟩:=by unfold Addr.add;split <;> simp_all
     rw [hadd]
     exact A0j h2 rfl hu
    go_enter Tryz.func193,Tryz.ntmps193
    go_wp2_with (first
     | (go_at_call 77;refine (A0F _ _ _ _ hd.out).mono ?_;rintro e w' ⟨rfl,rfl⟩;rw [H1.out])
     | (go_at_call 121;refine (A1e _ _ _ _ _ _ hbk.out).mono ?_;rintro e w1 ⟨rfl,hb1,hc1⟩;have c01:=hb1.c0;have R1:=A0b (r1'.out w1 hb1 hc1))
     | (at_builtin;refine A0o rfl (.const (.slice none 0 0)) (.tmp 28) 92 92 rfl 125 i0 _ 2 24 Tryz.underlying92 hi hz0 hz1 hz2 rfl (by decide) (.slice none 0 0) 0 [] (by rfl) (World.ownsRow_nil _ 0 125 2) (.slice (some ⟨g,0,none⟩) k cap) k ((A0s D.dir).take (k*2)) (by rfl) (Src.ofOwn Tryz.underlying92 R1.out.1 Hone.out) (by omega) ?_;intro a2 cap2 w2 hA;simp only [Nat.zero_add,List.nil_append] at hA;have hA2:=A0b hA.own;have c02:=(hb1.chg hA.chgNil (fun h=>h)).c0;have hsr:=A0b (HS.out w1 w2 R1.out.2 hA.chgNil))
     | (at_builtin;refine A0o rfl (.tmp 31) (.tmp 38) 92 92 rfl 125 i0 _ 2 24 Tryz.underlying92 hi hz0 hz1 hz2 rfl (by decide) _ k ((A0s D.dir).take (k*2)) (by rfl) hA2.out _ _ _ (by rfl) hsr.out (by omega) ?_;intro a3 cap3 w3 hB;have c13:=A0b (hB.chg2 hA.chgNil hA.fresh);have hm:=A0b (A8Y HR.out hb1 hc1 c13.out.1))
     | (go_at_call 122;refine (A3K _ b _ vs vc _ _ _ _ _ _ hm.out.1 hm.out.2 hs2).mono ?_;rintro e w5 ⟨rfl,vc',k1,k2,k3,k4⟩))
    go_ret
    rw [q.out,hdo]
    have e3:=EB.out _ _ _ _ hB
    exact ⟨rfl,A8V HR.out HFT.out hb1 hc1 c13.out.1 e3 c13.out.2 hes.out k1 k2 k3 k4⟩
  ·have hdo':(bg D.n).1=false:=by simpa using hdo
   clear hdo
   go_enter Tryz.func193,Tryz.ntmps193
   go_wp2_with (first | (go_at_call 77;refine (A0F _ _ _ _ hd.out).mono ?_;rintro e w' ⟨rfl,rfl⟩;rw [H1.out]) | (go_at_call 121;refine (A1e _ _ _ _ _ _ hbk.out).mono ?_;rintro e w1 ⟨rfl,hb1,hc1⟩))
   go_ret
   rw [q.out,hdo']
   exact ⟨rfl,HR.out.afterN hft hb1 hc1⟩
def A4z (es:List Ent) (i:Nat) (name:ByteArray):Nat→List Ent
 | 0=>[]
 | k+1=>A4z es i name k ++ (match es[k]? with
  | some e=>if k≠i∧e.1≠name then [e] else []
  | none=>[])
theorem A7i (es:List Ent) (i:Nat) (name:ByteArray) (k:Nat):∀ e∈A4z es i name k,e∈es:=by
 induction k with
 | zero=>intro e h;cases h
 | succ k ih=>
  intro e h
  simp only [A4z] at h
  rcases List.mem_append.1 h with h | h
  ·exact ih e h
  ·split at h
   ·rename_i x hx
    split at h
    ·simp at h;subst h;exact List.mem_of_getElem? hx
    ·cases h
   ·cases h
theorem A6q (es:List Ent) (i:Nat) (name:ByteArray) (k:Nat):(A4z es i name k).length≤k:=by
 induction k with
 | zero=>simp [A4z]
 | succ k ih=>
  simp only [A4z,List.length_append]
  split
  ·split <;> simp <;> omega
  ·simp;omega
theorem B1s (es:List Ent) (i:Nat) (name:ByteArray) (k:Nat) (hk:k<es.length) (h:k≠i∧(es[k]'hk).1≠name):A4z es i name (k+1)=A4z es i name k ++ [es[k]'hk]:=by
 simp only [A4z,List.getElem?_eq_getElem hk];rw [if_pos h]
theorem A8y (es:List Ent) (i:Nat) (name:ByteArray) (k:Nat) (hk:k<es.length) (h:¬ (k≠i∧(es[k]'hk).1≠name)):A4z es i name (k+1)=A4z es i name k:=by
 simp only [A4z,List.getElem?_eq_getElem hk];rw [if_neg h,List.append_nil]
def A0Q (D:DS) (old name:ByteArray):Int × DS:=match A0u D.dir old with
 | none=>(8,D)
 | some f=>if name=ByteArray.empty then (8,D) else
  let es:=A4z D.dir (A1x D.dir old).toNat name D.dir.length ++ [(name,f)]
  ((bg D.n).2.1,if (bg D.n).1 then { D with dir:=es,changes:=D.changes ++ [es],n:=(bg D.n).2.2 } else { D with n:=(bg D.n).2.2 })
set_option maxRecDepth 100000 in
set_option maxHeartbeats 2000000 in
theorem B0C (w:World) (b:Nat) (D:DS) (F:Nat→FC) (Ft:Nat→Prop) (h:Rep w b D F Ft) (old name:ByteArray) (hs:D.dir.length<1099511627776∧D.changes.length<1099511627776):
 Calls Tryz.prog 242 #[.pointer (some ⟨b,0,none⟩),.string old,.string name] w fun e w'=>e=.returned (.int .i64 (A0Q D old name).1)∧A1O w Ft w' b (A0Q D old name).2 F:=by
 obtain ⟨vd,vs,vc,vals,VB,hr,hft⟩:=h
 obtain ⟨hs1,hs2⟩:=hs
 have HR:=A0b hr
 have HFT:=A0b hft
 have c0:=hr.blk.c0
 have hd:=A0b hr.dir
 have hbk:=A0b hr.blk
 rcases A1M D.dir old with ⟨h1,h2⟩ | ⟨k,hk,h1,h2,h3⟩
 ·have q:Hid (A0Q D old name=(8,D)):=by unfold Hid A0Q;rw [h2]
  have hfi:A1x D.dir old<0:=by omega
  clear hr h1 h2
  go_enter Tryz.func242,Tryz.ntmps242
  go_wp2_with (go_at_call 77;refine (A0F _ _ _ _ hd.out).mono ?_;rintro e w' ⟨rfl,rfl⟩)
  go_ret
  rw [q.out]
  exact ⟨rfl,A1O.mk' (Chg.refl _ _) HR.out fun k hk=>.inl (hft k hk)⟩
 ·have H1:=A0b h1
  by_cases hn:name.toList.isEmpty=true
  ·have q:Hid (A0Q D old name=(8,D)):=by unfold Hid A0Q;rw [h2];exact if_pos ((isEmpty_iff _).1 hn)
   clear hr h1 h2 h3
   go_enter Tryz.func242,Tryz.ntmps242
   go_wp2_with (go_at_call 77;refine (A0F _ _ _ _ hd.out).mono ?_;rintro e w' ⟨rfl,rfl⟩;rw [H1.out])
   go_ret
   rw [q.out]
   exact ⟨rfl,A1O.mk' (Chg.refl _ _) HR.out fun k hk=>.inl (hft k hk)⟩
  ·have hn':name.toList.isEmpty=false:=by simpa using hn
   have q:Hid (A0Q D old name=((bg D.n).2.1,if (bg D.n).1 then { D with dir:=A4z D.dir k name D.dir.length ++ [(name,(D.dir[k]'hk).2)],changes:=D.changes ++ [A4z D.dir k name D.dir.length ++ [(name,(D.dir[k]'hk).2)]],n:=(bg D.n).2.2 } else { D with n:=(bg D.n).2.2 })):=by
    unfold Hid A0Q;rw [h2];dsimp only;rw [if_neg (fun e=>hn ((isEmpty_iff _).2 e)),h1];rfl
   clear hr h1 h2 h3 hn
   by_cases hdo:(bg D.n).1=true
   ·obtain ⟨i0,hi,hz0,hz1,hz2⟩:=info_parts Tryz.infoEntry
    obtain ⟨a,cap,rfl,z1,z2,hcell⟩:=HR.out.dir.form
    obtain ⟨g,rfl,_,_⟩:=hcell k hk
    clear hcell
    unfold maxLen at z2
    have cells:Hid (∀ w1 wr,A0H w1 b (.slice (some ⟨g,0,none⟩) D.dir.length cap) vs vc (bg D.n).2.2→Chg (One b) w w1→Chg (fun _=>False) w1 wr→wr.cell? ⟨b,0,none⟩=some (.slice (some ⟨g,0,none⟩) D.dir.length cap)∧
     ∀ j (hj:j<D.dir.length),wr.cell? ⟨g,j*2,none⟩=some (.string (D.dir[j]'hj).1)∧wr.cell? ⟨g,j*2+1,none⟩=some (.pointer (some ⟨(D.dir[j]'hj).2,0,none⟩))):=by
     intro w1 wr g1 g2 g3
     have r1:=HR.out.turn g1 g2
     have r3:A2j wr b { D with n:=(bg D.n).2.2 } F (.slice (some ⟨g,0,none⟩) D.dir.length cap) vs vc vals VB:=r1.frame fun x hx=>g3.block x (r1.lt hx) (fun h=>h)
     exact ⟨r3.blk.c0,fun j hj=>⟨A0j r3.dir rfl (A3C _ j hj),A0j r3.dir rfl (A4c _ j hj)⟩⟩
    go_enter Tryz.func242,Tryz.ntmps242
    go_wp2_with (first
     | (go_at_call 77;refine (A0F _ _ _ _ hd.out).mono ?_;rintro e w' ⟨rfl,rfl⟩;rw [H1.out])
     | (go_at_call 121;refine (A1e _ _ _ _ _ _ hbk.out).mono ?_;rintro e w1 ⟨rfl,hb1,hc1⟩;have c01:=hb1.c0))
    go_loopw [10,35] (fun v i wr=>∃ j:Nat,j≤D.dir.length∧i=.int .i64 j∧Chg (fun _=>False) w1 wr∧A1l wr v (A4z D.dir k name j)∧Hid (∀ x,v.ownBlock=some x→w1.heap.size≤x)) (fun _ i _=>D.dir.length - (intOf i).toNat)
    case atStart=>exact ⟨0,Nat.zero_le _,rfl,Chg.refl _ _,World.ownsRow_nil _ _ _ _,fun x hx=>by simp [Value.ownBlock] at hx⟩
    case round=>
     obtain ⟨j,hj,rfl,hcr,hvr,hfr⟩:=hrel
     have Hvr:=A0b hvr
     clear hvr
     obtain ⟨cb,ce⟩:=cells.out w1 wr hb1 hc1 hcr
     by_cases hlj:j<D.dir.length
     ·obtain ⟨cn,cp⟩:=ce j hlj
      clear ce
      by_cases hji:j=k
      ·have hji':((j:Int) != (k:Int))=false:=by simp [hji]
       have q2:=A0b (A8y D.dir k name j hlj (fun h=>h.1 hji))
       have Hji:=A0b hji
       clear hji
       go_wp2
       go_roundw
       case rel=>exact ⟨j+1,by omega,by go_num,hcr,by rw [q2.out];exact Hvr.out,hfr⟩
       case measure=>simp [intOf];omega
      ·have hji':((j:Int) != (k:Int))=true:=by rw [bne_iff_ne];omega
       have Hji:=A0b hji
       clear hji
       by_cases hnm:(D.dir[j]'hlj).1=name
       ·have hnm':=(A3y _ _).2 hnm
        have q2:=A0b (A8y D.dir k name j hlj (fun h=>h.2 hnm))
        clear hnm
        go_wp2
        go_roundw
        case rel=>exact ⟨j+1,by omega,by go_num,hcr,by rw [q2.out];exact Hvr.out,hfr⟩
        case measure=>simp [intOf];omega
       ·have hnm':=(A5f _ _).2 hnm
        have q2:=A0b (B1s D.dir k name j hlj ⟨Hji.out,hnm⟩)
        clear hnm
        have how:=A0b (Hvr.out.alloc (.cells #[.string (D.dir[j]'hlj).1,.pointer (some ⟨(D.dir[j]'hlj).2,0,none⟩)] 125))
        have hsr:=A0b (Src.ofNew (size:=2) Tryz.underlying92 wr #[.string (D.dir[j]'hlj).1,.pointer (some ⟨(D.dir[j]'hlj).2,0,none⟩)] 125 wr.heap.size rfl 1 1 rfl (by simp [Value.oneCell']))
        have hrl:=A6q D.dir k name j
        go_wp2_with (at_builtin;refine A0o rfl (.tmp 53) (.tmp 61) 92 92 rfl 125 i0 _ 2 24 Tryz.underlying92 hi hz0 hz1 hz2 rfl (by decide) _ _ _ (by rfl) how.out _ 1 _ (by rfl) hsr.out (by omega) ?_;intro a3 cap3 w3 hB;have c13:=A0b (hB.chg2 (hcr.alloc _) hfr.out))
        go_roundw
        case rel=>
         refine ⟨j+1,by omega,by go_num,c13.out.1,?_,c13.out.2⟩
         rw [q2.out]
         have:=hB.own
         unfold A1l
         rw [A1G,List.length_append];exact this
        case measure=>simp [intOf];omega
     ·obtain ⟨cn,cp⟩:=ce k hk
      have hjl:j=D.dir.length:=by omega
      have hHv:=Hvr.out
      rw [hjl] at hHv
      have how:=A0b (hHv.alloc (.cells #[.string name,.pointer (some ⟨(D.dir[k]'hk).2,0,none⟩)] 125))
      have hsr:=A0b (Src.ofNew (size:=2) Tryz.underlying92 wr #[.string name,.pointer (some ⟨(D.dir[k]'hk).2,0,none⟩)] 125 wr.heap.size rfl 1 1 rfl (by simp [Value.oneCell']))
      have hrl:=A6q D.dir k name D.dir.length
      clear hjl ce Hvr hHv
      go_wp2_with (first
       | (at_builtin;refine A0o rfl (.tmp 65) (.tmp 76) 92 92 rfl 125 i0 _ 2 24 Tryz.underlying92 hi hz0 hz1 hz2 rfl (by decide) _ _ _ (by rfl) how.out _ 1 _ (by rfl) hsr.out (by omega) ?_;intro a3 cap3 w3 hB;have c13:=A0b (hB.chg2 (hcr.alloc _) hfr.out);have hm:=A0b (A8Y HR.out hb1 hc1 c13.out.1))
       | (go_at_call 122;refine (A3K _ b _ vs vc _ _ _ _ _ _ hm.out.1 hm.out.2 hs2).mono ?_;rintro e w5 ⟨rfl,vc',k1,k2,k3,k4⟩))
      go_ret
      rw [q.out,hdo]
      have e3:A1l w3 (.slice a3 ((A4z D.dir k name D.dir.length).length+1) cap3) (A4z D.dir k name D.dir.length ++ [(name,(D.dir[k]'hk).2)]):=by
       have:=hB.own
       unfold A1l
       rw [A1G,List.length_append];exact this
      refine ⟨rfl,A8V HR.out HFT.out hb1 hc1 c13.out.1 e3 c13.out.2 ?_ k1 k2 k3 k4⟩
      rintro f ⟨e,he,rfl⟩
      rcases List.mem_append.1 he with he | he
      ·exact .inl ⟨e,A7i _ _ _ _ e he,rfl⟩
      ·simp at he;subst he;exact .inl ⟨_,List.getElem_mem hk,rfl⟩
   ·have hdo':(bg D.n).1=false:=by simpa using hdo
    clear hdo
    go_enter Tryz.func242,Tryz.ntmps242
    go_wp2_with (first | (go_at_call 77;refine (A0F _ _ _ _ hd.out).mono ?_;rintro e w' ⟨rfl,rfl⟩;rw [H1.out]) | (go_at_call 121;refine (A1e _ _ _ _ _ _ hbk.out).mono ?_;rintro e w1 ⟨rfl,hb1,hc1⟩))
    go_ret
    rw [q.out,hdo']
    exact ⟨rfl,HR.out.afterN hft hb1 hc1⟩
end Go.Proofs.YtodcnkbblippnaaGreatDoor
namespace Go.Proofs.YtodcnkbblippnaaGreatDoor
open Go.RowKit
attribute [local go_sem ↓] Go.wp_at_zero Go.wp_at_succ
def B5y (a b:ByteArray):Bool:=Op.bytesLess a.toList b.toList
def A1J (l:List ByteArray):List Value:=l.map Value.string
def A2F (l:List ByteArray) (x:ByteArray):Nat→Nat
 | 0=>0
 | k+1=>match l[k]? with
  | some y=>if B5y x y then A2F l x k else k+1
  | none=>k+1
def ins (l:List ByteArray) (x:ByteArray):List ByteArray:=l.take (A2F l x l.length) ++ x :: l.drop (A2F l x l.length)
def A2G (es:List Ent):Nat→List ByteArray
 | 0=>[]
 | k+1=>match es[k]? with
  | some e=>ins (A2G es k) e.1
  | none=>A2G es k
def A7A (es:List Ent):List ByteArray:=A2G es es.length
theorem B1v (l:List ByteArray) (x:ByteArray) (k:Nat):A2F l x k≤k:=by
 induction k with
 | zero=>simp [A2F]
 | succ k ih=>
  simp only [A2F]
  split
  ·split <;> omega
  ·omega
theorem B1g (l:List ByteArray) (x:ByteArray):(ins l x).length=l.length+1:=by
 have:=B1v l x l.length
 simp [ins];omega
theorem A4w (es:List Ent) (k:Nat) (hk:k≤es.length):(A2G es k).length=k:=by
 induction k with
 | zero=>rfl
 | succ k ih=>
  simp only [A2G,List.getElem?_eq_getElem (show k<es.length by omega)]
  rw [B1g,ih (by omega)]
theorem A9n (es:List Ent) (k:Nat) (hk:k<es.length):A2G es (k+1)=ins (A2G es k) (es[k]'hk).1:=by
 simp only [A2G,List.getElem?_eq_getElem hk]
theorem A9o (l:List ByteArray) (x:ByteArray) (k:Nat) (hk:k<l.length) (h:B5y x (l[k]'hk)=true):A2F l x (k+1)=A2F l x k:=by
 simp only [A2F,List.getElem?_eq_getElem hk];rw [if_pos h]
theorem A9x (l:List ByteArray) (x:ByteArray) (k:Nat) (hk:k<l.length) (h:B5y x (l[k]'hk)=false):A2F l x (k+1)=k+1:=by
 simp only [A2F,List.getElem?_eq_getElem hk];rw [if_neg (by simp [h])]
theorem B2C (l:List ByteArray) (x:ByteArray) (m:Nat) (hm:m<l.length):
 ((A1J (l.take (m+1) ++ x :: l.drop (m+1))).set (m+1) (.string (l[m]'hm))).set m (.string x)=A1J (l.take m ++ x :: l.drop m):=by
 have e1:l.take (m+1)=l.take m ++ [l[m]'hm]:=List.take_succ_eq_append_getElem hm
 have e2:l.drop m=l[m]'hm :: l.drop (m+1):=List.drop_eq_getElem_cons hm
 have hl:(l.take m).length=m:=by simp;omega
 rw [e1,e2]
 unfold A1J
 simp only [List.map_append,List.map_cons,List.append_assoc,List.cons_append,List.nil_append]
 have hl':(List.map Value.string (l.take m)).length=m:=by simpa using hl
 rw [List.set_append_right _ _ (by omega),hl',show m+1 - m=1 from by omega]
 simp only [List.set_cons_succ,List.set_cons_zero]
 rw [List.set_append_right _ _ (by omega),hl',Nat.sub_self]
 rfl
set_option maxRecDepth 100000 in
set_option maxHeartbeats 800000 in
theorem B3F (w:World) (b:Nat) (D:DS) (F:Nat→FC) (Ft:Nat→Prop) (h:Rep w b D F Ft) (hs:D.dir.length<1099511627776):
 Calls Tryz.prog 76 #[.pointer (some ⟨b,0,none⟩)] w fun e w'=>∃ v,e=.returned v∧w'.ownsRow 0 9 1 v D.dir.length (A1J (A7A D.dir))∧Chg (fun _=>False) w w'∧(∀ g,v.ownBlock=some g→w.heap.size≤g):=by
 obtain ⟨vd,vs,vc,vals,VB,hr,hft⟩:=h
 have HR:=A0b hr
 have c0:=hr.blk.c0
 obtain ⟨i0,hi,hz0,hz1,hz2⟩:=info_parts Tryz.infoString
 obtain ⟨a,cap,rfl,z1,z2,hcell⟩:=HR.out.dir.form
 unfold maxLen at z2
 have hb2:i0.bytes*D.dir.length≤281474976710656:=by rw [hz2];omega
 have hb3:D.dir.length≤maxLen:=by unfold maxLen;omega
 have HB2:=A0b hb2
 have HB3:=A0b hb3
 clear hr hb2 hb3
 go_enter Tryz.func76,Tryz.ntmps76
 go_wp2_with (at_make;refine wpList_make_own _ rfl _ _ 121 rfl 0 9 i0 _ 1 Tryz.underlying121 hi hz0 hz1 _ _ _ D.dir.length rfl rfl rfl HB2.out HB3.out (Nat.zero_le _) ?_;intro w1 hown1 hg1;have c01:=hg1.cell c0 (by simp);have Hown:=A0b hown1;clear hown1)
 go_loopw [3,18] (fun v i wr=>∃ k:Nat,k≤D.dir.length∧i=.int .i64 k∧Chg (fun _=>False) w wr∧Hid (wr.ownsRow 0 9 1 v k (A1J (A2G D.dir k)))∧Hid (∀ x,v.ownBlock=some x→w.heap.size≤x)) (fun _ i _=>D.dir.length - (intOf i).toNat)
 case atStart=>exact ⟨0,Nat.zero_le _,rfl,(Chg.refl _ w).grown hg1 (fun k hk=>by cases hk),Hown.out,fun x hx=>by cases hx;exact Nat.le_refl _⟩
 case round=>
  obtain ⟨k,hk,rfl,hcr,how,hfr⟩:=hrel
  by_cases hlk:k<D.dir.length
  ·obtain ⟨g,rfl,hn,hp⟩:=hcell k hlk
   have hgl:g<w.heap.size:=World.block_lt_of_cell? w _ hn
   have hn':wr.cell? ⟨g,k*2,none⟩=some (.string (D.dir[k]'hlk).1):=(World.cell?_of_block (hcr.block g hgl (fun h=>h))).trans hn
   have hp':wr.cell? ⟨g,k*2+1,none⟩=some (.pointer (some ⟨(D.dir[k]'hlk).2,0,none⟩)):=(World.cell?_of_block (hcr.block g hgl (fun h=>h))).trans hp
   have hsz:=hcr.size
   have hgr:g<wr.heap.size:=by omega
   have how2:=A0b ((how.out.alloc (.cells #[.string (D.dir[k]'hlk).1,.pointer (some ⟨(D.dir[k]'hlk).2,0,none⟩)] 125)).alloc (.cells #[.string (D.dir[k]'hlk).1] 9))
   have hsr:=A0b (Src.ofNew (size:=1) Tryz.underlying121 (wr.alloc (.cells #[.string (D.dir[k]'hlk).1,.pointer (some ⟨(D.dir[k]'hlk).2,0,none⟩)] 125)) #[.string (D.dir[k]'hlk).1] 9 (wr.heap.size+1) (by simp) 1 1 rfl (by simp [Value.oneCell']))
   clear hn hp hcell
   obtain ⟨x,hx⟩:∃ x,(D.dir[k]'hlk).1=x:=⟨_,rfl⟩
   rw [hx] at hn' how2 hsr
   have Hx:=A0b hx
   clear hx
   go_wp2_with (at_builtin;refine A0o rfl (.tmp 22) (.tmp 25) 121 121 rfl 9 i0 _ 1 16 Tryz.underlying121 hi hz0 hz1 hz2 rfl (by decide) _ _ _ (by rfl) how2.out _ 1 _ (by rfl) hsr.out (by omega) ?_;intro a3 cap3 w3 hB)
   have hl:=A0b (A4w D.dir k hk)
   obtain ⟨l,hlq⟩:∃ l,A2G D.dir k=l:=⟨_,rfl⟩
   have Hlq:=A0b hlq
   have hll:l.length=k:=by rw [← hlq];exact hl.out
   have hB0:w3.ownsRow 0 9 1 (.slice a3 (k+1) cap3) (k+1) (A1J (l.take k ++ x :: l.drop k)):=by
    have:=hB.own
    rw [hlq] at this
    rw [List.take_of_length_le (by omega),List.drop_of_length_le (by omega)]
    simpa [A1J] using this
   have hHB:=A0b hB0
   have c13:=A0b (hB.chg2 ((hcr.alloc _).alloc _) hfr.out)
   have hmax:cap3≤maxLen:=by obtain ⟨_,_,he,h1,h2,_⟩:=A0g hB0;cases he;exact h2
   obtain ⟨g3,hg3⟩:∃ g3,a3=some ⟨g3,0,none⟩:=by
    obtain ⟨_,_,he,h1,h2,h3,_⟩:=A0g hB0
    cases he;exact h3 (by omega)
   have Hll:=A0b hll
   clear hlq hB0 hB how2 hsr how hll
   subst hg3
   have hc3:=A0b c13.out.1
   have hf3:=A0b (c13.out.2)
   clear c13
   have fin:Hid (∀ (wq:World) (j:Nat),j≤k→A2F l x k=j→wq.ownsRow 0 9 1 (.slice (some ⟨g3,0,none⟩) (k+1) cap3) (k+1) (A1J (l.take j ++ x :: l.drop j))→wq.ownsRow 0 9 1 (.slice (some ⟨g3,0,none⟩) (k+1) cap3) (k+1) (A1J (A2G D.dir (k+1)))):=by
    intro wq j hj hp h
    rw [A9n D.dir k hlk,Hlq.out,Hx.out,ins,Hll.out,hp]
    exact h
   go_loopw [6] (fun i wq=>∃ j:Nat,j≤k∧i=.int .i64 j∧Hid (Chg (fun _=>False) w wq)∧Hid (wq.ownsRow 0 9 1 (.slice (some ⟨g3,0,none⟩) (k+1) cap3) (k+1) (A1J (l.take j ++ x :: l.drop j)))∧Hid (A2F l x k=A2F l x j)) (fun i _=>(intOf i).toNat)
   case atStart=>exact ⟨k,Nat.le_refl _,rfl,hc3,hHB,rfl⟩
   case round=>
    obtain ⟨j,hj,rfl,hcq,hoq,hpq⟩:=hrel
    by_cases hj0:j=0
    ·subst hj0
     rw [show ((0:Nat):Int)=0 from rfl]
     go_wp2
     go_quiet (fail)
     go_wp2
     go_roundw
     case rel=>
      refine ⟨k+1,by omega,by go_num,hcq.out.drewN _,?_,hf3.out⟩
      exact fin.out _ 0 (by omega) (by rw [hpq.out];rfl) hoq.out
     case measure=>simp [intOf];omega
    ·have hj1:(0:Int)<(j:Int):=by omega
     have hj2:0<j:=by omega
     have hjk:(j:Int)≤(k:Int):=by omega
     have hml:j - 1<l.length:=by have:=Hll.out;omega
     have hjl:j≤l.length:=by have:=Hll.out;omega
     obtain ⟨y,hy⟩:∃ y,l[j - 1]'hml=y:=⟨_,rfl⟩
     have g1:wr.cell? ⟨g3,j - 1,none⟩=some (.string y):=A0j hoq.out rfl (by
      unfold A1J
      rw [List.map_append,List.getElem?_append_left (by simp;omega)]
      simp [List.getElem?_take,hml,hy];omega)
     have g2:wr.cell? ⟨g3,j,none⟩=some (.string x):=A0j hoq.out rfl (by
      unfold A1J
      rw [List.map_append,List.getElem?_append_right (by simp;omega)]
      simp [Nat.min_eq_left hjl])
     have gz:∀ o,wr.frozen? ⟨g3,o,none⟩=false:=fun o=>A0t hoq.out rfl o
     by_cases hls:B5y x y=true
     ·have hls':Op.bytesLess x.toList y.toList=true:=hls
      have Hls:=A0b hls
      have Hy:=A0b hy
      clear hls hy
      go_wp2
      go_quiet (fail)
      go_wp2
      go_region
      go_wp2
      go_roundw
      case rel=>
       refine ⟨j - 1,by omega,by go_num,?_,?_,?_⟩
       ·have h1:=((hcq.out.setCell (p:=⟨g3,j,none⟩) (fun h=>by have:=hf3.out g3 rfl;simp at h;omega) (.string y)).setCell (p:=⟨g3,j - 1,none⟩) (fun h=>by have:=hf3.out g3 rfl;simp at h;omega) (.string x))
        exact ⟨h1.os,h1.tape,h1.output,h1.size,h1.block⟩
       ·have s1:=(hoq.out.stored j (.string y)).1
        have s2:=(s1.stored (j - 1) (.string x)).1
        have e:=B2C l x (j - 1) hml
        rw [show j - 1+1=j from by omega,Hy.out] at e
        rw [e] at s2
        exact s2
       ·have:=A9o l x (j - 1) hml (by rw [Hy.out];exact Hls.out)
        rw [show j - 1+1=j from by omega] at this
        unfold Hid;rw [hpq.out];exact this
      case measure=>simp [intOf];omega
     ·have hls0:B5y x y=false:=by simpa using hls
      have hls':Op.bytesLess x.toList y.toList=false:=hls0
      have Hls:=A0b hls0
      have Hy:=A0b hy
      clear hls hy hls0
      go_wp2
      go_quiet (fail)
      go_wp2
      go_roundw
      case rel=>
       refine ⟨k+1,by omega,by go_num,hcq.out.drewN _,?_,hf3.out⟩
       refine fin.out _ j hj ?_ hoq.out
       have:=A9x l x (j - 1) hml (by rw [Hy.out];exact Hls.out)
       rw [show j - 1+1=j from by omega] at this
       rw [hpq.out];exact this
      case measure=>simp [intOf];omega
  ·have hkl:k=D.dir.length:=by omega
   have Hkl:=A0b hkl
   clear hkl hcell
   go_wp2
   go_ret
   refine ⟨_,rfl,?_,hcr,hfr.out⟩
   have:=how.out
   rw [Hkl.out] at this
   exact this
end Go.Proofs.YtodcnkbblippnaaGreatDoor
namespace Go.Proofs.YtodcnkbblippnaaGreatDoor
open Go.RowKit
attribute [local go_sem ↓] Go.wp_at_zero Go.wp_at_succ
end Go.Proofs.YtodcnkbblippnaaGreatDoor
namespace Go.Proofs.YtodcnkbblippnaaGreatDoor
open Go.RowKit
attribute [local go_sem ↓] Go.wp_at_zero Go.wp_at_succ
end Go.Proofs.YtodcnkbblippnaaGreatDoor
