/-
  The statement WritesUptoCardSaid is proved: the law Writes answers true for every setting and every script of at most 1048576 bytes; there is no other condition.
  Part 3 of 33.
-/
import Derived.Test.YtodcnkbblippnaaGreatDoorPart01
import Derived.Deep.RegionHeld3
import Derived.Deep.LoopGhost
import Derived.Deep.DrawnRows
namespace Go.Proofs.YtodcnkbblippnaaGreatDoor
open Go.RowKit
structure DS where
 dir:List Ent
 safe:List Ent
 changes:List (List Ent)
 n:DN
abbrev FC:=List UInt8 × Int
def A1f (f:Nat) (es:List Ent):Prop:=∃ e∈es,e.2=f
def DS.ids (D:DS) (f:Nat):Prop:=A1f f D.dir∨A1f f D.safe∨∃ c∈D.changes,A1f f c
structure A2j (w:World) (b:Nat) (D:DS) (F:Nat→FC) (vd vs vc:Value) (vals:List Value) (VB:Nat→Value):Prop where
 blk:A0H w b vd vs vc D.n
 dir:A1l w vd D.dir
 safe:A1l w vs D.safe
 chg:w.ownsRow 0 120 1 vc D.changes.length vals
 che:∀ i (h:i<D.changes.length),∃ v,vals[i]?=some v∧A1l w v (D.changes[i]'h)
 fil:∀ f,D.ids f→A2Z w f (VB f) (F f).2∧BSl w (VB f) (F f).1
 inj:∀ f f' g,D.ids f→D.ids f'→(VB f).ownBlock=some g→(VB f').ownBlock=some g→f=f'
def A2M (b:Nat) (D:DS) (vd vs vc:Value) (vals:List Value) (VB:Nat→Value) (k:Nat):Prop:=
 k=b∨vd.ownBlock=some k∨vs.ownBlock=some k∨vc.ownBlock=some k∨(∃ v∈vals,v.ownBlock=some k)∨D.ids k∨∃ f,D.ids f∧(VB f).ownBlock=some k
section
variable {b:Nat} {D:DS} {vd vs vc:Value} {vals:List Value} {VB:Nat→Value}
theorem A2M.blk:A2M b D vd vs vc vals VB b:=.inl rfl
theorem A2M.dir {k:Nat} (h:vd.ownBlock=some k):A2M b D vd vs vc vals VB k:=.inr (.inl h)
theorem A2M.safe {k:Nat} (h:vs.ownBlock=some k):A2M b D vd vs vc vals VB k:=.inr (.inr (.inl h))
theorem A2M.chg {k:Nat} (h:vc.ownBlock=some k):A2M b D vd vs vc vals VB k:=.inr (.inr (.inr (.inl h)))
theorem A2M.che {k:Nat} {v:Value} (hv:v∈vals) (h:v.ownBlock=some k):A2M b D vd vs vc vals VB k:=.inr (.inr (.inr (.inr (.inl ⟨v,hv,h⟩))))
theorem A2M.fil {f:Nat} (h:D.ids f):A2M b D vd vs vc vals VB f:=.inr (.inr (.inr (.inr (.inr (.inl h)))))
theorem A2M.byt {f k:Nat} (hf:D.ids f) (h:(VB f).ownBlock=some k):A2M b D vd vs vc vals VB k:=.inr (.inr (.inr (.inr (.inr (.inr ⟨f,hf,h⟩)))))
theorem A2M.elim {motive:(k:Nat)→A2M b D vd vs vc vals VB k→Prop} (blk:motive b .blk) (dir:∀ {k} (e:vd.ownBlock=some k),motive k (.dir e)) (safe:∀ {k} (e:vs.ownBlock=some k),motive k (.safe e)) (chg:∀ {k} (e:vc.ownBlock=some k),motive k (.chg e))
 (che:∀ {k v} (hv:v∈vals) (e:v.ownBlock=some k),motive k (.che hv e)) (fil:∀ {f} (h:D.ids f),motive f (.fil h)) (byt:∀ {f k} (hf:D.ids f) (e:(VB f).ownBlock=some k),motive k (.byt hf e)) {k:Nat} (t:A2M b D vd vs vc vals VB k):motive k t:=by
 rcases t with rfl | e | e | e | ⟨v,hv,e⟩ | h | ⟨f,hf,e⟩
 ·exact blk
 ·exact dir e
 ·exact safe e
 ·exact chg e
 ·exact che hv e
 ·exact fil h
 ·exact byt hf e
end
def Rep (w:World) (b:Nat) (D:DS) (F:Nat→FC) (Ft:Nat→Prop):Prop:=
 ∃ vd vs vc vals VB,A2j w b D F vd vs vc vals VB∧∀ k,A2M b D vd vs vc vals VB k→Ft k
section
variable {w w':World} {b:Nat} {D:DS} {F:Nat→FC} {vd vs vc:Value} {vals:List Value} {VB:Nat→Value}
theorem A2j.vals_length (h:A2j w b D F vd vs vc vals VB):vals.length=D.changes.length:=by have:=h.chg.1;omega
theorem A2j.lt (h:A2j w b D F vd vs vc vals VB) {k:Nat} (hk:A2M b D vd vs vc vals VB k):k<w.heap.size:=by
 cases hk using A2M.elim with
 | blk=>exact lt_of_block h.blk
 | dir e=>exact A0c h.dir e
 | safe e=>exact A0c h.safe e
 | chg e=>exact A0c h.chg e
 | che hv e=>
  obtain ⟨i,hi⟩:=List.getElem?_of_mem hv
  have hl:i<D.changes.length:=by rw [← h.vals_length];exact (List.getElem?_eq_some_iff.1 hi).1
  obtain ⟨v',h1,h2⟩:=h.che i hl
  rw [hi] at h1;cases h1
  exact A0c h2 e
 | fil hf=>exact lt_of_block (h.fil _ hf).1
 | byt hf e=>exact A0c (h.fil _ hf).2 e
theorem A2j.frame (h:A2j w b D F vd vs vc vals VB) (hs:A9f (A2M b D vd vs vc vals VB) w w'):A2j w' b D F vd vs vc vals VB:=by
 refine ⟨?_,?_,?_,?_,?_,?_,h.inj⟩
 ·have:=h.blk;unfold A0H at this ⊢;rw [hs b .blk];exact this
 ·exact A0a h.dir fun g hg=>hs g (.dir hg)
 ·exact A0a h.safe fun g hg=>hs g (.safe hg)
 ·exact A0a h.chg fun g hg=>hs g (.chg hg)
 ·intro i hi
  obtain ⟨v,h1,h2⟩:=h.che i hi
  exact ⟨v,h1,A0a h2 fun g hg=>hs g (.che (List.mem_of_getElem? h1) hg)⟩
 ·intro f hf
  obtain ⟨h1,h2⟩:=h.fil f hf
  refine ⟨?_,A0a h2 fun g hg=>hs g (.byt hf hg)⟩
  unfold A2Z at h1 ⊢;rw [hs f (.fil hf)];exact h1
theorem Rep.frame {Ft:Nat→Prop} (h:Rep w b D F Ft) (hs:A9f Ft w w'):Rep w' b D F Ft:=by
 obtain ⟨vd,vs,vc,vals,VB,hr,hf⟩:=h
 exact ⟨vd,vs,vc,vals,VB,hr.frame (hs.mono hf),hf⟩
theorem A0r {w:World} {g k:Nat} {c c':Array Value} {e e':Nat} (h:w.heap[g]?=some (.cells c e (0,0))) (h':w.heap[k]?=some (.cells c' e' (0,0))) (hne:e≠e'):g≠k:=by
 intro he;subst he;rw [h] at h';cases h';exact hne rfl
theorem A2j.turn (h:A2j w b D F vd vs vc vals VB) {n:DN} (hb:A0H w' b vd vs vc n) (hc:Chg (One b) w w'):A2j w' b { D with n:=n } F vd vs vc vals VB:=by
 have hk:∀ (k:Nat) (c:Array Value) (e:Nat),w.heap[k]?=some (Obj.cells c e (0,0))→e≠95→w'.heap[k]?=w.heap[k]?:=fun k c e hk he=>
  hc.block k (lt_of_block hk) (A0r hk h.blk he)
 refine ⟨hb,?_,?_,?_,?_,?_,h.inj⟩
 ·exact A0a h.dir fun g hg=>by obtain ⟨c,hh⟩:=A0f h.dir hg;exact hk g _ _ hh (by decide)
 ·exact A0a h.safe fun g hg=>by obtain ⟨c,hh⟩:=A0f h.safe hg;exact hk g _ _ hh (by decide)
 ·exact A0a h.chg fun g hg=>by obtain ⟨c,hh⟩:=A0f h.chg hg;exact hk g _ _ hh (by decide)
 ·intro i hi
  obtain ⟨v,h1,h2⟩:=h.che i hi
  exact ⟨v,h1,A0a h2 fun g hg=>by obtain ⟨c,hh⟩:=A0f h2 hg;exact hk g _ _ hh (by decide)⟩
 ·intro f hf
  obtain ⟨h1,h2⟩:=h.fil f hf
  refine ⟨?_,A0a h2 fun g hg=>by obtain ⟨c,hh⟩:=A0f h2 hg;exact hk g _ _ hh (by decide)⟩
  unfold A2Z at h1 ⊢;rw [hk f _ _ h1 (by decide)];exact h1
end
def A0u:List Ent→ByteArray→Option Nat
 | [],_=>none
 | e :: r,name=>if e.1=name then some e.2 else A0u r name
theorem A1M (es:List Ent) (name:ByteArray):(A1x es name = -1∧A0u es name=none)∨∃ k,∃ hk:k<es.length,A1x es name=(k:Int)∧A0u es name=some (es[k]'hk).2∧(es[k]'hk).1=name:=by
 induction es with
 | nil=>exact .inl ⟨rfl,rfl⟩
 | cons e r ih=>
  by_cases h:e.1=name
  ·exact .inr ⟨0,by simp,by simp [A1x,h],by simp [A0u,h],by simpa using h⟩
  ·rcases ih with ⟨h1,h2⟩ | ⟨k,hk,h1,h2,h3⟩
   ·exact .inl ⟨by simp [A1x,h,h1],by simp [A0u,h,h2]⟩
   ·exact .inr ⟨k+1,by simpa using hk,by simp only [A1x,h,if_false,h1];rw [if_neg (by omega)];omega,by simp [A0u,h,h2],by simpa using h3⟩
theorem A2j.dirAt {w:World} {b:Nat} {D:DS} {F:Nat→FC} {vd vs vc:Value} {vals:List Value} {VB:Nat→Value} (h:A2j w b D F vd vs vc vals VB) (k:Nat) (hk:k<D.dir.length):
 A2Z w (D.dir[k]'hk).2 (VB (D.dir[k]'hk).2) (F (D.dir[k]'hk).2).2∧BSl w (VB (D.dir[k]'hk).2) (F (D.dir[k]'hk).2).1:=h.fil _ (.inl ⟨_,List.getElem_mem hk,rfl⟩)
theorem BSl.form {w:World} {v:Value} {bs:List UInt8} (h:BSl w v bs):∃ a cap,v=.slice a bs.length cap∧bs.length≤cap∧cap≤maxLen:=by
 obtain ⟨a,cap,h1,h2,h3,_⟩:=A0g h
 exact ⟨a,cap,h1,h2,h3⟩
def A1O (w:World) (Ft:Nat→Prop) (w':World) (b:Nat) (D':DS) (F':Nat→FC):Prop:=
 Chg Ft w w'∧∃ Ft',Rep w' b D' F' Ft'∧(∀ k,Ft' k→k<w'.heap.size)∧∀ k,Ft' k→Ft k∨w.heap.size≤k
theorem A1O.mk' {w w':World} {Ft:Nat→Prop} {b:Nat} {D':DS} {F':Nat→FC} {vd vs vc:Value} {vals:List Value} {VB:Nat→Value} (hc:Chg Ft w w') (h:A2j w' b D' F' vd vs vc vals VB)
 (hf:∀ k,A2M b D' vd vs vc vals VB k→Ft k∨w.heap.size≤k):A1O w Ft w' b D' F':=
 ⟨hc,_,⟨vd,vs,vc,vals,VB,h,fun _ hk=>hk⟩,fun _ hk=>h.lt hk,hf⟩
theorem A2j.turnDir {w w':World} {b:Nat} {D:DS} {F F':Nat→FC} {vd vs vc vl vc':Value} {vals:List Value} {VB VB':Nat→Value} {n:DN} {es:List Ent} {S:Nat→Prop} (h:A2j w b D F vd vs vc vals VB)
 (hb:A0H w' b vl vs vc' n) (hch:w'.ownsRow 0 120 1 vc' (D.changes.length+1) (vals ++ [vl])) (hes:A1l w' vl es) (hc:Chg S w w') (hS:∀ k,S k→k=b∨vc.ownBlock=some k)
 (hF:∀ f,D.ids f→F' f=F f∧VB' f=VB f) (hnew:∀ f,A1f f es→D.ids f∨(A2Z w' f (VB' f) (F' f).2∧BSl w' (VB' f) (F' f).1∧(VB' f).ownBlock=none)):
 A2j w' b { D with dir:=es,changes:=D.changes ++ [es],n:=n } F' vl vs vc' (vals ++ [vl]) VB':=by
 have hk:∀ (k:Nat) (c:Array Value) (e:Nat),w.heap[k]?=some (Obj.cells c e (0,0))→e≠95→e≠120→w'.heap[k]?=w.heap[k]?:=fun k c e hk he he2=>
  hc.block k (lt_of_block hk) (fun hs=>by
   rcases hS k hs with hs | hs
   ·exact A0r hk h.blk he hs
   ·obtain ⟨c',hh⟩:=A0f h.chg hs
    exact A0r hk hh he2 rfl)
 have hids:∀ f,({ D with dir:=es,changes:=D.changes ++ [es],n:=n }:DS).ids f→D.ids f∨A1f f es:=by
  rintro f (hf | hf | ⟨c,hcm,hf⟩)
  ·exact .inr hf
  ·exact .inl (.inr (.inl hf))
  ·rcases List.mem_append.1 hcm with hcm | hcm
   ·exact .inl (.inr (.inr ⟨c,hcm,hf⟩))
   ·simp at hcm;subst hcm;exact .inr hf
 have hold:∀ f,D.ids f→A2Z w' f (VB' f) (F' f).2∧BSl w' (VB' f) (F' f).1:=by
  intro f hf
  obtain ⟨h1,h2⟩:=h.fil f hf
  rw [(hF f hf).1,(hF f hf).2]
  refine ⟨?_,A0a h2 fun g hg=>by obtain ⟨c,hh⟩:=A0f h2 hg;exact hk g _ _ hh (by decide) (by decide)⟩
  unfold A2Z at h1 ⊢;rw [hk f _ _ h1 (by decide) (by decide)];exact h1
 refine ⟨hb,hes,?_,?_,?_,?_,?_⟩
 ·exact A0a h.safe fun g hg=>by obtain ⟨c,hh⟩:=A0f h.safe hg;exact hk g _ _ hh (by decide) (by decide)
 ·simpa using hch
 ·intro i hi
  by_cases hlt:i<D.changes.length
  ·obtain ⟨v,h1,h2⟩:=h.che i hlt
   refine ⟨v,by rw [List.getElem?_append_left (by rw [h.vals_length];exact hlt)];exact h1,?_⟩
   simp only [List.getElem_append_left hlt]
   exact A0a h2 fun g hg=>by obtain ⟨c,hh⟩:=A0f h2 hg;exact hk g _ _ hh (by decide) (by decide)
  ·obtain rfl:i=D.changes.length:=by simp at hi;omega
   refine ⟨vl,by rw [← h.vals_length];simp,?_⟩
   simpa using hes
 ·intro f hf
  rcases hids f hf with hf | hf
  ·exact hold f hf
  ·rcases hnew f hf with hf | ⟨h1,h2,_⟩
   ·exact hold f hf
   ·exact ⟨h1,h2⟩
 ·intro f f' g hf hf' hg hg'
  have key:∀ f,({ D with dir:=es,changes:=D.changes ++ [es],n:=n }:DS).ids f→(VB' f).ownBlock=some g→D.ids f:=by
   intro f hf hg
   rcases hids f hf with hf | hf
   ·exact hf
   ·rcases hnew f hf with hf | ⟨_,_,h3⟩
    ·exact hf
    ·rw [h3] at hg;cases hg
  have k1:=key f hf hg
  have k2:=key f' hf' hg'
  rw [(hF f k1).2] at hg
  rw [(hF f' k2).2] at hg'
  exact h.inj f f' g k1 k2 hg hg'
end Go.Proofs.YtodcnkbblippnaaGreatDoor
namespace Go.Proofs.YtodcnkbblippnaaGreatDoor
open Go.RowKit
attribute [local go_sem ↓] Go.wp_at_zero Go.wp_at_succ
set_option maxRecDepth 100000 in
set_option maxHeartbeats 400000 in
theorem A0F (w:World) (v:Value) (es:List Ent) (name:ByteArray) (h:A1l w v es):
 Calls Tryz.prog 77 #[v,.string name] w fun e w'=>e=.returned (.int .i64 (A1x es name))∧w=w':=by
 obtain ⟨a,cap,rfl,hc1,hc2,hcell⟩:=h.form
 unfold maxLen at hc2
 clear h
 go_enter Tryz.func77,Tryz.ntmps77
 go_wp2
 go_loop [5,8] (fun j i=>∃ k:Nat,k≤es.length∧i=.int .i64 k∧Hid (∀ m (hm:m<k) (h2:m<es.length),(es[m]'h2).1≠name)) (fun _ i=>es.length - (intOf i).toNat)
 case atStart=>exact ⟨0,Nat.zero_le _,rfl,fun m hm=>absurd hm (by omega)⟩
 case round=>
  obtain ⟨k,hk,rfl,hno⟩:=hrel
  by_cases hlt:k<es.length
  ·obtain ⟨g,rfl,hn,hp⟩:=hcell k hlt
   clear hcell
   by_cases heq:(es[k]'hlt).1=name
   ·have ht:((es[k]'hlt).1.toList == name.toList)=true:=(A3y _ _).2 heq
    have hf:=Hid.out hno
    have hfin:=B4w es name k hlt heq (fun m hm=>hf m hm (by omega))
    clear hf heq
    have Hfin:Hid (A1x es name=k):=hfin
    clear hfin
    go_wp2
    go_ret
    exact ⟨by rw [Hfin.out];rfl,rfl⟩
   ·have ht:((es[k]'hlt).1.toList == name.toList)=false:=(A5f _ _).2 heq
    have Heq:Hid ((es[k]'hlt).1≠name):=heq
    clear heq
    go_wp2
    go_round
    case rel=>exact ⟨k+1,by omega,by go_num,fun m hm h2=>by rcases Nat.lt_or_ge m k with h | h;exact hno m h h2;(obtain rfl:m=k:=(by omega));exact Heq.out⟩
    case measure=>simp [intOf];omega
  ·have hfin:=B2e es name (fun m hm=>Hid.out hno m (by omega) hm)
   have Hfin:Hid (A1x es name = -1):=hfin
   clear hfin hcell
   go_wp2
   go_ret
   exact ⟨by rw [Hfin.out];rfl,rfl⟩
def bg (n:DN):Bool × Int × DN:=
 let c:=wrap64 (n.calls+1)
 if n.dead then (false,5,{ n with calls:=c,refused:=wrap64 (n.refused+1) })
 else if c=n.cut then (true,5,{ n with calls:=c,refused:=wrap64 (n.refused+1),dead:=true })
 else if c=n.fail then (false,5,{ n with calls:=c,refused:=wrap64 (n.refused+1) })
 else (true,0,{ n with calls:=c })
set_option maxRecDepth 100000 in
set_option maxHeartbeats 400000 in
theorem A1e (w:World) (b:Nat) (vd vs vc:Value) (n:DN) (h:A0H w b vd vs vc n):
 Calls Tryz.prog 121 #[.pointer (some ⟨b,0,none⟩)] w fun e w'=>e=.returned (.tuple #[.bool (bg n).1,.int .i64 (bg n).2.1])∧A0H w' b vd vs vc (bg n).2.2∧Chg (One b) w w':=by
 have h4:=h.c4
 have h5:=h.c5
 have h6:=h.c6
 have h8:=h.c8
 have h10:=h.c10
 have hf:=h.fz
 have e1:=(h.s4 (wrap64 (n.calls+1)))
 have e2:=e1.s8 (wrap64 (n.refused+1))
 have e3:=e2.s10 true
 have C1:=(Chg.refl (One b) w).setAt rfl 4 (.int .i64 (wrap64 (n.calls+1)))
 have C2:=C1.setAt rfl 8 (.int .i64 (wrap64 (n.refused+1)))
 have C3:=C2.setAt rfl 10 (.bool true)
 have E1:=A0b e1
 have E2:=A0b e2
 have E3:=A0b e3
 have K1:=A0b C1
 have K2:=A0b C2
 have K3:=A0b C3
 clear e1 e2 e3 C1 C2 C3 h
 by_cases hd:n.dead=true
 ·have q:Hid (bg n=(false,5,{ n with calls:=wrap64 (n.calls+1),refused:=wrap64 (n.refused+1) })):=by unfold Hid;simp [bg,hd]
  go_enter Tryz.func121,Tryz.ntmps121
  go_wp2
  go_ret2
  rw [q.out]
  exact ⟨rfl,E2.out,K2.out⟩
 ·have hd':n.dead=false:=by simpa using hd
  clear hd
  by_cases hc:(wrap64 (n.calls+1) == n.cut)=true
  ·have q:Hid (bg n=(true,5,{ n with calls:=wrap64 (n.calls+1),refused:=wrap64 (n.refused+1),dead:=true })):=by unfold Hid;simp [bg,hd',eq_of_beq hc]
   go_enter Tryz.func121,Tryz.ntmps121
   go_wp2
   go_region_held3 (fun w'=>w'.cell? ⟨b,4,none⟩=some (.int .i64 (wrap64 (n.calls+1)))∧w'.cell? ⟨b,5,none⟩=some (.int .i64 n.cut)) (refine ⟨?_,?_⟩ <;> go_simp) (fail)
   go_wp2
   go_ret2
   rw [q.out]
   exact ⟨rfl,E3.out,K3.out.drew⟩
  ·have hc':(wrap64 (n.calls+1) == n.cut)=false:=by simpa using hc
   clear hc
   by_cases hl:(wrap64 (n.calls+1) == n.fail)=true
   ·have q:Hid (bg n=(false,5,{ n with calls:=wrap64 (n.calls+1),refused:=wrap64 (n.refused+1) })):=by
     have:=ne_of_beq_false hc'
     unfold Hid bg;dsimp only;rw [if_neg (by rw [hd'];decide),if_neg this,if_pos (eq_of_beq hl)]
    go_enter Tryz.func121,Tryz.ntmps121
    go_wp2
    go_region_held3 (fun w'=>w'.cell? ⟨b,4,none⟩=some (.int .i64 (wrap64 (n.calls+1)))∧w'.cell? ⟨b,5,none⟩=some (.int .i64 n.cut)) (refine ⟨?_,?_⟩ <;> go_simp) (fail)
    go_wp2
    go_region_held3 (fun w'=>w'.cell? ⟨b,4,none⟩=some (.int .i64 (wrap64 (n.calls+1)))∧w'.cell? ⟨b,6,none⟩=some (.int .i64 n.fail)) (refine ⟨?_,?_⟩ <;> go_simp) (fail)
    go_wp2
    go_ret2
    rw [q.out]
    exact ⟨rfl,E2.out,K2.out.drew.drew⟩
   ·have hl':(wrap64 (n.calls+1) == n.fail)=false:=by simpa using hl
    clear hl
    have q:Hid (bg n=(true,0,{ n with calls:=wrap64 (n.calls+1) })):=by
     have:=ne_of_beq_false hc'
     have h2:=ne_of_beq_false hl'
     unfold Hid bg;dsimp only;rw [if_neg (by rw [hd'];decide),if_neg this,if_neg h2]
    go_enter Tryz.func121,Tryz.ntmps121
    go_wp2
    go_region_held3 (fun w'=>w'.cell? ⟨b,4,none⟩=some (.int .i64 (wrap64 (n.calls+1)))∧w'.cell? ⟨b,5,none⟩=some (.int .i64 n.cut)) (refine ⟨?_,?_⟩ <;> go_simp) (fail)
    go_wp2
    go_region_held3 (fun w'=>w'.cell? ⟨b,4,none⟩=some (.int .i64 (wrap64 (n.calls+1)))∧w'.cell? ⟨b,6,none⟩=some (.int .i64 n.fail)) (refine ⟨?_,?_⟩ <;> go_simp) (fail)
    go_wp2
    go_ret2
    rw [q.out]
    exact ⟨rfl,E1.out,K1.out.drew.drew⟩
end Go.Proofs.YtodcnkbblippnaaGreatDoor
namespace Go.Proofs.YtodcnkbblippnaaGreatDoor
open Go.RowKit
attribute [local go_sem ↓] Go.wp_at_zero Go.wp_at_succ
theorem Tryz.infoEntry:(Tryz.prog.info? 125).map (fun i=>(i.zero,i.size,i.bytes))=some (some (.agg #[.string ByteArray.empty,.pointer none]),2,24):=by kernel_rfl
theorem Tryz.infoChange:(Tryz.prog.info? 120).map (fun i=>(i.zero,i.size,i.bytes))=some (some (.agg #[.slice none 0 0]),1,24):=by kernel_rfl
theorem Tryz.infoByte:(Tryz.prog.info? 5).map (fun i=>(i.zero,i.size,i.bytes))=some (some (.int .u8 0),1,1):=by kernel_rfl
theorem Tryz.infoString:(Tryz.prog.info? 9).map (fun i=>(i.zero,i.size,i.bytes))=some (some (.string ByteArray.empty),1,16):=by kernel_rfl
def B1L (room:Int):DN:=⟨room,0,0,0,0,0,0,false⟩
set_option maxRecDepth 100000 in
set_option maxHeartbeats 400000 in
theorem B4S (room:Int) (w:World):
 Calls Tryz.prog 21 #[.int .i64 room] w fun e w'=>e=.returned (.pointer (some ⟨w.heap.size,0,none⟩))∧A0H w' w.heap.size (.slice none 0 0) (.slice none 0 0) (.slice none 0 0) (B1L room)∧w'.heap.size=w.heap.size+1∧Chg (fun _=>False) w w':=by
 go_enter Tryz.func21,Tryz.ntmps21
 go_wp2
 go_ret
 exact ⟨rfl,heap_alloc_new w _,by simp,(Chg.refl _ w).alloc _⟩
set_option maxRecDepth 100000 in
set_option maxHeartbeats 400000 in
theorem B5h (w:World) (b:Nat) (vd vs vc:Value) (n:DN) (c:Int) (h:A0H w b vd vs vc n):
 Calls Tryz.prog 35 #[.pointer (some ⟨b,0,none⟩),.int .i64 c] w fun e w'=>e=.returned (.tuple #[])∧A0H w' b vd vs vc { n with cut:=if c>0 then wrap64 (n.calls+c) else 0 }∧Chg (One b) w w':=by
 have h4:=h.c4
 have h5:=h.c5
 have hf:=h.fz
 have e1:=A0b (h.s5 0)
 have e2:=A0b ((h.s5 0).s5 (wrap64 (n.calls+c)))
 have k1:=A0b ((Chg.refl (One b) w).setAt rfl 5 (.int .i64 0))
 have k2:=A0b (((Chg.refl (One b) w).setAt rfl 5 (.int .i64 0)).setAt rfl 5 (.int .i64 (wrap64 (n.calls+c))))
 clear h
 go_enter Tryz.func35,Tryz.ntmps35
 go_wp2
 ·go_end0
  exact ⟨rfl,e2.out,k2.out⟩
 ·go_end0
  exact ⟨rfl,e1.out,k1.out⟩
def A5x (n:DN) (c p:Int):DN:={ n with fail:=if c>0 then wrap64 (n.calls+c) else 0,part:=if p<0 then wrap64 (-(wrap64 (p+1))) else p }
set_option maxRecDepth 100000 in
set_option maxHeartbeats 400000 in
theorem B4k (w:World) (b:Nat) (vd vs vc:Value) (n:DN) (c p:Int) (h:A0H w b vd vs vc n):
 Calls Tryz.prog 78 #[.pointer (some ⟨b,0,none⟩),.int .i64 c,.int .i64 p] w fun e w'=>e=.returned (.tuple #[])∧A0H w' b vd vs vc (A5x n c p)∧Chg (One b) w w':=by
 have h4:=h.c4
 have h6:=h.c6
 have h7:=h.c7
 have hf:=h.fz
 have Q:Hid (A0H w b vd vs vc n):=h
 clear h
 go_enter Tryz.func78,Tryz.ntmps78
 go_wp2
 ·have h1:0<c:=by assumption
  have h2:p<0:=by assumption
  go_end0
  have q:A5x n c p = { n with fail:=wrap64 (n.calls+c),part:=wrap64 (-(wrap64 (p+1))) }:=by simp [A5x,h1,h2]
  rw [q]
  exact ⟨rfl,(((Q.out.s6 0).s6 _).s7 _).s7 _,((((Chg.refl (One b) w).setAt rfl 6 _).setAt rfl 6 _).setAt rfl 7 _).setAt rfl 7 _⟩
 ·have h1:0<c:=by assumption
  have h2:0≤p:=by assumption
  go_end0
  have q:A5x n c p = { n with fail:=wrap64 (n.calls+c),part:=p }:=by simp [A5x,h1];omega
  rw [q]
  exact ⟨rfl,((Q.out.s6 0).s6 _).s7 _,(((Chg.refl (One b) w).setAt rfl 6 _).setAt rfl 6 _).setAt rfl 7 _⟩
 ·have h1:c≤0:=by assumption
  have h2:p<0:=by assumption
  go_end0
  have q:A5x n c p = { n with fail:=0,part:=wrap64 (-(wrap64 (p+1))) }:=by simp [A5x,h2];omega
  rw [q]
  exact ⟨rfl,((Q.out.s6 0).s7 _).s7 _,(((Chg.refl (One b) w).setAt rfl 6 _).setAt rfl 7 _).setAt rfl 7 _⟩
 ·have h1:c≤0:=by assumption
  have h2:0≤p:=by assumption
  go_end0
  have q:A5x n c p = { n with fail:=0,part:=p }:=by simp [A5x];omega
  rw [q]
  exact ⟨rfl,(Q.out.s6 0).s7 _,((Chg.refl (One b) w).setAt rfl 6 _).setAt rfl 7 _⟩
set_option maxRecDepth 100000 in
set_option maxHeartbeats 400000 in
theorem B3s (w:World) (b:Nat) (vd vs vc:Value) (n:DN) (h:A0H w b vd vs vc n):
 Calls Tryz.prog 36 #[.pointer (some ⟨b,0,none⟩)] w fun e w'=>e=.returned (.bool n.dead)∧w=w':=by
 have h4:=h.c10
 go_enter Tryz.func36,Tryz.ntmps36
 go_wp2
 go_ret
 exact ⟨rfl,rfl⟩
set_option maxRecDepth 100000 in
set_option maxHeartbeats 400000 in
theorem A8W (w:World) (b:Nat) (vd vs vc:Value) (n:DN) (h:A0H w b vd vs vc n):
 Calls Tryz.prog 50 #[.pointer (some ⟨b,0,none⟩)] w fun e w'=>e=.returned (.int .i64 n.refused)∧w=w':=by
 have h4:=h.c8
 go_enter Tryz.func50,Tryz.ntmps50
 go_wp2
 go_ret
 exact ⟨rfl,rfl⟩
set_option maxRecDepth 100000 in
set_option maxHeartbeats 400000 in
theorem B1u (w:World) (b:Nat) (vd vs vc:Value) (n:DN) (h:A0H w b vd vs vc n):
 Calls Tryz.prog 88 #[.pointer (some ⟨b,0,none⟩)] w fun e w'=>e=.returned (.int .i64 n.fulls)∧w=w':=by
 have h4:=h.c9
 go_enter Tryz.func88,Tryz.ntmps88
 go_wp2
 go_ret
 exact ⟨rfl,rfl⟩
def A1o (D:DS) (F:Nat→FC) (name:ByteArray):Int × Int:=match A0u D.dir name with
 | some f=>(((F f).1.length:Nat),0)
 | none=>(0,8)
set_option maxRecDepth 100000 in
set_option maxHeartbeats 400000 in
theorem B3O (w:World) (b:Nat) (D:DS) (F:Nat→FC) (vd vs vc:Value) (vals:List Value) (VB:Nat→Value) (h:A2j w b D F vd vs vc vals VB) (name:ByteArray):
 Calls Tryz.prog 81 #[.pointer (some ⟨b,0,none⟩),.string name] w fun e w'=>e=.returned (.tuple #[.int .i64 (A1o D F name).1,.int .i64 (A1o D F name).2])∧w=w':=by
 have hc:=h.blk.c0
 obtain ⟨a,cap,rfl,hc1,hc2,hcell⟩:=h.dir.form
 have hd:=h.dir
 unfold maxLen at hc2
 rcases A1M D.dir name with ⟨h1,h2⟩ | ⟨k,hk,h1,h2,h3⟩
 ·have q:Hid (A1o D F name=(0,8)):=by unfold Hid A1o;rw [h2]
  have hfi:A1x D.dir name<0:=by omega
  clear h h1 h2 hcell
  go_enter Tryz.func81,Tryz.ntmps81
  go_wp2_with (go_at_call 77;refine (A0F _ _ _ _ hd).mono ?_;rintro e w' ⟨rfl,rfl⟩)
  go_ret2
  rw [q.out]
  exact ⟨rfl,rfl⟩
 ·have q:Hid (A1o D F name=((((F (D.dir[k]'hk).2).1.length:Nat):Int),0)):=by unfold Hid A1o;rw [h2]
  obtain ⟨hfb,hbs⟩:=h.dirAt k hk
  obtain ⟨a',cap',hv,_,_⟩:=hbs.form
  rw [hv] at hfb
  have hb0:=hfb.c0
  obtain ⟨g,rfl,hn,hp⟩:=hcell k hk
  clear hv hbs hfb hcell h h2 h3
  have H1:Hid (A1x D.dir name=k):=h1
  clear h1
  go_enter Tryz.func81,Tryz.ntmps81
  go_wp2_with (go_at_call 77;refine (A0F _ _ _ _ hd).mono ?_;rintro e w' ⟨rfl,rfl⟩;rw [H1.out])
  go_ret2
  rw [q.out]
  exact ⟨rfl,rfl⟩
end Go.Proofs.YtodcnkbblippnaaGreatDoor
namespace Go.Proofs.YtodcnkbblippnaaGreatDoor
open Go.RowKit
attribute [local go_sem ↓] Go.wp_at_zero Go.wp_at_succ
set_option maxRecDepth 100000 in
set_option maxHeartbeats 400000 in
theorem A3K (w:World) (b:Nat) (vd vs vc:Value) (n:DN) (m:Nat) (vals:List Value) (a:Option Addr) (len cap:Nat) (h:A0H w b vd vs vc n) (hc:w.ownsRow 0 120 1 vc m vals) (hm:m<1099511627776):
 Calls Tryz.prog 122 #[.pointer (some ⟨b,0,none⟩),.slice a len cap] w fun e w'=>e=.returned (.tuple #[])∧
  ∃ vc',A0H w' b (.slice a len cap) vs vc' n∧w'.ownsRow 0 120 1 vc' (m+1) (vals ++ [.slice a len cap])∧Chg (fun k=>k=b∨vc.ownBlock=some k) w w'∧(∀ g,vc'.ownBlock=some g→vc.ownBlock=some g∨w.heap.size≤g):=by
 obtain ⟨i0,hi,hz0,hz1,hz2⟩:=info_parts Tryz.infoChange
 have h2:=h.c2
 have h0:=h.c0
 have hf:=h.fz
 have hlt:=h.lt
 have hne:vc.ownBlock≠some b:=by
  intro e;obtain ⟨c,hh⟩:=A0f hc e
  exact A0r hh h (by decide) rfl
 have hs:=A0b (h.s0 (.slice a len cap))
 have how:=A0b ((ownsRow_setCell_other hc (a:=⟨b,0,none⟩) hne (.slice a len cap)).alloc (.cells #[.slice a len cap] 120))
 have hsrc:=A0b (Src.ofNew (size:=1) Tryz.underlying93 (w.setCell ⟨b,0,none⟩ (.slice a len cap)) #[.slice a len cap] 120 w.heap.size (by simp) 1 1 rfl (by simp [Value.oneCell']))
 have hc1:=A0b (((Chg.refl (fun k=>k=b∨vc.ownBlock=some k) w).setAt (.inl rfl) 0 (.slice a len cap)).alloc (.cells #[.slice a len cap] 120))
 clear h hc
 have Hne:Hid (vc.ownBlock≠some b):=hne
 clear hne
 go_enter Tryz.func122,Tryz.ntmps122
 go_wp2_with (at_builtin;go_loud (refine A0o rfl (.tmp 12) (.tmp 15) 93 93 rfl 120 i0 _ 1 24 Tryz.underlying93 hi hz0 hz1 hz2 rfl (by decide) vc m vals (by rfl) how.out _ 1 _ (by rfl) hsrc.out (by omega) ?_);intro a2 cap2 w1 hA;have hd1:=(hs.out.alloc _).grown hA.grown Hne.out;have h21:=hd1.c2;have hf1:=hd1.fz)
 go_end0
 refine ⟨rfl,_,hd1.s2 _,?_,?_,?_⟩
 ·refine ownsRow_setCell_other hA.own (a:=⟨b,2,none⟩) ?_ _
  intro e;obtain ⟨c,hh⟩:=A0f hA.own e
  exact A0r hh hd1 (by decide) rfl
 ·exact (hc1.out.grown hA.grown (fun k hk _=>.inr hk)).setAt (.inl rfl) 2 _
 ·intro g hg
  rcases hA.at_ with h | h
  ·exact .inl (h.symm.trans hg)
  ·right;rw [hg] at h;cases h;simp
end Go.Proofs.YtodcnkbblippnaaGreatDoor
namespace Go.Proofs.YtodcnkbblippnaaGreatDoor
open Go.RowKit
attribute [local go_sem ↓] Go.wp_at_zero Go.wp_at_succ
def upd (F:Nat→FC) (f0:Nat) (c:FC):Nat→FC:=fun f=>if f=f0 then c else F f
def A0I (D:DS) (name:ByteArray) (f0:Nat):Int × DS:=
 if name=ByteArray.empty∨A1x D.dir name≥0 then (8,D) else
  ((bg D.n).2.1,if (bg D.n).1 then { D with dir:=D.dir ++ [(name,f0)],changes:=D.changes ++ [D.dir ++ [(name,f0)]],n:=(bg D.n).2.2 } else { D with n:=(bg D.n).2.2 })
theorem isEmpty_iff (s:ByteArray):s.toList.isEmpty=true↔s=ByteArray.empty:=by
 rw [List.isEmpty_iff,Lib.toList_data]
 exact ⟨fun h=>WideShapes.bytes_inj (by rw [h];rfl),fun h=>by rw [h];rfl⟩
theorem A2j.updF {w:World} {b:Nat} {D:DS} {F:Nat→FC} {vd vs vc:Value} {vals:List Value} {VB:Nat→Value} (h:A2j w b D F vd vs vc vals VB) {f0:Nat} (hf:w.heap.size≤f0) (c:FC):
 A2j w b D (upd F f0 c) vd vs vc vals VB:=
 ⟨h.blk,h.dir,h.safe,h.chg,h.che,fun f hh=>by
  have:f≠f0:=by have:=h.lt (.fil hh);omega
  simp only [upd,this,if_false];exact h.fil f hh,h.inj⟩
theorem A2M.n {b:Nat} {D:DS} {n:DN} {vd vs vc:Value} {vals:List Value} {VB:Nat→Value} {k:Nat} (h:A2M b { D with n:=n } vd vs vc vals VB k):A2M b D vd vs vc vals VB k:=by
 cases h using A2M.elim with
 | blk=>exact .blk
 | dir e=>exact .dir e
 | safe e=>exact .safe e
 | chg e=>exact .chg e
 | che h e=>exact .che h e
 | fil h=>exact .fil h
 | byt h e=>exact .byt h e
theorem A2j.afterN {w w':World} {b:Nat} {D:DS} {F:Nat→FC} {vd vs vc:Value} {vals:List Value} {VB:Nat→Value} {Ft:Nat→Prop} (h:A2j w b D F vd vs vc vals VB) (hft:∀ k,A2M b D vd vs vc vals VB k→Ft k)
 {n:DN} (hb:A0H w' b vd vs vc n) (hc:Chg (One b) w w'):A1O w Ft w' b { D with n:=n } F:=
 A1O.mk' (hc.mono fun k _ hk=>by cases hk;exact hft b .blk) (h.turn hb hc) fun k hk=>.inl (hft k hk.n)
theorem App.chg {w w':World} {e size n:Nat} {v v':Value} {xs:List Value} (h:App w w' e size v v' n xs) {S:Nat→Prop} (hS:∀ k,v.ownBlock=some k→S k):Chg S w w':=
 (Chg.refl S w).grown h.grown fun k hk _=>hS k hk
theorem A2Z.same {w w':World} {f:Nat} {vb:Value} {safe:Int} (h:A2Z w f vb safe) (he:w'.heap[f]?=w.heap[f]?):A2Z w' f vb safe:=he.trans h
theorem B0t {w w1 w2 w3 w5:World} {b:Nat} {D:DS} {F:Nat→FC} {vd vs vc va2 vc':Value} {vals:List Value} {VB:Nat→Value} {Ft:Nat→Prop} {n1:DN} {a3:Option Addr} {cap3:Nat} {name:ByteArray}
 (hr:A2j w b D F vd vs vc vals VB) (hft:∀ k,A2M b D vd vs vc vals VB k→Ft k) (hb1:A0H w1 b vd vs vc n1) (hc1:Chg (One b) w w1)
 (hA:App w1 w2 125 2 (.slice none 0 0) va2 D.dir.length (A0s D.dir))
 (hB:App ((w2.alloc (.cells #[.slice none 0 0,.int .i64 0] 129)).alloc (.cells #[.string name,.pointer (some ⟨w2.heap.size,0,none⟩)] 125)) w3 125 2 va2 (.slice a3 (D.dir.length+1) cap3) (D.dir.length+1) (A0s D.dir ++ [.string name,.pointer (some ⟨w2.heap.size,0,none⟩)]))
 (hb5:A0H w5 b (.slice a3 (D.dir.length+1) cap3) vs vc' n1) (hch:w5.ownsRow 0 120 1 vc' (D.changes.length+1) (vals ++ [.slice a3 (D.dir.length+1) cap3]))
 (hc5:Chg (fun k=>k=b∨vc.ownBlock=some k) w3 w5) (hv:∀ g,vc'.ownBlock=some g→vc.ownBlock=some g∨w3.heap.size≤g):
 w.heap.size≤w2.heap.size∧A1O w Ft w5 b { D with dir:=D.dir ++ [(name,w2.heap.size)],changes:=D.changes ++ [D.dir ++ [(name,w2.heap.size)]],n:=n1 } (upd F w2.heap.size ([],0)):=by
 have hva:∀ k,va2.ownBlock=some k→k=w1.heap.size:=by
  intro k hk
  rcases hA.at_ with h | h
  ·rw [h] at hk;cases hk
  ·rw [h] at hk;cases hk;rfl
 have s1:=hc1.size
 have s2:=hA.grown.size
 have s3:=hB.grown.size
 have s5:=hc5.size
 simp only [World.size_alloc] at s3
 have c13:Chg (fun _=>False) w1 w3:=
  (((hA.chg (S:=fun _=>False) (by intro k hk;simp [Value.ownBlock] at hk)).alloc (.cells #[.slice none 0 0,.int .i64 0] 129)).alloc (.cells #[.string name,.pointer (some ⟨w2.heap.size,0,none⟩)] 125)).grown hB.grown
    (fun k hk hlt=>by have:=hva k hk;omega)
 have r1:=hr.turn hb1 hc1
 have r3:A2j w3 b { D with n:=n1 } F vd vs vc vals VB:=r1.frame fun k hk=>c13.block k (r1.lt hk) (fun h=>h)
 have f0:A2Z ((w2.alloc (.cells #[.slice none 0 0,.int .i64 0] 129)).alloc (.cells #[.string name,.pointer (some ⟨w2.heap.size,0,none⟩)] 125)) w2.heap.size (.slice none 0 0) 0:=by
  unfold A2Z
  rw [Below.heap_alloc _ _ _ (by simp)]
  exact heap_alloc_new _ _
 have f3:A2Z w3 w2.heap.size (.slice none 0 0) 0:=f0.same (hB.grown.block _ (by simp;omega) (fun e=>by have:=A0c hA.own e.symm;omega))
 have f5:A2Z w5 w2.heap.size (.slice none 0 0) 0:=f3.same (hc5.block _ (by omega) (by
  rintro (e | e)
  ·exact A0r f3 r3.blk (by decide) e
  ·obtain ⟨c,hh⟩:=A0f r3.chg e
   exact A0r f3 hh (by decide) rfl))
 have e3:A1l w3 (.slice a3 (D.dir.length+1) cap3) (D.dir ++ [(name,w2.heap.size)]):=by
  have:=hB.own
  unfold A1l
  rw [A1G]
  simpa [A0s] using this
 have e5:A1l w5 (.slice a3 (D.dir.length+1) cap3) (D.dir ++ [(name,w2.heap.size)]):=A0a e3 fun g hg=>hc5.block g (A0c e3 hg) (by
  obtain ⟨c,hh⟩:=A0f e3 hg
  rintro (e | e)
  ·exact A0r hh r3.blk (by decide) e
  ·obtain ⟨c',hh'⟩:=A0f r3.chg e
   exact A0r hh hh' (by decide) rfl)
 have hold:∀ f,D.ids f→f≠w2.heap.size:=fun f hf=>by have:=hr.lt (.fil hf);omega
 have r5:=r3.turnDir (F':=upd F w2.heap.size ([],0)) (VB':=fun f=>if f=w2.heap.size then .slice none 0 0 else VB f) (es:=D.dir ++ [(name,w2.heap.size)]) hb5 hch e5 hc5 (fun k hk=>hk)
  (fun f hf=>by have:=hold f hf;simp [upd,this])
  (fun f hf=>by
   obtain ⟨e,he,rfl⟩:=hf
   rcases List.mem_append.1 he with he | he
   ·exact .inl (.inl ⟨e,he,rfl⟩)
   ·simp at he;subst he
    right
    simp only [upd,if_true]
    exact ⟨f5,World.ownsRow_nil _ _ _ _,rfl⟩)
 refine ⟨by omega,A1O.mk' ?_ r5 ?_⟩
 ·have a:Chg Ft w w3:=(hc1.mono (S':=Ft) fun k _ hk=>by cases hk;exact hft b .blk).trans c13 (fun x hx=>hx.elim)
  refine a.trans hc5 ?_
  rintro x (e | e) _
  ·subst e;exact hft x .blk
  ·exact hft x (.chg e)
 ·intro k hk
  cases hk using A2M.elim with
  | blk=>exact .inl (hft b .blk)
  | dir e=>
   rcases hB.at_ with h | h
   ·rw [h] at e;have:=hva _ e;right;omega
   ·rw [h] at e;cases e;right;simp;omega
  | safe e=>exact .inl (hft k (.safe e))
  | chg e=>
   rcases hv k e with h | h
   ·exact .inl (hft k (.chg h))
   ·right;omega
  | che hm e=>
   rcases List.mem_append.1 hm with hm | hm
   ·exact .inl (hft k (.che hm e))
   ·simp at hm;subst hm
    rcases hB.at_ with h | h
    ·rw [h] at e;have:=hva _ e;right;omega
    ·rw [h] at e;cases e;right;simp;omega
  | fil hf=>
   rcases hf with ⟨e,he,rfl⟩ | hf | ⟨c,hcm,hf⟩
   ·rcases List.mem_append.1 he with he | he
    ·exact .inl (hft _ (.fil (.inl ⟨e,he,rfl⟩)))
    ·simp at he;subst he;right;simp;omega
   ·exact .inl (hft _ (.fil (.inr (.inl hf))))
   ·rcases List.mem_append.1 hcm with hcm | hcm
    ·exact .inl (hft _ (.fil (.inr (.inr ⟨c,hcm,hf⟩))))
    ·simp at hcm;subst hcm
     obtain ⟨e,he,rfl⟩:=hf
     rcases List.mem_append.1 he with he | he
     ·exact .inl (hft _ (.fil (.inl ⟨e,he,rfl⟩)))
     ·simp at he;subst he;right;simp;omega
  | byt hf e=>
   rename_i f
   by_cases hx:f=w2.heap.size
   ·simp [hx,Value.ownBlock] at e
   ·simp only [hx,if_false] at e
    have hf':D.ids f:=by
     rcases hf with ⟨en,he,rfl⟩ | hf | ⟨c,hcm,hf⟩
     ·rcases List.mem_append.1 he with he | he
      ·exact .inl ⟨en,he,rfl⟩
      ·simp at he;subst he;exact absurd rfl hx
     ·exact .inr (.inl hf)
     ·rcases List.mem_append.1 hcm with hcm | hcm
      ·exact .inr (.inr ⟨c,hcm,hf⟩)
      ·simp at hcm;subst hcm
       obtain ⟨en,he,rfl⟩:=hf
       rcases List.mem_append.1 he with he | he
       ·exact .inl ⟨en,he,rfl⟩
       ·simp at he;subst he;exact absurd rfl hx
    exact .inl (hft _ (.byt hf' e))
theorem B0N {w1 w2 w3:World} {b:Nat} {D:DS} {F:Nat→FC} {vd vs vc va2:Value} {vals:List Value} {VB:Nat→Value} {n1:DN} {v3:Value} {n2:Nat} {xs:List Value} {o1 o2:Obj}
 (hb1:A0H w1 b vd vs vc n1) (r1:A2j w1 b { D with n:=n1 } F vd vs vc vals VB)
 (hA:App w1 w2 125 2 (.slice none 0 0) va2 D.dir.length (A0s D.dir)) (hB:App ((w2.alloc o1).alloc o2) w3 125 2 va2 v3 n2 xs):
 A0H w3 b vd vs vc n1∧w3.ownsRow 0 120 1 vc D.changes.length vals:=by
 have hva:∀ k,va2.ownBlock=some k→k=w1.heap.size:=by
  intro k hk
  rcases hA.at_ with h | h
  ·rw [h] at hk;cases hk
  ·rw [h] at hk;cases hk;rfl
 have c13:Chg (fun _=>False) w1 w3:=
  (((hA.chg (S:=fun _=>False) (by intro k hk;simp [Value.ownBlock] at hk)).alloc o1).alloc o2).grown hB.grown (fun k hk hlt=>by have:=hva k hk;omega)
 refine ⟨hb1.chg c13 (fun h=>h),A0a r1.chg fun g hg=>c13.block g (A0c r1.chg hg) (fun h=>h)⟩
set_option maxRecDepth 100000 in
set_option maxHeartbeats 1000000 in
theorem B1q (w:World) (b:Nat) (D:DS) (F:Nat→FC) (Ft:Nat→Prop) (h:Rep w b D F Ft) (name:ByteArray) (hs:D.dir.length<1099511627776∧D.changes.length<1099511627776):
 Calls Tryz.prog 83 #[.pointer (some ⟨b,0,none⟩),.string name] w fun e w'=>∃ f0,w.heap.size≤f0∧e=.returned (.int .i64 (A0I D name f0).1)∧A1O w Ft w' b (A0I D name f0).2 (upd F f0 ([],0)):=by
 obtain ⟨vd,vs,vc,vals,VB,hr,hft⟩:=h
 obtain ⟨hs1,hs2⟩:=hs
 have hq:∀ f0,w.heap.size≤f0→(A0I D name f0).2=D→A1O w Ft w b (A0I D name f0).2 (upd F f0 ([],0)):=fun f0 hf e=>by
  rw [e];exact A1O.mk' (Chg.refl _ _) (hr.updF hf _) fun k hk=>.inl (hft k hk)
 have Hq:=A0b hq
 clear hq
 have HR:=A0b hr
 have c0:=hr.blk.c0
 have hd:=A0b hr.dir
 have hbk:=A0b hr.blk
 obtain ⟨ad,cap,hvd,_⟩:=hr.dir.form
 have Hvd:=A0b hvd
 clear hr hvd
 by_cases hn:name.toList.isEmpty=true
 ·have q:Hid (A0I D name w.heap.size=(8,D)):=by unfold Hid A0I;rw [if_pos (.inl ((isEmpty_iff _).1 hn))]
  go_enter Tryz.func83,Tryz.ntmps83
  go_wp2
  go_ret
  exact ⟨_,Nat.le_refl _,by rw [q.out];rfl,Hq.out _ (Nat.le_refl _) (by rw [q.out])⟩
 ·have hn':name.toList.isEmpty=false:=by simpa using hn
  have hne:Hid (name≠ByteArray.empty):=fun e=>hn ((isEmpty_iff _).2 e)
  clear hn
  by_cases hx:(0:Int)≤A1x D.dir name
  ·have q:Hid (A0I D name w.heap.size=(8,D)):=by unfold Hid A0I;rw [if_pos (.inr hx)]
   go_enter Tryz.func83,Tryz.ntmps83
   go_wp2_with (go_at_call 77;refine (A0F _ _ _ _ hd.out).mono ?_;rintro e w' ⟨rfl,rfl⟩)
   go_ret
   exact ⟨_,Nat.le_refl _,by rw [q.out];rfl,Hq.out _ (Nat.le_refl _) (by rw [q.out])⟩
  ·have q:Hid (∀ f0,A0I D name f0=((bg D.n).2.1,if (bg D.n).1 then { D with dir:=D.dir ++ [(name,f0)],changes:=D.changes ++ [D.dir ++ [(name,f0)]],n:=(bg D.n).2.2 } else { D with n:=(bg D.n).2.2 })):=by
    intro f0;unfold A0I;rw [if_neg (by rintro (h | h);exact hne h;exact hx h)]
   have hx':A1x D.dir name<0:=by omega
   clear hx
   by_cases hdo:(bg D.n).1=true
   ·obtain ⟨i0,hi,hz0,hz1,hz2⟩:=info_parts Tryz.infoEntry
    have fin:Hid (∀ (w1 w2 w3 w5:World) (va2 vc':Value) (a3:Option Addr) (cap3:Nat),A0H w1 b vd vs vc (bg D.n).2.2→Chg (One b) w w1→App w1 w2 125 2 (.slice none 0 0) va2 D.dir.length (A0s D.dir)→
     App ((w2.alloc (.cells #[.slice none 0 0,.int .i64 0] 129)).alloc (.cells #[.string name,.pointer (some ⟨w2.heap.size,0,none⟩)] 125)) w3 125 2 va2 (.slice a3 (D.dir.length+1) cap3) (D.dir.length+1) (A0s D.dir ++ [.string name,.pointer (some ⟨w2.heap.size,0,none⟩)])→
     A0H w5 b (.slice a3 (D.dir.length+1) cap3) vs vc' (bg D.n).2.2→w5.ownsRow 0 120 1 vc' (D.changes.length+1) (vals ++ [.slice a3 (D.dir.length+1) cap3])→Chg (fun k=>k=b∨vc.ownBlock=some k) w3 w5→(∀ g,vc'.ownBlock=some g→vc.ownBlock=some g∨w3.heap.size≤g)→
     w.heap.size≤w2.heap.size∧A1O w Ft w5 b { D with dir:=D.dir ++ [(name,w2.heap.size)],changes:=D.changes ++ [D.dir ++ [(name,w2.heap.size)]],n:=(bg D.n).2.2 } (upd F w2.heap.size ([],0))):=
     fun w1 w2 w3 w5 va2 vc' a3 cap3 h1 h2 h3 h4 h5 h6 h7 h8=>B0t HR.out hft h1 h2 h3 h4 h5 h6 h7 h8
    have r1':Hid (∀ w1,A0H w1 b vd vs vc (bg D.n).2.2→Chg (One b) w w1→A2j w1 b { D with n:=(bg D.n).2.2 } F vd vs vc vals VB):=fun w1 h1 h2=>HR.out.turn h1 h2
    go_enter Tryz.func83,Tryz.ntmps83
    go_wp2_with (first
     | (go_at_call 77;refine (A0F _ _ _ _ hd.out).mono ?_;rintro e w' ⟨rfl,rfl⟩)
     | (go_at_call 121;refine (A1e _ _ _ _ _ _ hbk.out).mono ?_;rintro e w1 ⟨rfl,hb1,hc1⟩;have c01:=hb1.c0;have R1:=A0b (r1'.out w1 hb1 hc1))
     | (at_builtin;refine A0o rfl (.const (.slice none 0 0)) (.tmp 28) 92 92 rfl 125 i0 _ 2 24 Tryz.underlying92 hi hz0 hz1 hz2 rfl (by decide) (.slice none 0 0) 0 [] (by rfl) (World.ownsRow_nil _ 0 125 2) vd D.dir.length (A0s D.dir) (by rfl) (Src.ofOwn Tryz.underlying92 R1.out.dir (A2A _)) (by omega) ?_;intro a2 cap2 w2 hA;simp only [Nat.zero_add,List.nil_append] at hA;have hA2:=A0b ((hA.own.alloc (.cells #[.slice none 0 0,.int .i64 0] 129)).alloc (.cells #[.string name,.pointer (some ⟨w2.heap.size,0,none⟩)] 125));have hsr:=A0b (Src.ofNew (size:=2) Tryz.underlying92 (w2.alloc (.cells #[.slice none 0 0,.int .i64 0] 129)) #[.string name,.pointer (some ⟨w2.heap.size,0,none⟩)] 125 (w2.heap.size+1) (by simp) 1 1 rfl (by simp [Value.oneCell'])))
     | (at_builtin;refine A0o rfl (.tmp 31) (.tmp 36) 92 92 rfl 125 i0 _ 2 24 Tryz.underlying92 hi hz0 hz1 hz2 rfl (by decide) _ D.dir.length (A0s D.dir) (by rfl) hA2.out _ 1 _ (by rfl) hsr.out (by omega) ?_;intro a3 cap3 w3 hB;have hm:=A0b (B0N hb1 R1.out hA hB))
     | (go_at_call 122;refine (A3K _ b vd vs vc _ _ _ _ _ _ hm.out.1 hm.out.2 hs2).mono ?_;rintro e w5 ⟨rfl,vc',k1,k2,k3,k4⟩))
    go_ret
    obtain ⟨g1,g2⟩:=fin.out w1 w2 w3 w5 _ vc' a3 cap3 hb1 hc1 hA hB k1 k2 k3 k4
    refine ⟨w2.heap.size,g1,by rw [q.out];rfl,?_⟩
    rw [q.out,hdo]
    exact g2
   ·have hdo':(bg D.n).1=false:=by simpa using hdo
    clear hdo
    go_enter Tryz.func83,Tryz.ntmps83
    go_wp2_with (first | (go_at_call 77;refine (A0F _ _ _ _ hd.out).mono ?_;rintro e w' ⟨rfl,rfl⟩) | (go_at_call 121;refine (A1e _ _ _ _ _ _ hbk.out).mono ?_;rintro e w1 ⟨rfl,hb1,hc1⟩))
    go_ret
    refine ⟨w.heap.size,Nat.le_refl _,by rw [q.out];rfl,?_⟩
    rw [q.out,hdo']
    exact (HR.out.updF (Nat.le_refl _) _).afterN hft hb1 hc1
end Go.Proofs.YtodcnkbblippnaaGreatDoor
namespace Go.Proofs.YtodcnkbblippnaaGreatDoor
open Go.RowKit
attribute [local go_sem ↓] Go.wp_at_zero Go.wp_at_succ
def A1n (D:DS):Int × DS:=
 ((bg D.n).2.1,if (bg D.n).2.1=0 then { D with safe:=D.dir,changes:=[],n:=(bg D.n).2.2 } else { D with n:=(bg D.n).2.2 })
theorem A2j.syncDir {w w':World} {b:Nat} {D:DS} {F:Nat→FC} {vd vs vc:Value} {vals:List Value} {VB:Nat→Value} (h:A2j w b D F vd vs vc vals VB)
 (hb:A0H w' b vd vd (.slice none 0 0) D.n) (hc:Chg (One b) w w'):A2j w' b { D with safe:=D.dir,changes:=[] } F vd vd (.slice none 0 0) [] VB:=by
 have hk:∀ (k:Nat) (c:Array Value) (e:Nat),w.heap[k]?=some (Obj.cells c e (0,0))→e≠95→w'.heap[k]?=w.heap[k]?:=fun k c e hk he=>
  hc.block k (lt_of_block hk) (A0r hk h.blk he)
 have hd:A1l w' vd D.dir:=A0a h.dir fun g hg=>by obtain ⟨c,hh⟩:=A0f h.dir hg;exact hk g _ _ hh (by decide)
 have hids:∀ f,({ D with safe:=D.dir,changes:=[] }:DS).ids f→D.ids f:=by
  rintro f (hf | hf | ⟨c,hcm,hf⟩)
  ·exact .inl hf
  ·exact .inl hf
  ·cases hcm
 refine ⟨hb,hd,hd,World.ownsRow_nil _ _ _ _,fun i hi=>by simp at hi,fun f hf=>?_,fun f f' g hf hf'=>h.inj f f' g (hids f hf) (hids f' hf')⟩
 obtain ⟨h1,h2⟩:=h.fil f (hids f hf)
 refine ⟨?_,A0a h2 fun g hg=>by obtain ⟨c,hh⟩:=A0f h2 hg;exact hk g _ _ hh (by decide)⟩
 unfold A2Z at h1 ⊢;rw [hk f _ _ h1 (by decide)];exact h1
set_option maxRecDepth 100000 in
set_option maxHeartbeats 1000000 in
theorem A9d (w:World) (b:Nat) (D:DS) (F:Nat→FC) (Ft:Nat→Prop) (h:Rep w b D F Ft):
 Calls Tryz.prog 86 #[.pointer (some ⟨b,0,none⟩)] w fun e w'=>e=.returned (.int .i64 (A1n D).1)∧A1O w Ft w' b (A1n D).2 F:=by
 obtain ⟨vd,vs,vc,vals,VB,hr,hft⟩:=h
 obtain ⟨ad,cap,rfl,_⟩:=hr.dir.form
 have HR:=A0b hr
 have hbk:=A0b hr.blk
 clear hr
 by_cases hdo:(bg D.n).2.1=0
 ·have q:Hid (A1n D=(0,{ D with safe:=D.dir,changes:=[],n:=(bg D.n).2.2 })):=by unfold Hid A1n;rw [if_pos hdo,hdo]
  have hdo':((bg D.n).2.1 == 0)=true:=by simpa using hdo
  have hdo2:Hid ((bg D.n).2.1=0):=hdo
  clear hdo
  go_enter Tryz.func86,Tryz.ntmps86
  go_wp2_with (go_at_call 121;refine (A1e _ _ _ _ _ _ hbk.out).mono ?_;rintro e w1 ⟨rfl,hb1,hc1⟩;have c01:=hb1.c0;have c11:=hb1.c1;have c21:=hb1.c2;have hf1:=hb1.fz)
  go_ret
  refine ⟨by rw [q.out];simp [hdo2.out],?_⟩
  rw [q.out]
  have r1:=HR.out.turn hb1 hc1
  have r2:=r1.syncDir ((hb1.s1 _).s2 (.slice none 0 0)) (((Chg.refl (One b) w1).setAt rfl 1 _).setAt rfl 2 (.slice none 0 0))
  refine A1O.mk' ?_ r2 ?_
  ·exact (((hc1.mono (S':=Ft) fun k _ hk=>by cases hk;exact hft b .blk)).setAt (hft b .blk) 1 _).setAt (hft b .blk) 2 _
  ·intro k hk
   left
   cases hk using A2M.elim with
   | blk=>exact hft _ .blk
   | dir e=>exact hft _ (.dir e)
   | safe e=>exact hft _ (.dir e)
   | chg e=>simp [Value.ownBlock] at e
   | che hm e=>cases hm
   | fil hf=>
    rcases hf with hf | hf | ⟨c,hcm,_⟩
    ·exact hft _ (.fil (.inl hf))
    ·exact hft _ (.fil (.inl hf))
    ·cases hcm
   | byt hf e=>
    rcases hf with hf | hf | ⟨c,hcm,_⟩
    ·exact hft _ (.byt (.inl hf) e)
    ·exact hft _ (.byt (.inl hf) e)
    ·cases hcm
 ·have q:Hid (A1n D=((bg D.n).2.1,{ D with n:=(bg D.n).2.2 })):=by unfold Hid A1n;rw [if_neg hdo]
  have hdo':((bg D.n).2.1 == 0)=false:=by simpa using hdo
  clear hdo
  go_enter Tryz.func86,Tryz.ntmps86
  go_wp2_with (go_at_call 121;refine (A1e _ _ _ _ _ _ hbk.out).mono ?_;rintro e w1 ⟨rfl,hb1,hc1⟩)
  go_ret
  refine ⟨by rw [q.out];rfl,?_⟩
  rw [q.out]
  exact HR.out.afterN hft hb1 hc1
def A0J (F:Nat→FC):List Ent→Nat
 | []=>0
 | e :: r=>(F e.2).1.length+A0J F r
theorem A3H (F:Nat→FC) (a c:List Ent):A0J F (a ++ c)=A0J F a+A0J F c:=by
 induction a with
 | nil=>simp [A0J]
 | cons e r ih=>simp [A0J,ih];omega
theorem A6S (F:Nat→FC) (es:List Ent) (k:Nat) (hk:k<es.length):A0J F (es.take (k+1))=A0J F (es.take k)+(F (es[k]'hk).2).1.length:=by
 rw [List.take_succ_eq_append_getElem hk,A3H];simp [A0J]
theorem A7p (F:Nat→FC) (es:List Ent) (k:Nat):A0J F (es.take k)≤A0J F es:=by
 conv=>rhs;rw [← List.take_append_drop k es]
 rw [A3H];omega
set_option maxRecDepth 100000 in
set_option maxHeartbeats 1000000 in
theorem A3S (w:World) (b:Nat) (D:DS) (F:Nat→FC) (Ft:Nat→Prop) (h:Rep w b D F Ft) (hu:A0J F D.dir≤4611686018427387904):
 Calls Tryz.prog 90 #[.pointer (some ⟨b,0,none⟩)] w fun e w'=>e=.returned (.int .i64 (A0J F D.dir))∧Chg (fun _=>False) w w':=by
 obtain ⟨vd,vs,vc,vals,VB,hr,hft⟩:=h
 have c0:=hr.blk.c0
 have hlt:=hr.blk.lt
 obtain ⟨a,cap,rfl,hc1,hc2,hcell⟩:=hr.dir.form
 unfold maxLen at hc2
 have HR:=A0b hr
 clear hr
 go_enter Tryz.func90,Tryz.ntmps90
 go_wp2
 go_loopw [3,11] (fun t i wr=>∃ k:Nat,k≤D.dir.length∧i=.int .i64 k∧t=.int .i64 (A0J F (D.dir.take k))∧Chg (fun _=>False) w wr) (fun _ i _=>D.dir.length - (intOf i).toNat)
 case atStart=>exact ⟨0,Nat.zero_le _,rfl,by simp [A0J],Chg.refl _ _⟩
 case round=>
  obtain ⟨k,hk,rfl,rfl,hcr⟩:=hrel
  by_cases hlk:k<D.dir.length
  ·obtain ⟨g,rfl,hn,hp⟩:=hcell k hlk
   obtain ⟨hfb,hbs⟩:=HR.out.dirAt k hlk
   obtain ⟨a',cap',hv,_,_⟩:=hbs.form
   rw [hv] at hfb
   have hgl:g<w.heap.size:=World.block_lt_of_cell? w _ hn
   have hfl:=lt_of_block hfb
   have hn':wr.cell? ⟨g,k*2,none⟩=some (.string (D.dir[k]'hlk).1):=(World.cell?_of_block (hcr.block g hgl (fun h=>h))).trans hn
   have hp':wr.cell? ⟨g,k*2+1,none⟩=some (.pointer (some ⟨(D.dir[k]'hlk).2,0,none⟩)):=(World.cell?_of_block (hcr.block g hgl (fun h=>h))).trans hp
   have hb0:wr.cell? ⟨(D.dir[k]'hlk).2,0,none⟩=some (.slice a' (F (D.dir[k]'hlk).2).1.length cap'):=(World.cell?_of_block (hcr.block _ hfl (fun h=>h))).trans hfb.c0
   have hsz:=hcr.size
   have hflr:(D.dir[k]'hlk).2<wr.heap.size:=by omega
   have hgr:g<wr.heap.size:=by omega
   have ht:=A0b (A6S F D.dir k hlk)
   have hle:=A7p F D.dir (k+1)
   rw [A6S F D.dir k hlk] at hle
   clear hn hp hfb hv hbs hcell
   go_wp2
   go_roundw
   case rel=>exact ⟨k+1,by omega,by go_num,by rw [ht.out];go_num,hcr.alloc _⟩
   case measure=>simp [intOf];omega
  ·have hfin:D.dir.take k=D.dir:=List.take_of_length_le (by omega)
   have Hfin:=A0b hfin
   clear hfin hcell
   go_wp2
   go_ret
   exact ⟨by rw [Hfin.out];rfl,hcr⟩
def A3v (D:DS) (F:Nat→FC) (name:ByteArray) (at_ n:Int):List UInt8 × Int:=match A0u D.dir name with
 | some f=>if at_<0∨n<0∨at_>(F f).1.length∨n>(F f).1.length - at_ then ([],9) else (((F f).1.drop at_.toNat).take n.toNat,0)
 | none=>([],8)
end Go.Proofs.YtodcnkbblippnaaGreatDoor
