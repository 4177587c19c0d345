/-
  The statement WritesUptoCardSaid is proved: the law Writes answers true for every setting and every script of at most 1048576 bytes; there is no other condition.
  Part 12 of 33.
-/
import Derived.Test.YtodcnkbblippnaaGreatDoorPart08
import Derived.Test.YtodcnkbblippnaaGreatDoorPart09
import Derived.Test.YtodcnkbblippnaaGreatDoorPart02
namespace Go.Proofs.YtodcnkbblippnaaGreatDoor
open Go.RowKit
theorem A1T.before {w w1 w':World} {b:Nat} {D:DS} {F:Nat→FC} {Ft:Nat→Prop} (h:A1T w1 Ft w' b D F) (hc:Chg (fun _=>False) w w1):A1T w Ft w' b D F:=by
 obtain ⟨h1,Ft',h2,h3,h4⟩:=h
 exact ⟨(hc.mono fun _ _ h=>h.elim).trans h1 fun _ h _=>h,Ft',h2,h3,fun k hk=>(h4 k hk).imp id fun h=>Nat.le_trans hc.size h⟩
section
variable {B b:Nat} {D:DS} {F:Nat→FC} {Ft:Nat→Prop} {n:Int}
theorem A6I.before {w w1 w':World} {fb:Nat} (h:A6I w1 Ft fb w' b D F) (hc:Chg (fun _=>False) w w1):A6I w Ft fb w' b D F:=by
 obtain ⟨h1,Ft',h2,h3,h4⟩:=h
 exact ⟨(hc.mono fun _ _ h=>h.elim).trans h1 fun _ h _=>h,Ft',h2,h3,fun k hk=>(h4 k hk).imp id fun h=>Nat.le_trans hc.size h⟩
set_option maxRecDepth 100000 in
set_option maxHeartbeats 1000000 in
theorem B0A (w:World) (lb:Nat) (name:ByteArray) (s:Nat) (sr t v:Int) (hsr:0≤sr∧sr<256) (ht : -9223372036854775808≤t∧t≤9223372036854775807) (hv : -9223372036854775808≤v∧v≤9223372036854775807)
 (hf:A0z w lb 237 (.pointer (some ⟨b,0,none⟩)) name s) (hs:s<4294967296) (h:A0R w b D F Ft) (hlt:∀ k,Ft k→k<w.heap.size) (hn:¬ Ft lb) (hroom : -4611686018427387904≤D.n.room∧D.n.room≤9223372036854775807)
 (hu:A0J F D.dir≤4611686018427387904) (hp:0≤D.n.part∧D.n.part≤9223372036854775807) (hl:∀ f,A0u D.dir name=some f→(F f).1.length+21≤70368744177664)
 (hz:(A1o (A0q D F name ⟨(A1N sr t v ++ A2x (A0w s (A1N sr t v))).toArray⟩).2.1 (A0q D F name ⟨(A1N sr t v ++ A2x (A0w s (A1N sr t v))).toArray⟩).2.2 name).1≤70368744177664∧(A1o D F name).1≤70368744177664):
 Calls Tryz.prog 191 #[.pointer (some ⟨lb,0,none⟩),.agg #[.int .i64 sr,.int .i64 t,.int .i64 v]] w fun e w'=>e=.returned (.tuple #[.bool (A8p D F name (A1N sr t v ++ A2x (A0w s (A1N sr t v)))),.int .i64 (A0q D F name ⟨(A1N sr t v ++ A2x (A0w s (A1N sr t v))).toArray⟩).1])∧
  A0z w' lb 237 (.pointer (some ⟨b,0,none⟩)) name (A0w s (A1N sr t v))∧A6I w Ft lb w' b (A0q D F name ⟨(A1N sr t v ++ A2x (A0w s (A1N sr t v))).toArray⟩).2.1 (A0q D F name ⟨(A1N sr t v ++ A2x (A0w s (A1N sr t v))).toArray⟩).2.2:=by
 have PB:∀ w',_:=fun w'=>A5e w' sr t v hsr ht hv
 have hll:(A1N sr t v).length=17:=by simp [A1N,A0v]
 obtain ⟨l,hle⟩:∃ l,A1N sr t v=l:=⟨_,rfl⟩
 rw [hle] at PB hll hz ⊢
 clear hle
 have AD:∀ w',Chg (fun _=>False) w w'→_:=fun w' hc=>B5L (hf.keep hc (by simp)) hs (h.same hlt hc) (fun k hk=>Nat.lt_of_lt_of_le (hlt k hk) hc.size) hn l hroom hu hp (fun f hf=>by have:=hl f hf;omega) (by omega) hz
 obtain ⟨ok,hok⟩:∃ ok,A8p D F name (l ++ A2x (A0w s l))=ok:=⟨_,rfl⟩
 obtain ⟨er,her⟩:∃ er,(A0q D F name ⟨(l ++ A2x (A0w s l)).toArray⟩).1=er:=⟨_,rfl⟩
 rw [hok,her] at AD ⊢
 have hlb:=hf.lt
 have HPB:=A0b PB
 have HAD:=A0b AD
 have HLT:=A0b hlt
 clear PB AD hok her hf h hlt hn hroom hu hp hl hz
 go_enter Tryz.func191,Tryz.ntmps191
 go_wp2
 have hb:(w.alloc (.cells #[.int .i64 sr,.int .i64 t,.int .i64 v] 113)).heap[w.heap.size]?=some (.cells #[.int .i64 sr,.int .i64 t,.int .i64 v] 113 (0,0)):=by show (w.heap.push _)[w.heap.size]?=_;rw [Array.getElem?_push_size]
 have p0:(w.alloc (.cells #[.int .i64 sr,.int .i64 t,.int .i64 v] 113)).drew.cell? ⟨w.heap.size,0,none⟩=some (.int .i64 sr):=by show (w.alloc _).cell? _=_;simp only [World.cell?,hb];rfl
 have p1:(w.alloc (.cells #[.int .i64 sr,.int .i64 t,.int .i64 v] 113)).drew.cell? ⟨w.heap.size,1,none⟩=some (.int .i64 t):=by show (w.alloc _).cell? _=_;simp only [World.cell?,hb];rfl
 have p2:(w.alloc (.cells #[.int .i64 sr,.int .i64 t,.int .i64 v] 113)).drew.cell? ⟨w.heap.size,2,none⟩=some (.int .i64 v):=by show (w.alloc _).cell? _=_;simp only [World.cell?,hb];rfl
 have HK0:Hid (Chg (fun _=>False) w (w.alloc (.cells #[.int .i64 sr,.int .i64 t,.int .i64 v] 113)).drew):=((Chg.refl _ w).alloc _).drew
 clear hb
 refine A0e (fun w'=>w'.cell? ⟨w.heap.size,0,none⟩=some (.int .i64 sr)∧w'.cell? ⟨w.heap.size,1,none⟩=some (.int .i64 t)∧w'.cell? ⟨w.heap.size,2,none⟩=some (.int .i64 v)) 8
  [(0,true),(1,true),(2,true),(3,true),(4,false),(5,false),(6,true),(7,true)] (by kernel_rfl) (by kernel_rfl) (fun _ _ _ _ _ h=>h) ⟨p0,p1,p2⟩ ?_
 generalize (w.alloc (.cells #[.int .i64 sr,.int .i64 t,.int .i64 v] 113)).drew=w1 at p0 p1 p2 HK0 ⊢
 iterate 4 (refine A0d (v:=?_) rfl (by rfl) ?_ ?_;rotate_left;(· (intro w' hS;(try dsimp only at hS);go_simp;try with_reducible rfl));(try simp only [Act.put,List.setIfInBounds_toArray,List.set_cons_zero,List.set_cons_succ,List.getElem_toArray,List.getElem_cons_zero,List.getElem_cons_succ]))
 refine A0i rfl (by rfl) (fun K hK=>?_)
 go_simp
 refine (HPB.out w1).mono ?_
 rintro e w2 ⟨rfl,hc2⟩
 have q0:=hc2.cellKeep p0
 have q1:=hc2.cellKeep p1
 have q2:=hc2.cellKeep p2
 refine hK _ _ ⟨q0,q1,q2⟩ (fun hS=>?_)
 have HK2:Hid (Chg (fun _=>False) w w2):=HK0.out.trans hc2 (fun _ h _=>h)
 clear hK K hS hc2 p0 p1 p2 HK0
 (try simp only [Act.put,List.setIfInBounds_toArray,List.set_cons_zero,List.set_cons_succ,List.getElem_toArray,List.getElem_cons_zero,List.getElem_cons_succ])
 refine A0i rfl (by rfl) (fun K hK=>?_)
 go_simp
 refine (HAD.out w2 HK2.out).mono ?_
 rintro e w3 ⟨rfl,hb3,ha3⟩
 have k3:=ha3.1
 have hnb:¬ ((fun k=>Ft k∨k=lb) w.heap.size):=by
  rintro (h | h)
  ·have:=HLT.out _ h;omega
  ·omega
 have kc:∀ o u,w2.cell? ⟨w.heap.size,o,none⟩=some u→w3.cell? ⟨w.heap.size,o,none⟩=some u:=by
  intro o u hu
  have hsz:w.heap.size<w2.heap.size:=by
   rcases Nat.lt_or_ge w.heap.size w2.heap.size with h | h
   ·exact h
   ·unfold World.cell? at hu
    rw [Array.getElem?_eq_none h] at hu
    simp at hu
  unfold World.cell? at hu ⊢
  rw [k3.block _ hsz hnb]
  exact hu
 refine hK _ _ ⟨kc 0 _ q0,kc 1 _ q1,kc 2 _ q2⟩ (fun hS=>?_)
 have HB3:=A0b hb3
 have HA3:=A0b (ha3.before HK2.out)
 clear hK K hS hb3 ha3 k3 hnb kc q0 q1 q2 HK2
 (try simp only [Act.put,List.setIfInBounds_toArray,List.set_cons_zero,List.set_cons_succ,List.getElem_toArray,List.getElem_cons_zero,List.getElem_cons_succ])
 iterate 2 (refine A0d (v:=?_) rfl (by rfl) ?_ ?_;rotate_left;(· (intro w' hS;(try dsimp only at hS);go_simp;try with_reducible rfl));(try simp only [Act.put,List.setIfInBounds_toArray,List.set_cons_zero,List.set_cons_succ,List.getElem_toArray,List.getElem_cons_zero,List.getElem_cons_succ]))
 refine A0k ?_
 simp only [List.drop_succ_cons,List.drop_zero]
 go_wp2
 go_ret2
 exact ⟨rfl,HB3.out,HA3.out⟩
end
end Go.Proofs.YtodcnkbblippnaaGreatDoor
namespace Go.Proofs.YtodcnkbblippnaaGreatDoor
open Go.RowKit
section
variable {B b:Nat} {D:DS} {F:Nat→FC} {Ft:Nat→Prop} {n:Int}
def B2g (nm:List UInt8) (ahead:Int):List UInt8:=A1h ahead ++ A2x (A0w (A1m nm) (A1h ahead))
theorem A4O (nm:List UInt8):A1m nm<4294967296:=A3J _ _ (by omega)
set_option maxRecDepth 100000 in
set_option maxHeartbeats 2000000 in
theorem B1b (w:World) (ahead:Int) (k:Nat) (D1 D2:DS) (F1 F2:Nat→FC) (e1 e2:Int) (h:A0R w b D F Ft) (hlt:∀ k,Ft k→k<w.heap.size) (hn:A1j n) (hL:A2i B w) (ha : -9223372036854775808≤ahead∧ahead≤9223372036854775807)
 (hk:¬ D.ids k) (hs:D.dir.length<1099511627776∧D.changes.length<1099511627776) (h1:A0I D ⟨(A2b 1 n).toArray⟩ k=(e1,D1)) (hF1:upd F k ([],0)=F1) (h2:A0q D1 F1 ⟨(A2b 1 n).toArray⟩ ⟨(B2g (A2b 1 n) ahead).toArray⟩=(e2,D2,F2))
 (hroom : -4611686018427387904≤D1.n.room∧D1.n.room≤9223372036854775807) (hu:A0J F1 D1.dir≤4611686018427387904) (hp:0≤D1.n.part∧D1.n.part≤9223372036854775807) (hl:∀ f,A0u D1.dir ⟨(A2b 1 n).toArray⟩=some f→(F1 f).1.length+12≤70368744177664)
 (hz:(A1o D2 F2 ⟨(A2b 1 n).toArray⟩).1≤70368744177664∧(A1o D1 F1 ⟨(A2b 1 n).toArray⟩).1≤70368744177664):
 Calls Tryz.prog 236 #[.pointer (some ⟨b,0,none⟩),.int .i64 n,.int .i64 ahead] w fun e w'=>
  (e1≠0∧e=.returned (.tuple #[.pointer none,.int .i64 e1])∧A1T w Ft w' b D1 F1)∨
  (e1=0∧e2≠0∧e=.returned (.tuple #[.pointer none,.int .i64 e2])∧A1T w Ft w' b D2 F2)∨
  (e1=0∧e2=0∧∃ lb,e=.returned (.tuple #[.pointer (some ⟨lb,0,none⟩),.int .i64 0])∧w.heap.size≤lb∧A0z w' lb 237 (.pointer (some ⟨b,0,none⟩)) ⟨(A2b 1 n).toArray⟩ (A0w (A1m (A2b 1 n)) (A1h ahead))∧
   Chg Ft w w'∧∃ Ft',A0R w' b D2 F2 Ft'∧(∀ k,Ft' k→k<w'.heap.size)∧(∀ k,Ft' k→Ft k∨w.heap.size≤k)∧¬ Ft' lb):=by
 have LO:=A0b (A8k w b hn hL)
 have hs0:=A4O (A2b 1 n)
 obtain ⟨nm,hnm⟩:∃ nm,A2b 1 n=nm:=⟨_,rfl⟩
 rw [hnm] at LO hs0 h1 h2 hl hz ⊢
 have CR:∀ w' lb,Chg (fun _=>False) w w'→A0z w' lb 237 (.pointer (some ⟨b,0,none⟩)) ⟨nm.toArray⟩ (A1m nm)→_:=fun w' lb hc hf=>B1J hf (h.same hlt hc) k hk hs
 rw [h1,hF1] at CR
 have AD:∀ w' lb Ft1,A0z w' lb 237 (.pointer (some ⟨b,0,none⟩)) ⟨nm.toArray⟩ (A1m nm)→A0R w' b D1 F1 Ft1→(∀ k,Ft1 k→k<w'.heap.size)→¬ Ft1 lb→_:=
  fun w' lb Ft1 hf hr hlt1 hn1=>B5L hf hs0 hr hlt1 hn1 (A1h ahead) hroom hu hp (fun f hf=>by have:=hl f hf;rw [A0v];exact this) (by rw [A0v];omega) (by
   show (A1o (A0q D1 F1 _ ⟨(B2g nm ahead).toArray⟩).2.1 (A0q D1 F1 _ ⟨(B2g nm ahead).toArray⟩).2.2 _).1≤_∧_
   rw [h2];exact hz)
 have e0:A1h ahead ++ A2x (A0w (A1m nm) (A1h ahead))=B2g nm ahead:=rfl
 rw [e0,h2] at AD
 have IB:∀ w',_:=fun w'=>A2h w' ahead ha
 obtain ⟨l,hle⟩:∃ l,A1h ahead=l:=⟨_,rfl⟩
 rw [hle] at AD IB ⊢
 obtain ⟨ok,hok⟩:∃ ok,A8p D1 F1 ⟨nm.toArray⟩ (B2g nm ahead)=ok:=⟨_,rfl⟩
 rw [hok] at AD
 dsimp only at CR AD
 have HCR:=A0b CR
 have HAD:=A0b AD
 have HIB:=A0b IB
 have HLT:=A0b hlt
 clear CR AD IB h hlt hn hL hk hs h1 hF1 h2 hroom hu hp hl hz hnm hle hok e0 hs0 ha
 rcases Decidable.em (e1=0) with he1 | he1
 ·subst he1
  go_enter Tryz.func236,Tryz.ntmps236
  go_wp2_with (first
   | (go_at_call 192;refine LO.out.mono ?_;rintro e w1 ⟨lb,rfl,hb,hc,hls⟩;have HB:=A0b hb;have HC:=A0b hc;have HLS:=A0b hls;clear hb hc hls)
   | (go_at_call 240;refine (HCR.out _ _ HC.out HB.out).mono ?_;rintro e w2 ⟨rfl,hA⟩;have HA:=A0b hA;clear hA))
  obtain ⟨hk2,Ft2,hr2,hl2,hf2⟩:=HA.out
  have hlb:=HB.out.lt
  have hnF:¬ Ft lb:=fun h=>by have:=HLT.out lb h;have:=HLS.out;omega
  have hnF2:¬ Ft2 lb:=fun h=>by rcases hf2 lb h with h | h;exact hnF h;omega
  have hb2:=HB.out.keep hk2 hnF
  have hsz2:=hk2.size
  refine A0e (fun _=>True) 10
   [(0,true),(1,true),(2,true),(3,true),(4,false),(5,false),(6,true),(7,true),(8,true),(9,true)] (by kernel_rfl) (by kernel_rfl) (fun _ _ _ _ _ h=>h) trivial ?_
  have HB2:=A0b hb2
  have HR2:=A0b hr2
  have HL2:=A0b hl2
  have HF2:=A0b hf2
  have HK2:=A0b hk2
  have HN2:=A0b hnF2
  have HLB:=A0b hlb
  have HSZ:=A0b hsz2
  clear hb2 hr2 hl2 hf2 hk2 hnF hnF2 hlb hsz2 HA HCR
  iterate 4 (refine A0d (v:=?_) rfl (by rfl) ?_ ?_;rotate_left;(· (intro w' hS;(try dsimp only at hS);go_simp;try with_reducible rfl));(try simp only [Act.put,List.setIfInBounds_toArray,List.set_cons_zero,List.set_cons_succ,List.getElem_toArray,List.getElem_cons_zero,List.getElem_cons_succ]))
  refine A0i rfl (by rfl) (fun K hK=>?_)
  go_simp
  refine (HIB.out w2.drew).mono ?_
  rintro e w3 ⟨rfl,hc3⟩
  refine hK _ _ trivial (fun hS=>?_)
  have hc3':Chg (fun _=>False) w2 w3:=⟨hc3.os,hc3.tape,hc3.output,hc3.size,hc3.block⟩
  have HC3:=A0b hc3'
  clear hK K hS hc3 hc3'
  (try simp only [Act.put,List.setIfInBounds_toArray,List.set_cons_zero,List.set_cons_succ,List.getElem_toArray,List.getElem_cons_zero,List.getElem_cons_succ])
  refine A0i rfl (by rfl) (fun K hK=>?_)
  go_simp
  refine (HAD.out w3 lb Ft2 (HB2.out.keep HC3.out (by simp)) (HR2.out.same HL2.out HC3.out) (fun k hk=>Nat.lt_of_lt_of_le (HL2.out k hk) HC3.out.size) HN2.out).mono ?_
  rintro e w4 ⟨rfl,hb4,hk4,Ft4,hr4,hl4,hf4⟩
  refine hK _ _ trivial (fun hS=>?_)
  have HB4:=A0b hb4
  have H4:Hid (Chg Ft w w4∧A0R w4 b D2 F2 Ft4∧(∀ k,Ft4 k→k<w4.heap.size)∧(∀ k,Ft4 k→Ft k∨w.heap.size≤k)∧¬ Ft4 lb):=by
   have a1:=HC.out.size
   have a2:=HSZ.out
   have a3:=HC3.out.size
   have a4:=HLB.out
   have a5:=HLS.out
   refine ⟨((((HC.out.mono fun _ _ h=>h.elim).trans HK2.out (fun _ h _=>h)).trans HC3.out (fun _ h _=>h.elim)).trans hk4 (fun x hx hlt=>?_)),hr4,hl4,fun k hk=>?_,fun hx=>?_⟩
   ·rcases hx with hx | rfl
    ·exact (HF2.out x hx).resolve_right (by omega)
    ·omega
   ·rcases hf4 k hk with h | h
    ·exact (HF2.out k h).imp id (fun h=>by omega)
    ·exact .inr (by omega)
   ·rcases hf4 lb hx with h | h
    ·exact HN2.out h
    ·omega
  clear hK K hS hb4 hk4 hr4 hl4 hf4
  (try simp only [Act.put,List.setIfInBounds_toArray,List.set_cons_zero,List.set_cons_succ,List.getElem_toArray,List.getElem_cons_zero,List.getElem_cons_succ])
  iterate 4 (refine A0d (v:=?_) rfl (by rfl) ?_ ?_;rotate_left;(· (intro w' hS;(try dsimp only at hS);go_simp;try with_reducible rfl));(try simp only [Act.put,List.setIfInBounds_toArray,List.set_cons_zero,List.set_cons_succ,List.getElem_toArray,List.getElem_cons_zero,List.getElem_cons_succ]))
  refine A0k ?_
  simp only [List.drop_succ_cons,List.drop_zero]
  rcases Decidable.em (e2=0) with he2 | he2
  ·subst he2
   go_wp2
   go_ret2
   exact ⟨lb,rfl,HLS.out,HB4.out,H4.out.1,Ft4,H4.out.2.1,H4.out.2.2.1,H4.out.2.2.2.1,H4.out.2.2.2.2⟩
  ·go_wp2
   go_ret2
   exact .inr (.inl ⟨trivial,he2,rfl,H4.out.1,Ft4,H4.out.2.1,H4.out.2.2.1,H4.out.2.2.2.1⟩)
 ·go_enter Tryz.func236,Tryz.ntmps236
  go_wp2_with (first
   | (go_at_call 192;refine LO.out.mono ?_;rintro e w1 ⟨lb,rfl,hb,hc,hls⟩;have HB:=A0b hb;have HC:=A0b hc;have HLS:=A0b hls;clear hb hc hls)
   | (go_at_call 240;refine (HCR.out _ _ HC.out HB.out).mono ?_;rintro e w2 ⟨rfl,hA⟩;have HA:=A0b hA;clear hA))
  go_ret2
  exact .inl ⟨he1,rfl,HA.out.before HC.out⟩
end
end Go.Proofs.YtodcnkbblippnaaGreatDoor
namespace Go.Proofs.YtodcnkbblippnaaGreatDoor
open Go.RowKit
attribute [local go_sem ↓] Go.wp_at_zero Go.wp_at_succ
def A2f:Nat→Nat→List UInt8→List Pu × Bool
 | 0,_,_=>([],true)
 | k+1,s,l=>if l.length<21 then ([],true) else
  if A2x (A0w s (l.take 17))=(l.drop 17).take 4∧(l.headD 0).toNat<8 then
   ((((l.headD 0).toNat:Int),A1P (l.drop 1),A1P (l.drop 9)):: (A2f k (A0w s (l.take 17)) (l.drop 21)).1,(A2f k (A0w s (l.take 17)) (l.drop 21)).2)
  else ([],false)
theorem A5z {k s:Nat} {l:List UInt8} (h:l.length<21):A2f k s l=([],true):=by cases k <;> simp [A2f,h]
theorem B0W {k s:Nat} {b:UInt8} {d t r:List UInt8} (hd:d.length=16) (ht:t.length=4) (h:A2x (A0w s (b :: d))=t) (hb:b.toNat<8):
 A2f (k+1) s (b :: d ++ t ++ r)=(((b.toNat:Int),A1P d,A1P (d.drop 8)):: (A2f k (A0w s (b :: d)) r).1,(A2f k (A0w s (b :: d)) r).2):=by
 have e1:(b :: d ++ t ++ r).take 17=b :: d:=by simp [hd]
 have e2:((b :: d ++ t ++ r).drop 17).take 4=t:=by simp [hd,ht]
 have e3:(b :: d ++ t ++ r).drop 21=r:=by
  rw [List.drop_append,List.drop_of_length_le (by simp [hd,ht])];simp [hd,ht]
 have e4:A1P ((b :: d ++ t ++ r).drop 1)=A1P d:=by
  have e:(b :: d ++ t ++ r).drop 1=d ++ (t ++ r):=by simp
  unfold A1P;rw [e,List.take_append_of_le_length (by omega)]
 have e5:A1P ((b :: d ++ t ++ r).drop 9)=A1P (d.drop 8):=by
  have e:(b :: d ++ t ++ r).drop 9=d.drop 8 ++ (t ++ r):=by
   simp only [List.cons_append,List.append_assoc,List.drop_succ_cons]
   rw [List.drop_append_of_le_length (by omega)]
  unfold A1P;rw [e,List.take_append_of_le_length (by simp;omega)]
 simp only [A2f,e1,e2,e3,e4,e5]
 rw [if_neg (by simp [hd,ht];omega),if_pos (by simpa using ⟨h,hb⟩)]
 rfl
theorem B5H {k s:Nat} {b:UInt8} {d t r:List UInt8} (hd:d.length=16) (ht:t.length=4) (h:¬ (A2x (A0w s (b :: d))=t∧b.toNat<8)):
 A2f (k+1) s (b :: d ++ t ++ r)=([],false):=by
 have e1:(b :: d ++ t ++ r).take 17=b :: d:=by simp [hd]
 have e2:((b :: d ++ t ++ r).drop 17).take 4=t:=by simp [hd,ht]
 simp only [A2f,e1,e2]
 rw [if_neg (by simp [hd,ht];omega),if_neg (by simpa using h)]
theorem B1C {l:List UInt8} (h:21≤l.length):∃ (b:UInt8) (d t r:List UInt8),l=b :: d ++ t ++ r∧d.length=16∧t.length=4:=by
 cases l with
 | nil=>simp at h
 | cons b l=>
  simp at h
  refine ⟨b,l.take 16,(l.drop 16).take 4,l.drop 20,?_,by simp;omega,by simp;omega⟩
  simp only [List.cons_append,List.append_assoc,List.cons.injEq,true_and]
  rw [show l.drop 20=(l.drop 16).drop 4 by simp,List.take_append_drop,List.take_append_drop]
theorem B0o {l:List UInt8} (h:12≤l.length):∃ (d t r:List UInt8),l=d ++ t ++ r∧d.length=8∧t.length=4:=by
 refine ⟨l.take 8,(l.drop 8).take 4,l.drop 12,?_,by simp;omega,by simp;omega⟩
 rw [List.append_assoc,show l.drop 12=(l.drop 8).drop 4 by simp,List.take_append_drop,List.take_append_drop]
def A8r (s:Nat) (ahead:Int) (l:List UInt8):List Pu × Int:=
 if l.length<12 then ([],0) else
 if A2x (A0w s (l.take 8))=(l.drop 8).take 4∧A1P l=ahead then
  (if (A2f l.length (A0w s (l.take 8)) (l.drop 12)).2=true then ((A2f l.length (A0w s (l.take 8)) (l.drop 12)).1,0) else ([],7))
 else ([],7)
theorem A5Z {s:Nat} {ahead:Int} {d t r:List UInt8} (hd:d.length=8) (ht:t.length=4):
 A8r s ahead (d ++ t ++ r)=if A2x (A0w s d)=t∧A1P d=ahead then (if (A2f (r.length+12) (A0w s d) r).2=true then ((A2f (r.length+12) (A0w s d) r).1,0) else ([],7)) else ([],7):=by
 have e1:(d ++ t ++ r).take 8=d:=by simp [hd]
 have e2:((d ++ t ++ r).drop 8).take 4=t:=by simp [hd,ht]
 have e3:(d ++ t ++ r).drop 12=r:=by
  rw [List.drop_append,List.drop_of_length_le (by simp [hd,ht])];simp [hd,ht]
 have e4:A1P (d ++ t ++ r)=A1P d:=by unfold A1P;rw [List.append_assoc,List.take_append_of_le_length (by omega)]
 have e5:(d ++ t ++ r).length=r.length+12:=by simp [hd,ht];omega
 unfold A8r
 rw [if_neg (by simp [hd,ht];omega),e1,e2,e3,e4,e5]
def A1r (w:World) (v:Value) (l:List Pu):Prop:=w.ownsRow 0 113 3 v l.length (A0x l)
theorem A2a:(Tryz.prog.info? 113).map (fun i=>(i.zero,i.size,i.bytes))=some (some (.agg #[.int .i64 0,.int .i64 0,.int .i64 0]),3,24):=by kernel_rfl
end Go.Proofs.YtodcnkbblippnaaGreatDoor
namespace Go.Proofs.YtodcnkbblippnaaGreatDoor
open Go.RowKit
attribute [local go_sem ↓] Go.wp_at_zero Go.wp_at_succ
section
variable {w:World} {b B:Nat} {D:DS} {F:Nat→FC} {Ft:Nat→Prop} {n:Int}
def A2q (D:DS) (F:Nat→FC) (nm:List UInt8) (ahead:Int):List Pu × Int:=
 if (A6s D F ⟨nm.toArray⟩).2≠0 then ([],(A6s D F ⟨nm.toArray⟩).2) else A8r (A1m nm) ahead (A6s D F ⟨nm.toArray⟩).1
set_option maxRecDepth 100000 in
set_option maxHeartbeats 4000000 in
theorem A9w (w:World) (ahead:Int) (h:A0R w b D F Ft) (hlt:∀ k,Ft k→k<w.heap.size) (hn:A1j n) (hL:A2i B w) (hsz:(A6s D F ⟨(A2b 1 n).toArray⟩).1.length≤70368744177664):
 Calls Tryz.prog 149 #[.pointer (some ⟨b,0,none⟩),.int .i64 n,.int .i64 ahead] w fun e w'=>∃ v,e=.returned (.tuple #[v,.int .i64 (A2q D F (A2b 1 n) ahead).2])∧A1r w' v (A2q D F (A2b 1 n) ahead).1∧(∀ g,v.ownBlock=some g→w.heap.size≤g)∧Chg (fun _=>False) w w':=by
 have LO:=A0b (A8k w b hn hL)
 obtain ⟨nm,hnm⟩:∃ nm,A2b 1 n=nm:=⟨_,rfl⟩
 rw [hnm] at LO hsz ⊢
 have hs0:Hid (A1m nm<4294967296):=A4O nm
 have H:=A0b h
 have HLT:=A0b hlt
 obtain ⟨R,hR⟩:∃ R,A2q D F nm ahead=R:=⟨_,rfl⟩
 rw [hR]
 unfold A2q at hR
 obtain ⟨al,hal⟩:∃ al,(A6s D F ⟨nm.toArray⟩).1=al:=⟨_,rfl⟩
 obtain ⟨ae,hae⟩:∃ ae,(A6s D F ⟨nm.toArray⟩).2=ae:=⟨_,rfl⟩
 have AL:Hid (∀ w1 lb,Chg (fun _=>False) w w1→A0z w1 lb 237 (.pointer (some ⟨b,0,none⟩)) ⟨nm.toArray⟩ (A1m nm)→
  Calls Tryz.prog 166 #[.pointer (some ⟨lb,0,none⟩)] w1 fun e w'=>e=.returned (.tuple #[.string ⟨al.toArray⟩,.int .i64 ae])∧Chg (fun _=>False) w1 w'):=fun w1 lb k1 hf=>by
  have:=B5W hf (H.out.same HLT.out k1)
  rwa [hal,hae] at this
 rw [hal,hae] at hR
 rw [hal] at hsz
 obtain ⟨s0,hs⟩:∃ s0,A1m nm=s0:=⟨_,rfl⟩
 rw [hs] at LO hs0 hR AL
 have HR:=A0b hR
 obtain ⟨i0,hi,hz0,hz1,hz2⟩:=info_parts A2a
 clear h hlt hR hal hae hs hnm hn hL H HLT
 go_enter Tryz.func149,Tryz.ntmps149
 go_wp2_with (go_at_call 192;refine LO.out.mono ?_;rintro e w1 ⟨lb,rfl,hf1,hc1,hlb⟩;have AL1:=A0b (AL.out w1 lb hc1 hf1);have HF1:=A0b hf1;have HC1:=A0b hc1;have HLB:=A0b hlb;clear hf1 hc1 hlb LO AL)
 refine AL1.out.mono ?_
 rintro e w2 ⟨rfl,hc2⟩
 have HF2:=A0b (HF1.out.keep hc2 (fun h=>h))
 have HC2:Hid (Chg (fun _=>False) w w2):=HC1.out.trans hc2 fun _ h _=>h
 clear hc2 AL1 HF1 HC1
 have FIN0:Hid (∀ x:Int,R=([],x)→∀ w3,Chg (fun _=>False) w w3→∃ v,(Ending.returned (.tuple #[.slice none 0 0,.int .i64 x]):Ending)=.returned (.tuple #[v,.int .i64 R.2])∧A1r w3 v R.1∧(∀ g,v.ownBlock=some g→w.heap.size≤g)∧Chg (fun _=>False) w w3):=fun x hx w3 h3=>by
  subst hx
  exact ⟨_,rfl,World.ownsRow_nil _ _ _ _,fun g hg=>by simp [Value.ownBlock] at hg,h3⟩
 by_cases he:ae=0
 case neg=>
  have hR2:R=([],ae):=by rw [← HR.out,if_pos he]
  go_wp2
  go_ret2
  exact FIN0.out _ hR2 _ HC2.out
 case pos=>
 subst he
 have hlen:(ByteArray.mk al.toArray).size=al.length:=by show al.toArray.size=_;simp
 by_cases h12:al.length<12
 case pos=>
  have hR2:R=([],0):=by rw [← HR.out,if_neg (by simp)];unfold A8r;rw [if_pos h12]
  go_wp2
  go_ret2
  exact FIN0.out _ hR2 _ HC2.out
 case neg=>
 obtain ⟨hd,t4,r,rfl,hd8,ht4⟩:=B0o (l:=al) (by omega)
 have hR1:R=if A2x (A0w s0 hd)=t4∧A1P hd=ahead then (if (A2f (r.length+12) (A0w s0 hd) r).2=true then ((A2f (r.length+12) (A0w s0 hd) r).1,0) else ([],7)) else ([],7):=by
  rw [← HR.out,if_neg (by simp),A5Z hd8 ht4]
 have HR1:=A0b hR1
 clear hR1 HR
 have UN:=A0b (A4J w2.drew lb 237 _ _ s0 hd t4 HF2.out hs0.out ht4 (by omega))
 have e1:(ByteArray.mk (hd ++ t4 ++ r).toArray).extract 0 12=⟨(hd ++ t4).toArray⟩:=by
  rw [A1k,List.drop_zero,List.take_append_of_le_length (by simp [hd8,ht4]),List.take_of_length_le (by simp [hd8,ht4])]
 obtain ⟨tx,htx⟩:∃ tx,ByteArray.mk (hd ++ t4 ++ r).toArray=tx:=⟨_,rfl⟩
 have hsz2:tx.extract 12 (r.length+12)=⟨r.toArray⟩:=by
  rw [← htx,A1k]
  congr 2
  rw [List.drop_append,List.drop_of_length_le (by simp [hd8,ht4]),List.nil_append,show 12 - (hd ++ t4).length=0 by simp [hd8,ht4],List.drop_zero,List.take_of_length_le (by omega)]
 have hln:(hd ++ t4 ++ r).length=r.length+12:=by simp [hd8,ht4];omega
 rw [htx] at e1 hlen ⊢
 rw [hln] at hlen hsz h12
 have hle0:(0:Int)≤(r.length:Int):=Int.natCast_nonneg _
 obtain ⟨rl,hrl⟩:∃ rl,r.length=rl:=⟨_,rfl⟩
 rw [hrl] at hlen hsz h12 hsz2 hle0
 have HRL:=A0b hrl
 clear hln htx hrl
 go_wp2
 refine A0e (fun _=>True) 10
  [(0,true),(1,true),(2,true),(3,true),(4,true),(5,false),(6,true),(7,true),(8,true),(9,true)] (by kernel_rfl) (by kernel_rfl) (fun _ _ _ _ _ h=>h) trivial ?_
 iterate 5 (refine A0d (v:=?_) rfl (by rfl) ?_ ?_;rotate_left;(· (intro w' hS;(try dsimp only at hS);go_simp;try with_reducible rfl));(try simp only [Act.put,List.setIfInBounds_toArray,List.set_cons_zero,List.set_cons_succ,List.getElem_toArray,List.getElem_cons_zero,List.getElem_cons_succ]))
 refine A0i rfl (by rfl) (fun K hK=>?_)
 go_simp
 refine UN.out.mono ?_
 rintro e w3 ⟨rfl,hf3,hc3⟩
 refine hK _ _ trivial (fun hS=>?_)
 have HF3:=A0b hf3
 have HC3:Hid (Chg (fun _=>False) w w3):=HC2.out.drew.trans hc3 fun k hk hlt=>by cases hk;have:=HLB.out;omega
 clear hK K hS hf3 hc3 UN HF2 HC2
 (try simp only [Act.put,List.setIfInBounds_toArray,List.set_cons_zero,List.set_cons_succ,List.getElem_toArray,List.getElem_cons_zero,List.getElem_cons_succ])
 iterate 4 (refine A0d (v:=?_) rfl (by rfl) ?_ ?_;rotate_left;(· (intro w' hS;(try dsimp only at hS);go_simp;try with_reducible rfl));(try simp only [Act.put,List.setIfInBounds_toArray,List.set_cons_zero,List.set_cons_succ,List.getElem_toArray,List.getElem_cons_zero,List.getElem_cons_succ]))
 refine A0k ?_
 simp only [List.drop_succ_cons,List.drop_zero]
 by_cases hq1:A2x (A0w s0 hd)=t4
 case neg=>
  have hR2:R=([],7):=by rw [HR1.out,if_neg (fun h=>hq1 h.1)]
  have hdc:decide (A2x (A0w s0 hd)=t4)=false:=decide_eq_false hq1
  go_wp2
  go_ret2
  exact FIN0.out _ hR2 _ HC3.out
 case pos=>
 have hdc:decide (A2x (A0w s0 hd)=t4)=true:=decide_eq_true hq1
 have IO:=A0b (A3T w3 hd (by omega))
 have hih:Hid (-9223372036854775808≤A1P hd∧A1P hd≤9223372036854775807):=by unfold Hid A1P wrap64;omega
 obtain ⟨ih,hih2⟩:∃ ih,A1P hd=ih:=⟨_,rfl⟩
 rw [hih2] at IO HR1 hih
 obtain ⟨s1,hs1⟩:∃ s1,A0w s0 hd=s1:=⟨_,rfl⟩
 have hs1l:Hid (s1<4294967296):=by rw [← hs1];exact A3J _ _ hs0.out
 rw [hs1] at HR1 HF3 hdc hq1 ⊢
 have HQ1:=A0b hq1
 clear hih2 hs1 hq1 hs0
 rw [hdc]
 clear hdc
 by_cases hq2:ih=ahead
 case neg=>
  have hR2:R=([],7):=by rw [HR1.out,if_neg (fun h=>hq2 h.2)]
  have hbne:(ih != ahead)=true:=by simpa using hq2
  go_wp2_with (go_at_call 168;refine IO.out.mono ?_;rintro e w4 ⟨rfl,rfl⟩)
  go_ret2
  exact FIN0.out _ hR2 _ HC3.out
 case pos=>
 have HR2:Hid (R=if (A2f (rl+12) s1 r).2=true then ((A2f (rl+12) s1 r).1,0) else ([],7)):=by
  have:=HR1.out
  rw [if_pos ⟨HQ1.out,hq2⟩] at this
  rwa [HRL.out] at this
 obtain ⟨P,hP⟩:∃ P,A2f (rl+12) s1 r=P:=⟨_,rfl⟩
 rw [hP] at HR2
 have HP:=A0b hP
 clear hP HR1
 have hbne:(ih != ahead)=false:=by simpa using hq2
 go_wp2_with (go_at_call 168;refine IO.out.mono ?_;rintro e w4 ⟨rfl,rfl⟩)
 go_loopw [9,13] (fun tv v wr=>∃ (l:List UInt8) (k:Nat) (ps:List Pu),tv=.string ⟨l.toArray⟩∧ps.length*21+l.length≤rl∧Hid (∃ s,s<4294967296∧A0z wr lb 237 (.pointer (some ⟨b,0,none⟩)) ⟨nm.toArray⟩ s∧A1r wr v ps∧(∀ g,v.ownBlock=some g→w3.heap.size≤g)∧(Chg (fun _=>False) w wr∧w3.heap.size≤wr.heap.size)∧l.length≤k∧P=(ps ++ (A2f k s l).1,(A2f k s l).2))) (fun tv _ _=>match tv with | .string x=>x.size | _=>0)
 case atStart=>exact ⟨r,rl+12,[],rfl,by simp [HRL.out],s1,hs1l.out,HF3.out,World.ownsRow_nil _ _ _ _,fun g hg=>by simp [Value.ownBlock] at hg,⟨HC3.out,Nat.le_refl _⟩,by have:=HRL.out;omega,by rw [HP.out];simp⟩
 case round=>
  obtain ⟨l,k,ps,rfl,hpl,hI⟩:=hrel
  have hlen:(ByteArray.mk l.toArray).size=l.length:=by show l.toArray.size=_;simp
  by_cases h21:l.length<21
  case pos=>
   obtain ⟨s,-,-,i3,i4,⟨i5,-⟩,-,i7⟩:=hI.out
   rw [A5z h21] at i7
   simp only [List.append_nil] at i7
   have hR3:R=(ps,0):=by
    have:=HR2.out
    rw [i7] at this
    simpa using this
   subst hR3
   go_wp2
   go_ret2
   exact ⟨_,rfl,i3,fun g hg=>Nat.le_trans HC3.out.size (i4 g hg),i5⟩
  case neg=>
   obtain ⟨c,d,t,q,rfl,hd16,ht4⟩:=B1C (l:=l) (by omega)
   obtain ⟨s,i1,i2,i3,i4,⟨i5,i5b⟩,i6,i7⟩:=hI.out
   obtain ⟨k,rfl⟩:∃ k',k=k'+1:=⟨k - 1,by simp at i6;omega⟩
   obtain ⟨ap,cp,rfl,hcap1,hcap2,-⟩:=A0g i3
   unfold maxLen at hcap2
   have UN:=A0b (A4J wr.drew lb 237 _ _ s (c :: d) t i2 i1 ht4 (by simp;omega))
   have e1:(ByteArray.mk (c :: d ++ t ++ q).toArray).extract 0 21=⟨(c :: d ++ t).toArray⟩:=by
    rw [A1k,List.drop_zero,List.take_append_of_le_length (by simp [hd16,ht4]),List.take_of_length_le (by simp [hd16,ht4])]
   have hln:(c :: d ++ t ++ q).length=q.length+21:=by simp [hd16,ht4];omega
   obtain ⟨ty,hty⟩:∃ ty,ByteArray.mk (c :: d ++ t ++ q).toArray=ty:=⟨_,rfl⟩
   have e2:ty.extract 21 (q.length+21)=⟨q.toArray⟩:=by
    rw [← hty,A1k]
    congr 2
    rw [List.drop_append,List.drop_of_length_le (by simp [hd16,ht4]),List.nil_append,show 21 - (c :: d ++ t).length=0 by simp [hd16,ht4],List.drop_zero,List.take_of_length_le (by omega)]
   rw [hty] at e1 hlen ⊢
   rw [hln] at hlen hpl h21 i6
   have GOOD:=fun h1 h2=>@B0W k s c d t q hd16 ht4 h1 h2
   have BAD:=fun h=>@B5H k s c d t q hd16 ht4 h
   obtain ⟨RP,hRP⟩:∃ RP,A2f (k+1) s (c :: d ++ t ++ q)=RP:=⟨_,rfl⟩
   rw [hRP] at i7 GOOD BAD
   have HG:=A0b GOOD
   have HBD:=A0b BAD
   have HI7:=A0b i7
   have H2:=A0b i2
   have H3:=A0b i3
   have H4:=A0b i4
   have H5:=A0b i5
   have H5b:=A0b i5b
   have H6:=A0b i6
   have PO:=A0b (fun w5=>A8H w5 c d (by omega))
   obtain ⟨s',hs'⟩:∃ s',A0w s (c :: d)=s':=⟨_,rfl⟩
   have hs'l:Hid (s'<4294967296):=by rw [← hs'];exact A3J _ _ i1
   rw [hs'] at UN HG HBD
   clear i2 i3 i4 i5 i5b i6 i7 GOOD BAD hRP hs' hty hln hI i1
   obtain ⟨ql,hql⟩:∃ ql,q.length=ql:=⟨_,rfl⟩
   rw [hql] at hlen hpl h21 H6 e2
   have HQL:=A0b hql
   clear hql
   have hq0:(0:Int)≤(ql:Int):=Int.natCast_nonneg _
   go_wp2
   refine A0e (fun _=>True) 10
    [(0,true),(1,true),(2,true),(3,true),(4,true),(5,false),(6,true),(7,true),(8,true),(9,true)] (by kernel_rfl) (by kernel_rfl) (fun _ _ _ _ _ h=>h) trivial ?_
   iterate 5 (refine A0d (v:=?_) rfl (by rfl) ?_ ?_;rotate_left;(· (intro w' hS;(try dsimp only at hS);go_simp;try with_reducible rfl));(try simp only [Act.put,List.setIfInBounds_toArray,List.set_cons_zero,List.set_cons_succ,List.getElem_toArray,List.getElem_cons_zero,List.getElem_cons_succ]))
   refine A0i rfl (by rfl) (fun K hK=>?_)
   go_simp
   refine UN.out.mono ?_
   rintro e w5 ⟨rfl,hf5,hc5⟩
   refine hK _ _ trivial (fun hS=>?_)
   have HF5:=A0b hf5
   have LBL:Hid (lb<w3.heap.size):=HF3.out.lt
   have HC5:Hid (Chg (fun _=>False) w w5):=H5.out.drew.trans hc5 fun x hx hlt=>by cases hx;have:=HLB.out;omega
   have HR5:Hid (A1r w5 (.slice ap ps.length cp) ps):=A0a H3.out fun g hg=>hc5.block g (A0c H3.out hg) (fun e=>by cases e;have:=H4.out _ hg;have:=LBL.out;omega)
   have HS5:Hid (w3.heap.size≤w5.heap.size):=Nat.le_trans H5b.out hc5.size
   clear hK K hS hf5 hc5 UN H2 H3 H5 H5b
   (try simp only [Act.put,List.setIfInBounds_toArray,List.set_cons_zero,List.set_cons_succ,List.getElem_toArray,List.getElem_cons_zero,List.getElem_cons_succ])
   iterate 4 (refine A0d (v:=?_) rfl (by rfl) ?_ ?_;rotate_left;(· (intro w' hS;(try dsimp only at hS);go_simp;try with_reducible rfl));(try simp only [Act.put,List.setIfInBounds_toArray,List.set_cons_zero,List.set_cons_succ,List.getElem_toArray,List.getElem_cons_zero,List.getElem_cons_succ]))
   refine A0k ?_
   simp only [List.drop_succ_cons,List.drop_zero]
   have PO5:=A0b (PO.out w5)
   clear PO
   have FINB:Hid (¬ (A2x s'=t∧c.toNat<8)→R=([],7)):=fun h=>by
    have h1:=HI7.out
    rw [HBD.out h] at h1
    have h2:=HR2.out
    rw [h1] at h2
    simpa using h2
   have hc0:(0:Int)≤(c.toNat:Int):=Int.natCast_nonneg _
   obtain ⟨x1,hx1⟩:∃ x1,A1P d=x1:=⟨_,rfl⟩
   obtain ⟨x2,hx2⟩:∃ x2,A1P (d.drop 8)=x2:=⟨_,rfl⟩
   rw [hx1,hx2] at PO5 HG
   clear hx1 hx2
   have STW:Hid (∀ w6,Chg (fun _=>False) w5 w6→A0V (w6.alloc (.cells #[.int .i64 c.toNat,.int .i64 x1,.int .i64 x2] 113)) w6.heap.size c.toNat x1 x2∧Chg (fun _=>False) w5 (w6.alloc (.cells #[.int .i64 c.toNat,.int .i64 x1,.int .i64 x2] 113))):=fun w6 hc6=>
    ⟨heap_alloc_new w6 _,hc6.alloc _⟩
   by_cases hq1:A2x s'=t
   case neg=>
    have hR2:=FINB.out (fun h=>hq1 h.1)
    rw [show decide (A2x s'=t)=false from decide_eq_false hq1]
    go_wp2_with (go_at_call 176;refine PO5.out.mono ?_;rintro e w6 ⟨rfl,hc6⟩;obtain ⟨b1,k7⟩:=STW.out w6 hc6;have q0:=b1.c0;have q1:=b1.c1;have q2:=b1.c2;have HK7:=A0b k7;clear hc6 b1 k7)
    go_ret2
    exact FIN0.out _ hR2 _ (HC5.out.trans HK7.out fun _ h _=>h)
   case pos=>
   rw [show decide (A2x s'=t)=true from decide_eq_true hq1]
   by_cases hq2:c.toNat<8
   case neg=>
    have hR2:=FINB.out (fun h=>hq2 h.2)
    rw [show decide (c.toNat<8)=false from decide_eq_false hq2] at PO5
    go_wp2_with (go_at_call 176;refine PO5.out.mono ?_;rintro e w6 ⟨rfl,hc6⟩;obtain ⟨b1,k7⟩:=STW.out w6 hc6;have q0:=b1.c0;have q1:=b1.c1;have q2:=b1.c2;have HK7:=A0b k7;clear hc6 b1 k7)
    go_ret2
    exact FIN0.out _ hR2 _ (HC5.out.trans HK7.out fun _ h _=>h)
   case pos=>
    have NEWR:Hid (∀ w6,Chg (fun _=>False) w5 w6→
     (((w6.alloc (.cells #[.int .i64 c.toNat,.int .i64 x1,.int .i64 x2] 113)).alloc (.cells #[.int .i64 c.toNat,.int .i64 x1,.int .i64 x2] 113)).ownsRow 0 113 3 (.slice ap ps.length cp) ps.length (A0x ps))∧
     ∀ w8 a8 cap8,App ((w6.alloc (.cells #[.int .i64 c.toNat,.int .i64 x1,.int .i64 x2] 113)).alloc (.cells #[.int .i64 c.toNat,.int .i64 x1,.int .i64 x2] 113)) w8 113 3 (.slice ap ps.length cp) (.slice a8 (ps.length+1) cap8) (ps.length+1) (A0x ps ++ A0x [((c.toNat:Int),x1,x2)])→
      A0z w8 lb 237 (.pointer (some ⟨b,0,none⟩)) ⟨nm.toArray⟩ s'∧A1r w8 (.slice a8 (ps.length+1) cap8) (ps ++ [((c.toNat:Int),x1,x2)])∧(∀ g,(Value.slice a8 (ps.length+1) cap8).ownBlock=some g→w3.heap.size≤g)∧Chg (fun _=>False) w w8∧w3.heap.size≤w8.heap.size):=fun w6 hc6=>by
     have k9:Chg (fun _=>False) w5 ((w6.alloc (.cells #[.int .i64 c.toNat,.int .i64 x1,.int .i64 x2] 113)).alloc (.cells #[.int .i64 c.toNat,.int .i64 x1,.int .i64 x2] 113)):=(STW.out w6 hc6).2.alloc _
     generalize ((w6.alloc (.cells #[.int .i64 c.toNat,.int .i64 x1,.int .i64 x2] 113)).alloc (.cells #[.int .i64 c.toNat,.int .i64 x1,.int .i64 x2] 113))=w9 at k9 ⊢
     refine ⟨A0a HR5.out fun g hg=>k9.block g (A0c HR5.out hg) (fun h=>h),fun w8 a8 cap8 hA=>?_⟩
     have hA2:=hA.chg (S:=fun k=>(Value.slice ap ps.length cp).ownBlock=some k) fun _ h=>h
     have hl9:w3.heap.size≤w9.heap.size:=Nat.le_trans HS5.out k9.size
     refine ⟨(HF5.out.keep k9 (fun h=>h)).keep hA2 (fun hg=>by have:=H4.out _ hg;have:=LBL.out;omega),?_,?_,?_,?_⟩
     ·have:=hA.own
      unfold A1r
      rw [A0Y]
      simpa using this
     ·intro g hg
      rcases hA.at_ with h | h
      ·rw [h] at hg;exact H4.out g hg
      ·rw [h] at hg;cases hg;exact hl9
     ·exact (HC5.out.trans k9 fun _ h _=>h).trans hA2 fun x hx hlt=>by have:=H4.out x hx;have:=HC3.out.size;omega
     ·exact Nat.le_trans hl9 hA2.size
    clear HR5
    rw [show decide (c.toNat<8)=true from decide_eq_true hq2] at PO5
    go_wp2_with (first
     | (go_at_call 176;refine PO5.out.mono ?_;rintro e w6 ⟨rfl,hc6⟩;obtain ⟨b1,k7⟩:=STW.out w6 hc6;have q0:=b1.c0;have q1:=b1.c1;have q2:=b1.c2;have HC6:=A0b hc6;clear hc6 b1 k7)
     | (at_builtin
        have HROW:=A0b (NEWR.out w6 HC6.out)
        have HSRC:=A0b (Src.ofNew (size:=3) (B:=w6.heap.size+1) Tryz.underlying97 (w6.alloc (.cells #[.int .i64 c.toNat,.int .i64 x1,.int .i64 x2] 113)) #[.int .i64 c.toNat,.int .i64 x1,.int .i64 x2] 113 (by simp) 1 1 rfl (A0G [((c.toNat:Int),x1,x2)]))
        refine A0o rfl (.tmp 80) (.tmp 82) 97 97 rfl 113 i0 _ 3 24 Tryz.underlying97 hi hz0 hz1 hz2 rfl (by decide) (.slice ap ps.length cp) ps.length (A0x ps) (by rfl) HROW.out.1 _ 1 _ (by rfl) HSRC.out (by omega) ?_
        intro a8 cap8 w8 hA
        have HA:=A0b (HROW.out.2 w8 a8 cap8 hA)
        clear hA))
    go_roundw
    case rel=>
     obtain ⟨r1,r2,r3,r4,r5⟩:=HA.out
     refine ⟨q,k,ps ++ [((c.toNat:Int),x1,x2)],rfl,by have:=HQL.out;simp;omega,s',hs'l.out,r1,r2,r3,⟨r4,r5⟩,by have:=H6.out;have:=HQL.out;omega,?_⟩
     rw [HI7.out,HG.out hq1 hq2]
     simp
    case measure=>
     have e:(ByteArray.mk q.toArray).size=q.length:=by show q.toArray.size=_;simp
     have:=HQL.out
     simp only [e,hlen]
     omega
end
end Go.Proofs.YtodcnkbblippnaaGreatDoor
namespace Go.Proofs.YtodcnkbblippnaaGreatDoor
open Go.RowKit
structure PD where
 D:DS
 F:Nat→FC
def A6V:List Ent→Nat
 | []=>0
 | e :: r=>max (e.2+1) (A6V r)
theorem A6i {es:List Ent} {f:Nat} (h:A1f f es):f<A6V es:=by
 induction es with
 | nil=>obtain ⟨e,he,_⟩:=h;cases he
 | cons x t ih=>
  obtain ⟨e,he,rfl⟩:=h
  unfold A6V
  rcases List.mem_cons.1 he with rfl | he
  ·omega
  ·have:=ih ⟨e,he,rfl⟩;omega
def A9R:List (List Ent)→Nat
 | []=>0
 | c :: r=>max (A6V c) (A9R r)
theorem B2k {l:List (List Ent)} {c:List Ent} {f:Nat} (hc:c∈l) (h:A1f f c):f<A9R l:=by
 induction l with
 | nil=>cases hc
 | cons x t ih=>
  unfold A9R
  rcases List.mem_cons.1 hc with rfl | hc
  ·have:=A6i h;omega
  ·have:=ih hc;omega
def DS.fresh (D:DS):Nat:=max (A6V D.dir) (max (A6V D.safe) (A9R D.changes))
theorem DS.fresh_not (D:DS):¬ D.ids D.fresh:=by
 intro h
 have:D.fresh<D.fresh:=by
  rcases h with h | h | ⟨c,hc,h⟩
  ·have:=A6i h;unfold DS.fresh at *;omega
  ·have:=A6i h;unfold DS.fresh at *;omega
  ·have:=B2k hc h;unfold DS.fresh at *;omega
 omega
abbrev Bs:=List UInt8
def nmB (l:Bs):ByteArray:=⟨l.toArray⟩
theorem A9g {a b:Bs}:nmB a=nmB b↔a=b:=by
 constructor
 ·intro h
  have:=congrArg (fun x=>x.data.toList) h
  simpa [nmB] using this
 ·rintro rfl;rfl
def PD.create (P:PD) (nm:ByteArray):Int × PD:=((A0I P.D nm P.D.fresh).1,⟨(A0I P.D nm P.D.fresh).2,upd P.F P.D.fresh ([],0)⟩)
def PD.append (P:PD) (nm:ByteArray) (l:Bs):Int × PD:=((A0q P.D P.F nm (nmB l)).1,⟨(A0q P.D P.F nm (nmB l)).2.1,(A0q P.D P.F nm (nmB l)).2.2⟩)
def PD.sync (P:PD) (nm:ByteArray):Int × PD:=((A1X P.D P.F nm).1,⟨(A1X P.D P.F nm).2.1,(A1X P.D P.F nm).2.2⟩)
def PD.syncDir (P:PD):Int × PD:=((A1n P.D).1,⟨(A1n P.D).2,P.F⟩)
def PD.remove (P:PD) (nm:ByteArray):Int × PD:=((A1a P.D nm).1,⟨(A1a P.D nm).2,P.F⟩)
def PD.rename (P:PD) (old nm:ByteArray):Int × PD:=((A0Q P.D old nm).1,⟨(A0Q P.D old nm).2,P.F⟩)
structure Fit (P:PD) (a c m:Nat):Prop where
 dir:P.D.dir.length≤a
 safe:P.D.safe.length≤a
 chl:∀ l∈P.D.changes,l.length≤a
 chg:P.D.changes.length≤c
 len:∀ f,P.D.ids f→(P.F f).1.length≤m
 room : -4611686018427387904≤P.D.n.room∧P.D.n.room≤9223372036854775807
 part:0≤P.D.n.part∧P.D.n.part≤9223372036854775807
theorem Fit.mono {P:PD} {a c m a' c' m':Nat} (h:Fit P a c m) (ha:a≤a') (hc:c≤c') (hm:m≤m'):Fit P a' c' m':=
 ⟨Nat.le_trans h.dir ha,Nat.le_trans h.safe ha,fun l hl=>Nat.le_trans (h.chl l hl) ha,Nat.le_trans h.chg hc,fun f hf=>Nat.le_trans (h.len f hf) hm,h.room,h.part⟩
theorem A9L {F:Nat→FC} {m:Nat}:∀ (es:List Ent),(∀ f,A1f f es→(F f).1.length≤m)→A0J F es≤es.length*m
 | [],_=>by simp [A0J]
 | e :: r,h=>by
  have h1:=h e.2 ⟨e,List.mem_cons_self ..,rfl⟩
  have h2:=A9L r fun f hf=>h f (by obtain ⟨x,hx,he⟩:=hf;exact ⟨x,List.mem_cons_of_mem _ hx,he⟩)
  simp only [A0J,List.length_cons,Nat.add_mul,Nat.one_mul]
  omega
theorem Fit.used {P:PD} {a c m:Nat} (h:Fit P a c m):A0J P.F P.D.dir≤a*m:=
 Nat.le_trans (A9L _ fun f hf=>h.len f (.inl hf)) (Nat.mul_le_mul_right _ h.dir)
theorem B1S (n:DN):(bg n).2.2.room=n.room∧(bg n).2.2.part=n.part:=by
 unfold bg
 dsimp only
 split
 ·exact ⟨rfl,rfl⟩
 ·split
  ·exact ⟨rfl,rfl⟩
  ·split <;> exact ⟨rfl,rfl⟩
theorem Fit.begun {P:PD} {a c m:Nat} (h:Fit P a c m):Fit ⟨{ P.D with n:=(bg P.D.n).2.2 },P.F⟩ a c m:=
 ⟨h.dir,h.safe,h.chl,h.chg,h.len,by have:=(B1S P.D.n).1;show _≤(Go.Proofs.YtodcnkbblippnaaGreatDoor.bg P.D.n).2.2.room∧(Go.Proofs.YtodcnkbblippnaaGreatDoor.bg P.D.n).2.2.room≤_;rw [this];exact h.room,by have:=(B1S P.D.n).2;show _≤(Go.Proofs.YtodcnkbblippnaaGreatDoor.bg P.D.n).2.2.part∧(Go.Proofs.YtodcnkbblippnaaGreatDoor.bg P.D.n).2.2.part≤_;rw [this];exact h.part⟩
theorem B3B {es:List Ent} {nm:ByteArray} (h:¬ A1x es nm<0):(A1x es nm).toNat<es.length:=by
 have:=B0J es nm;omega
theorem Fit.turn {P:PD} {a c m a':Nat} (h:Fit P a c m) {es:List Ent} (hl:es.length≤a') (ha:a≤a') (hin:∀ f,A1f f es→(P.F f).1.length≤m):Fit ⟨{ P.D with dir:=es,changes:=P.D.changes ++ [es],n:=(Go.Proofs.YtodcnkbblippnaaGreatDoor.bg P.D.n).2.2 },P.F⟩ a' (c+1) m:=by
 have hb:=h.begun
 refine ⟨hl,Nat.le_trans h.safe ha,fun l hm=>?_,?_,fun f hf=>?_,hb.room,hb.part⟩
 ·rcases List.mem_append.1 hm with hm | hm
  ·exact Nat.le_trans (h.chl l hm) ha
  ·simp at hm;subst hm;exact hl
 ·have:=h.chg;simp;omega
 ·rcases hf with hf | hf | ⟨x,hx,hf⟩
  ·exact hin f hf
  ·exact h.len f (.inr (.inl hf))
  ·rcases List.mem_append.1 hx with hx | hx
   ·exact h.len f (.inr (.inr ⟨x,hx,hf⟩))
   ·simp at hx;subst hx;exact hin f hf
theorem Fit.create {P:PD} {a c m:Nat} (h:Fit P a c m) (nm:ByteArray):Fit (P.create nm).2 (a+1) (c+1) m:=by
 have hF:Fit ⟨P.D,upd P.F P.D.fresh ([],0)⟩ a c m:=⟨h.dir,h.safe,h.chl,h.chg,fun f hf=>by
  unfold upd
  by_cases he:f=P.D.fresh
  ·simp [he]
  ·simp only [he,if_false];exact h.len f hf,h.room,h.part⟩
 unfold PD.create A0I
 split
 ·exact hF.mono (by omega) (by omega) (Nat.le_refl _)
 ·dsimp only
  split
  ·refine hF.turn (a':=a+1) ?_ (by omega) ?_
   ·have:=h.dir;simp;omega
   ·rintro f ⟨x,hx,rfl⟩
    rcases List.mem_append.1 hx with hx | hx
    ·exact hF.len _ (.inl ⟨x,hx,rfl⟩)
    ·simp at hx;subst hx;simp [upd]
  ·exact hF.begun.mono (by omega) (by omega) (Nat.le_refl _)
theorem Fit.file {P:PD} {a c m:Nat} (h:Fit P a c m) (f:Nat) (x:FC) (hx:x.1.length≤m):Fit ⟨P.D,Go.Proofs.YtodcnkbblippnaaGreatDoor.upd P.F f x⟩ a c m:=⟨h.dir,h.safe,h.chl,h.chg,fun g hg=>by
 unfold Go.Proofs.YtodcnkbblippnaaGreatDoor.upd
 by_cases he:g=f
 ·simp [he];exact hx
 ·simp only [he,if_false];exact h.len g hg,h.room,h.part⟩
theorem Fit.addTo {P:PD} {a c m:Nat} (h:Fit P a c m) {f:Nat} (hf:P.D.ids f) (l:Bs) (n0 e:Int):Fit ⟨(A3d P.D P.F f (nmB l) n0 e).2.1,(A3d P.D P.F f (nmB l) n0 e).2.2⟩ a c (m+l.length):=by
 have h2:=h.mono (Nat.le_refl a) (Nat.le_refl c) (Nat.le_add_right m l.length)
 have hl:=h.len f hf
 have hu:∀ k:Nat,((P.F f).1 ++ (nmB l).data.toList.take k).length≤m+l.length:=fun k=>by
  simp only [List.length_append,List.length_take,nmB];omega
 unfold A3d
 split
 ·by_cases he:e=0
  ·simp only [he,if_true]
   have:=h2.file f ((P.F f).1 ++ (nmB l).data.toList.take (A5O P.D P.F).toNat,(P.F f).2) (hu _)
   exact ⟨this.dir,this.safe,this.chl,this.chg,this.len,this.room,this.part⟩
  ·simp only [he,if_false]
   exact h2.file f _ (hu _)
 ·exact h2.file f _ (hu _)
theorem Fit.append {P:PD} {a c m:Nat} (h:Fit P a c m) (nm:ByteArray) (l:Bs):Fit (P.append nm l).2 a c (m+l.length):=by
 unfold PD.append A0q
 cases hx:A0u P.D.dir nm with
 | none=>exact h.mono (Nat.le_refl _) (Nat.le_refl _) (by omega)
 | some f=>
  have hf:P.D.ids f:=A0T hx
  dsimp only
  split
  ·exact h.begun.addTo (P:=⟨{ P.D with n:=(bg P.D.n).2.2 },P.F⟩) hf l _ _
  ·split
   ·exact h.begun.addTo (P:=⟨{ P.D with n:=(bg P.D.n).2.2 },P.F⟩) hf l _ _
   ·exact h.begun.mono (Nat.le_refl _) (Nat.le_refl _) (by omega)
theorem Fit.sync {P:PD} {a c m:Nat} (h:Fit P a c m) (nm:ByteArray):Fit (P.sync nm).2 a c m:=by
 unfold PD.sync A1X
 cases hx:A0u P.D.dir nm with
 | none=>exact h
 | some f=>
  have hf:P.D.ids f:=A0T hx
  dsimp only
  split
  ·exact h.begun.file (P:=⟨{ P.D with n:=(bg P.D.n).2.2 },P.F⟩) f _ (h.len f hf)
  ·exact h.begun
theorem Fit.remove {P:PD} {a c m:Nat} (h:Fit P a c m) (nm:ByteArray):Fit (P.remove nm).2 a (c+1) m:=by
 unfold PD.remove A1a
 split
 ·exact h.mono (Nat.le_refl _) (by omega) (Nat.le_refl _)
 ·rename_i hx
  have hl:=B3B hx
  dsimp only
  split
  ·refine h.turn (a':=a) ?_ (Nat.le_refl _) ?_
   ·have:=h.dir;simp;omega
   ·rintro f ⟨x,hx,rfl⟩
    rcases List.mem_append.1 hx with hx | hx
    ·exact h.len _ (.inl ⟨x,List.mem_of_mem_take hx,rfl⟩)
    ·exact h.len _ (.inl ⟨x,List.mem_of_mem_drop hx,rfl⟩)
  ·exact h.begun.mono (Nat.le_refl _) (by omega) (Nat.le_refl _)
theorem B4f (es:List Ent) (i:Nat) (nm:ByteArray) (k:Nat):(A4z es i nm k).length≤k:=by
 induction k with
 | zero=>simp [A4z]
 | succ k ih=>
  simp only [A4z,List.length_append]
  cases es[k]? with
  | none=>simp;omega
  | some e=>
   dsimp only
   split
   ·simp;omega
   ·simp;omega
theorem Fit.rename {P:PD} {a c m:Nat} (h:Fit P a c m) (old nm:ByteArray):Fit (P.rename old nm).2 (a+1) (c+1) m:=by
 unfold PD.rename A0Q
 cases hx:A0u P.D.dir old with
 | none=>exact h.mono (by omega) (by omega) (Nat.le_refl _)
 | some f=>
  dsimp only
  split
  ·exact h.mono (by omega) (by omega) (Nat.le_refl _)
  ·dsimp only
   split
   ·refine h.turn (a':=a+1) ?_ (by omega) ?_
    ·have h1:=h.dir
     have h2:=B4f P.D.dir (A1x P.D.dir old).toNat nm P.D.dir.length
     simp;omega
    ·rintro g ⟨x,hx',rfl⟩
     rcases List.mem_append.1 hx' with hx' | hx'
     ·exact h.len _ (.inl ⟨x,A7i _ _ _ _ x hx',rfl⟩)
     ·simp at hx';subst hx';exact h.len _ (A0T hx)
   ·exact h.begun.mono (by omega) (by omega) (Nat.le_refl _)
end Go.Proofs.YtodcnkbblippnaaGreatDoor
