/-
  The statement WritesUptoCardSaid is proved: the law Writes answers true for every setting and every script of at most 1048576 bytes; there is no other condition.
  Part 22 of 33.
-/
import Derived.Test.YtodcnkbblippnaaGreatDoorPart21
namespace Go.Proofs.YtodcnkbblippnaaGreatDoor
open Go.RowKit
attribute [local go_sem ↓] A0p
def A4v (N:Nat):Prop:=∀ (w:World) (v:Value) (wb:Nat) (len:Int) (l:List Pu),l.length≤N→A1r w v l→(∀ p∈l,A0P p.2.1)→(1≤len∧len≤4611686018427387904)→w.cell? ⟨wb,0,none⟩=some (.int .i64 len)→(∀ g,v.ownBlock=some g→wb≠g)→
 Calls Tryz.prog 154 #[v,.func (Fn.func 155) #[] #[.pointer (some ⟨wb,0,none⟩)]] w fun e w'=>e=.returned (.tuple #[])∧A1r w' v (A2m (A1U len) l)∧Chg (fun k=>v.ownBlock=some k) w w'
theorem A4y {α:Type} {lt:α→α→Bool} (l:List α):(A2m lt l).length=l.length:=by
 have ins:∀ (x:α) (s:List α),(A4k lt x s).length=s.length+1:=by
  intro x s
  induction s with
  | nil=>rfl
  | cons y r ih=>unfold A4k;split <;> simp [ih]
 have key:∀ (l s:List α),(l.foldl (fun s x=>A4k lt x s) s).length=s.length+l.length:=by
  intro l
  induction l with
  | nil=>intro s;simp
  | cons x r ih=>intro s;rw [List.foldl_cons,ih,ins];simp;omega
 have:=key l []
 simpa [A2m] using this
set_option maxRecDepth 100000 in
set_option maxHeartbeats 4000000 in
theorem A8F (w:World) (v c:Value) (a b:Nat) (ha:b≤a+1) (hb:a≤4294967296):
 Calls Tryz.prog 243 #[v,.int .i64 a,.int .i64 b,c] w fun e w'=>e=.returned (.tuple #[])∧w=w':=by
 have h1:¬ ((a:Int)+1<(b:Int)):=by omega
 have eia:wrap64 ((a:Int)+1)=(a:Int)+1:=by unfold wrap64;omega
 go_enter Tryz.func243,Tryz.ntmps243
 go_wp2
 refine wp_loop_rounds 1 ?_
 rw [rounds_succ]
 go_wp2
 go_end0
 exact ⟨rfl,rfl⟩
set_option maxRecDepth 100000 in
set_option maxHeartbeats 4000000 in
theorem B0Q (w:World) (v:Value) (wb:Nat) (len:Int) (l:List Pu) (hn:l.length≤19) (h:A1r w v l) (hT:∀ p∈l,A0P p.2.1) (hl:1≤len∧len≤4611686018427387904) (hw:w.cell? ⟨wb,0,none⟩=some (.int .i64 len)) (hwb:∀ g,v.ownBlock=some g→wb≠g):
 Calls Tryz.prog 202 #[v,.int .i64 l.length,.func (Fn.func 155) #[] #[.pointer (some ⟨wb,0,none⟩)]] w fun e w'=>e=.returned (.tuple #[])∧A1r w' v (A2m (A1U len) l)∧Chg (fun k=>v.ownBlock=some k) w w':=by
 have IS:Hid (Calls Tryz.prog 243 #[v,.int .i64 ((0:Nat):Int),.int .i64 l.length,.func (Fn.func 155) #[] #[.pointer (some ⟨wb,0,none⟩)]] w fun e w'=>e=.returned (.tuple #[])∧A1r w' v (A2m (A1U len) l)∧Chg (fun k=>v.ownBlock=some k) w w'):=by
  by_cases h0:l.length=0
  ·have e:l = []:=List.length_eq_zero_iff.1 h0
   subst e
   refine (A8F w v _ 0 0 (by omega) (by omega)).mono ?_
   rintro e w' ⟨rfl,rfl⟩
   exact ⟨rfl,h,Chg.refl _ _⟩
  ·obtain ⟨av,cap,rfl,h1,h2,h3,-,-⟩:=A0g h
   obtain ⟨g,rfl⟩:=h3 (by omega)
   refine (A9F w g cap wb len l 0 l.length (by omega) (Nat.le_refl _) h hT hl hw (hwb g rfl) (by omega)).mono ?_
   rintro e w' ⟨rfl,m,q1,q2,q3,q4,q5⟩
   have e1:m=A2m (A1U len) l:=(A4L len).sort_eq q4 (by simpa using q3)
   refine ⟨rfl,?_,q5.mono fun k _ hk=>by have e:k=g:=hk;subst e;rfl⟩
   rw [← e1]
   have hlm:m.length=l.length:=by simpa using q2
   have:=q1
   simp only [List.take_zero,List.nil_append,List.drop_length,List.append_nil] at this
   exact this
 rw [show ((0:Nat):Int)=0 from rfl] at IS
 have h20:¬ ((20:Int)≤(l.length:Int)):=by omega
 have h20':¬ ((20:Int)<(l.length:Int)):=by omega
 clear h hT hl hw hwb hn
 go_enter Tryz.func202,Tryz.ntmps202
 go_wp2
 refine wp_loop_rounds 1 ?_
 rw [rounds_succ]
 go_wp2_with (fail)
 refine IS.out.mono ?_
 rintro e w2 ⟨rfl,hp,hc⟩
 have HP:=A0b hp
 have HC:=A0b hc
 clear hp hc IS
 go_wp2
 refine wp_loop_rounds 1 ?_
 rw [rounds_succ]
 go_wp2
 go_end0
 exact ⟨rfl,HP.out,HC.out⟩
set_option maxRecDepth 100000 in
theorem B4o:A4v 19:=by
 intro w v wb len l hn h hT hl hw hwb
 have ST:=A0b (B0Q w v wb len l hn h hT hl hw hwb)
 obtain ⟨av,cap,rfl,h1,h2,-⟩:=A0g h
 clear h hT hl hw hwb
 go_enter Tryz.func154,Tryz.ntmps154
 go_wp2_with (go_at_call 202;refine ST.out.mono ?_;rintro e w2 ⟨rfl,hp,hc⟩;have HP:=A0b hp;have HC:=A0b hc;clear hp hc)
 go_end0
 exact ⟨rfl,HP.out,HC.out⟩
end Go.Proofs.YtodcnkbblippnaaGreatDoor
namespace Go.Proofs.YtodcnkbblippnaaGreatDoor
open Go.RowKit
structure WnB (w:World) (B0:Nat) (v:Value) (vs:List Value) (ws:List (List Pu)):Prop where
 row:w.ownsRow 0 97 1 v ws.length vs
 ls:∀ (k:Nat) (h1:k<vs.length) (h2:k<ws.length),A1r w (vs[k]'h1) (ws[k]'h2)
 lo:∀ g,v.ownBlock=some g→B0≤g
 li:∀ x∈vs,∀ g,x.ownBlock=some g→B0≤g
 dis:vs.Pairwise fun x y=>∀ g,x.ownBlock=some g→¬ y.ownBlock=some g
section
variable {w w':World} {B0:Nat} {v:Value} {vs:List Value} {ws:List (List Pu)}
theorem WnB.len (h:WnB w B0 v vs ws):vs.length=ws.length:=by have:=h.row.1;omega
theorem WnB.nil (w:World) (B0:Nat):WnB w B0 (.slice none 0 0) [] []:=
 ⟨World.ownsRow_nil _ _ _ _,fun k h1=>by simp at h1,fun g hg=>by simp [Value.ownBlock] at hg,fun x hx=>by simp at hx,List.Pairwise.nil⟩
theorem WnB.keep {S:Nat→Prop} (h:WnB w B0 v vs ws) (hc:Chg S w w') (hS:∀ k,S k→k<B0):WnB w' B0 v vs ws:=
 ⟨A0a h.row fun g hg=>hc.block g (A0c h.row hg) fun hx=>by have:=hS g hx;have:=h.lo g hg;omega,
  fun k h1 h2=>A0a (h.ls k h1 h2) fun g hg=>hc.block g (A0c (h.ls k h1 h2) hg) fun hx=>by have:=hS g hx;have:=h.li _ (List.getElem_mem h1) g hg;omega,h.lo,h.li,h.dis⟩
theorem WnB.keep0 (h:WnB w B0 v vs ws) (hc:Chg (fun _=>False) w w'):WnB w' B0 v vs ws:=h.keep hc fun _ h=>h.elim
theorem WnB.lt (h:WnB w B0 v vs ws) {x:Value} (hx:x∈vs) {g:Nat} (hg:x.ownBlock=some g):g<w.heap.size:=by
 obtain ⟨k,h1,rfl⟩:=List.getElem_of_mem hx
 exact A0c (h.ls k h1 (by have:=h.len;omega)) hg
theorem WnB.ne (h:WnB w B0 v vs ws) {x:Value} (hx:x∈vs) {g:Nat} (hg:x.ownBlock=some g):¬ v.ownBlock=some g:=by
 obtain ⟨k,h1,rfl⟩:=List.getElem_of_mem hx
 exact A3F (h.ls k h1 (by have:=h.len;omega)) h.row (by decide) hg
theorem WnB.push {v':Value} (h:WnB w B0 v vs ws) (hA:App w w' 97 1 v v' (ws.length+1) (vs ++ [.slice none 0 0])) (hB:B0≤w.heap.size):WnB w' B0 v' (vs ++ [.slice none 0 0]) (ws ++ [[]]):=by
 have hc:=hA.chg (S:=fun k=>v.ownBlock=some k) fun _ h=>h
 have hl:=h.len
 refine ⟨?_,fun k h1 h2=>?_,fun g hg=>?_,fun x hx g hg=>?_,?_⟩
 ·have e:(ws ++ [[]]).length=ws.length+1:=by simp
  rw [e];exact hA.own
 ·by_cases hk:k<ws.length
  ·rw [List.getElem_append_left (show k<vs.length by omega),List.getElem_append_left hk]
   exact A0a (h.ls k (by omega) hk) fun g hg=>hc.block g (A0c (h.ls k (by omega) hk) hg) (h.ne (List.getElem_mem (by omega)) hg)
  ·have e1:(vs ++ [Value.slice none 0 0])[k]'h1=.slice none 0 0:=by
    have:k=vs.length:=by simp at h1;omega
    subst this;simp
   have e2:(ws ++ [[]])[k]'h2 = []:=by
    have:k=ws.length:=by simp at h2;omega
    subst this;simp
   rw [e1,e2]
   exact World.ownsRow_nil _ _ _ _
 ·rcases hA.at_ with h1 | h1
  ·rw [h1] at hg;exact h.lo g hg
  ·rw [h1] at hg;cases hg;exact hB
 ·rcases List.mem_append.1 hx with hx | hx
  ·exact h.li x hx g hg
  ·simp at hx;subst hx;simp [Value.ownBlock] at hg
 ·exact List.pairwise_append.2 ⟨h.dis,List.pairwise_singleton _ _,fun x _ y hy g _ hg=>by simp at hy;subst hy;simp [Value.ownBlock] at hg⟩
theorem WnB.setIn {ws0:List (List Pu)} {vs0:List Value} {lv:Value} {l l':List Pu} (h:WnB w B0 v (vs0 ++ [lv]) (ws0 ++ [l])) (hc:Chg (fun k=>lv.ownBlock=some k) w w') (hl:A1r w' lv l'):WnB w' B0 v (vs0 ++ [lv]) (ws0 ++ [l']):=by
 have hlen:=h.len
 have hln:vs0.length=ws0.length:=by simpa using hlen
 refine ⟨?_,fun k h1 h2=>?_,h.lo,h.li,h.dis⟩
 ·have e:(ws0 ++ [l']).length=(ws0 ++ [l]).length:=by simp
  rw [e]
  exact A0a h.row fun g hg=>hc.block g (A0c h.row hg) fun hx=>h.ne (x:=lv) (by simp) hx hg
 ·by_cases hk:k<ws0.length
  ·have h2':k<(ws0 ++ [l]).length:=by simp;omega
   have h3:=h.ls k h1 h2'
   rw [List.getElem_append_left hk] at h3 ⊢
   refine A0a h3 fun g hg=>hc.block g (A0c h3 hg) fun hx=>?_
   rw [List.getElem_append_left (show k<vs0.length by omega)] at hg
   exact (List.pairwise_append.1 h.dis).2.2 _ (List.getElem_mem (show k<vs0.length by omega)) lv (by simp) g hg hx
  ·have hk2:k=ws0.length:=by simp at h2;omega
   have e2:(ws0 ++ [l'])[k]'h2=l':=by subst hk2;simp
   have e1:(vs0 ++ [lv])[k]'h1=lv:=by
    have:k=vs0.length:=by omega
    subst this;simp
   rw [e1,e2];exact hl
theorem WnB.setOut {g0 n0 cap0:Nat} {ws0:List (List Pu)} {vs0:List Value} {lv lv':Value} {l l':List Pu} (h:WnB w B0 (.slice (some ⟨g0,0,none⟩) n0 cap0) (vs0 ++ [lv]) (ws0 ++ [l])) (hc:Chg (fun k=>lv.ownBlock=some k) w w') (hl:A1r w' lv' l') (ho:∀ g,lv'.ownBlock=some g→lv.ownBlock=some g∨w.heap.size≤g) (hB:B0≤w.heap.size):
 WnB (w'.setCell ⟨g0,vs0.length,none⟩ lv') B0 (.slice (some ⟨g0,0,none⟩) n0 cap0) (vs0 ++ [lv']) (ws0 ++ [l']):=by
 have hlen:=h.len
 have hln:vs0.length=ws0.length:=by simpa using hlen
 have en0:n0=(ws0 ++ [l]).length:=by
  obtain ⟨a',c',e,_⟩:=A0g h.row
  cases e;rfl
 subst en0
 have hg0:g0<w.heap.size:=A0c h.row rfl
 have hrow:w'.ownsRow 0 97 1 (.slice (some ⟨g0,0,none⟩) (ws0 ++ [l]).length cap0) (ws0 ++ [l]).length (vs0 ++ [lv]):=A0a h.row fun g hg=>hc.block g (A0c h.row hg) fun hx=>h.ne (x:=lv) (by simp) hx hg
 have hlo:∀ g,lv'.ownBlock=some g→g≠g0:=fun g hg e=>by
  subst e
  exact A3F hl hrow (by decide) hg rfl
 have kz:Chg (One g0) w' (w'.setCell ⟨g0,vs0.length,none⟩ lv'):=(Chg.refl (One g0) w').setAt (b:=g0) rfl _ _
 have hst:=(hrow.stored vs0.length lv').1
 have hset:(vs0 ++ [lv]).set vs0.length lv'=vs0 ++ [lv']:=by rw [List.set_append_right _ _ (Nat.le_refl _)];simp
 rw [hset] at hst
 refine ⟨?_,fun k h1 h2=>?_,h.lo,fun x hx g hg=>?_,?_⟩
 ·have e:(ws0 ++ [l']).length=(ws0 ++ [l]).length:=by simp
  rw [e]
  exact hst
 ·by_cases hk:k<ws0.length
  ·have h1':k<(vs0 ++ [lv]).length:=by simp;omega
   have h2':k<(ws0 ++ [l]).length:=by simp;omega
   have h3:=h.ls k h1' h2'
   rw [List.getElem_append_left hk,List.getElem_append_left (show k<vs0.length by omega)] at h3 ⊢
   have hmem:vs0[k]'(by omega)∈vs0 ++ [lv]:=List.mem_append.2 (.inl (List.getElem_mem (by omega)))
   refine A0a h3 fun g hg=>?_
   have b1:w'.heap[g]?=w.heap[g]?:=hc.block g (A0c h3 hg) fun hx=>(List.pairwise_append.1 h.dis).2.2 _ (List.getElem_mem (show k<vs0.length by omega)) lv (by simp) g hg hx
   have b2:(w'.setCell ⟨g0,vs0.length,none⟩ lv').heap[g]?=w'.heap[g]?:=kz.block g (Nat.lt_of_lt_of_le (A0c h3 hg) hc.size) fun e=>h.ne hmem hg (by have e':g=g0:=e;subst e';rfl)
   rw [b2,b1]
  ·have hk2:k=ws0.length:=by simp at h2;omega
   have e2:(ws0 ++ [l'])[k]'h2=l':=by subst hk2;simp
   have e1:(vs0 ++ [lv'])[k]'h1=lv':=by
    have:k=vs0.length:=by omega
    subst this;simp
   rw [e1,e2]
   exact A0a hl fun g hg=>kz.block g (A0c hl hg) (hlo g hg)
 ·rcases List.mem_append.1 hx with hx | hx
  ·exact h.li x (List.mem_append.2 (.inl hx)) g hg
  ·simp at hx;subst hx
   rcases ho g hg with h1 | h1
   ·exact h.li lv (by simp) g h1
   ·omega
 ·obtain ⟨d1,d2,d3⟩:=List.pairwise_append.1 h.dis
  refine List.pairwise_append.2 ⟨d1,List.pairwise_singleton _ _,fun x hx y hy g hg hg2=>?_⟩
  simp at hy;subst hy
  rcases ho g hg2 with h1 | h1
  ·exact d3 x hx lv (by simp) g hg h1
  ·have:=h.lt (List.mem_append.2 (.inl hx)) hg;omega
end
theorem B0X (len:Int) (l:List Pu) (i:Nat) (hi:i<l.length) (first:Bool) (prev:Pu) (ws:List (List Pu)):
 A5r len (l.drop i) first prev ws=A5r len (l.drop (i+1)) false (l[i]'hi) (A1u len ws first prev (l[i]'hi)):=by
 rw [List.drop_eq_getElem_cons hi];rfl
def A2P (ws0:List (List Pu)) (last:List Pu) (p:Pu):List (List Pu):=
 if last≠[]∧A1V p (last.getLastD (0,0,0))=0 then ws0 ++ [last.dropLast ++ [p]] else ws0 ++ [last ++ [p]]
theorem A5K (len:Int) (ws:List (List Pu)) (first:Bool) (prev p:Pu) (h:first=true∨A1K p.2.1 len≠A1K prev.2.1 len):A1u len ws first prev p=A2P ws [] p:=by
 unfold A1u A2P
 dsimp only
 rw [if_pos h]
 simp
theorem A8S (len:Int) (ws0:List (List Pu)) (l:List Pu) (prev p:Pu) (h:A1K p.2.1 len=A1K prev.2.1 len):A1u len (ws0 ++ [l]) false prev p=A2P ws0 l p:=by
 have e:(if (false=true∨A1K p.2.1 len≠A1K prev.2.1 len) then (ws0 ++ [l]) ++ [[]] else ws0 ++ [l])=ws0 ++ [l]:=if_neg (by simp [h])
 have e1:(ws0 ++ [l]).getLastD []=l:=by rw [List.getLastD_eq_getLast?];simp
 have e2:(ws0 ++ [l]).dropLast=ws0:=by simp
 unfold A1u A2P
 simp only [e,e1,e2]
end Go.Proofs.YtodcnkbblippnaaGreatDoor
