/-
  The statement WritesUptoCardSaid is proved: the law Writes answers true for every setting and every script of at most 1048576 bytes; there is no other condition.
  Part 14 of 33.
-/
import Derived.Test.YtodcnkbblippnaaGreatDoorPart13
import Derived.Test.YtodcnkbblippnaaGreatDoorPart09
namespace Go.Proofs.YtodcnkbblippnaaGreatDoor
open Go.RowKit
attribute [local go_sem ↓] A0p
set_option maxRecDepth 100000 in
theorem B2b (w:World) (x:Int):Calls Tryz.prog 169 #[.int .i64 x] w fun e w'=>e=.returned (.bool false)∧w=w':=by
 have h:(x != x)=false:=by simp
 go_enter Tryz.func169,Tryz.ntmps169
 go_wp2
 go_ret
 exact ⟨rfl,rfl⟩
set_option maxRecDepth 100000 in
theorem A4h (w:World) (x y:Int):Calls Tryz.prog 130 #[.int .i64 x,.int .i64 y] w fun e w'=>e=.returned (.int .i64 (A3u x y))∧w=w':=by
 have IN:=A0b (B2b)
 unfold A3u
 go_enter Tryz.func130,Tryz.ntmps130
 by_cases h1:x<y
 ·rw [if_pos h1]
  go_wp2_with (go_at_call 169;refine (IN.out _ _).mono ?_;rintro e w' ⟨rfl,rfl⟩)
  go_ret
  exact ⟨rfl,rfl⟩
 ·by_cases h2:y<x
  ·rw [if_neg h1,if_pos h2]
   go_wp2_with (go_at_call 169;refine (IN.out _ _).mono ?_;rintro e w' ⟨rfl,rfl⟩)
   go_ret
   exact ⟨rfl,rfl⟩
  ·rw [if_neg h1,if_neg h2]
   go_wp2_with (go_at_call 169;refine (IN.out _ _).mono ?_;rintro e w' ⟨rfl,rfl⟩)
   go_ret
   exact ⟨rfl,rfl⟩
def orI (a b:Int):Int:=if a≠0 then a else b
set_option maxRecDepth 100000 in
theorem B2y (w:World) (g:Nat) (a b:Int) (h0:w.cell? ⟨g,0,none⟩=some (.int .i64 a)) (h1:w.cell? ⟨g,1,none⟩=some (.int .i64 b)):
 Calls Tryz.prog 156 #[.slice (some ⟨g,0,none⟩) 2 2] w fun e w'=>e=.returned (.int .i64 (orI a b))∧w=w':=by
 unfold orI
 go_enter Tryz.func156,Tryz.ntmps156
 by_cases ha:a=0
 ·subst ha
  rw [if_neg (by simp)]
  by_cases hb:b=0
  ·subst hb
   go_wp2
   refine wp_loop_rounds 3 ?_
   rw [rounds_succ]
   go_wp2
   rw [rounds_succ]
   go_wp2
   rw [rounds_succ]
   go_wp2
   go_ret
   exact ⟨rfl,rfl⟩
  ·have hb':(b != 0)=true:=by simpa using hb
   go_wp2
   refine wp_loop_rounds 2 ?_
   rw [rounds_succ]
   go_wp2
   rw [rounds_succ]
   go_wp2
   go_ret
   exact ⟨rfl,rfl⟩
 ·rw [if_pos ha]
  have ha':(a != 0)=true:=by simpa using ha
  go_wp2
  refine wp_loop_rounds 1 ?_
  rw [rounds_succ]
  go_wp2
  go_ret
  exact ⟨rfl,rfl⟩
theorem B4t (p q:Pu):A1V p q=orI (A3u p.1 q.1) (A3u p.2.1 q.2.1):=rfl
def A2t (p:Pu):Value:=.agg #[.int .i64 p.1,.int .i64 p.2.1,.int .i64 p.2.2]
set_option maxRecDepth 100000 in
set_option maxHeartbeats 2000000 in
theorem A2J (w:World) (p q:Pu):Calls Tryz.prog 158 #[A2t p,A2t q] w fun e w'=>e=.returned (.int .i64 (A1V p q))∧Chg (fun _=>False) w w':=by
 obtain ⟨p1,p2,p3⟩:=p
 obtain ⟨q1,q2,q3⟩:=q
 rw [B4t]
 unfold A2t
 dsimp only
 have CI:=A0b (A4h)
 have OR:=A0b (B2y)
 obtain ⟨x,hx⟩:∃ x,A3u p1 q1=x:=⟨_,rfl⟩
 obtain ⟨y,hy⟩:∃ y,A3u p2 q2=y:=⟨_,rfl⟩
 rw [hx,hy]
 have b1:A0V ((w.alloc (.cells #[.int .i64 p1,.int .i64 p2,.int .i64 p3] 113)).alloc (.cells #[.int .i64 q1,.int .i64 q2,.int .i64 q3] 113)) w.heap.size p1 p2 p3:=(Below.heap_alloc _ _ _ (by simp)).trans (heap_alloc_new w _)
 have b2:A0V ((w.alloc (.cells #[.int .i64 p1,.int .i64 p2,.int .i64 p3] 113)).alloc (.cells #[.int .i64 q1,.int .i64 q2,.int .i64 q3] 113)) (w.heap.size+1) q1 q2 q3:=by
  have:=heap_alloc_new (w.alloc (.cells #[.int .i64 p1,.int .i64 p2,.int .i64 p3] 113)) (.cells #[.int .i64 q1,.int .i64 q2,.int .i64 q3] 113)
  simpa [A0V] using this
 have k2:Chg (fun _=>False) w ((w.alloc (.cells #[.int .i64 p1,.int .i64 p2,.int .i64 p3] 113)).alloc (.cells #[.int .i64 q1,.int .i64 q2,.int .i64 q3] 113)):=((Chg.refl _ w).alloc _).alloc _
 have sz:((w.alloc (.cells #[.int .i64 p1,.int .i64 p2,.int .i64 p3] 113)).alloc (.cells #[.int .i64 q1,.int .i64 q2,.int .i64 q3] 113)).heap.size=w.heap.size+2:=by simp
 have B1:=A0b b1
 have B2:=A0b b2
 have K2:=A0b k2
 have SZ:=A0b sz
 clear b1 b2 k2 sz
 go_enter Tryz.func158,Tryz.ntmps158
 go_wp2
 generalize ((w.alloc (.cells #[.int .i64 p1,.int .i64 p2,.int .i64 p3] 113)).alloc (.cells #[.int .i64 q1,.int .i64 q2,.int .i64 q3] 113))=w2 at B1 B2 K2 SZ ⊢
 refine A0e (fun w'=>w'.cell? ⟨w.heap.size,0,none⟩=some (.int .i64 p1)∧w'.cell? ⟨w.heap.size,1,none⟩=some (.int .i64 p2)∧w'.cell? ⟨w.heap.size+1,0,none⟩=some (.int .i64 q1)∧w'.cell? ⟨w.heap.size+1,1,none⟩=some (.int .i64 q2)) 14
  [(0,true),(1,true),(2,true),(3,true),(5,true),(6,true),(7,true),(8,true),(9,true),(10,true),(4,false),(11,false),(12,false),(13,false)] (by kernel_rfl) (by kernel_rfl) (fun _ _ _ _ _ h=>h) ⟨B1.out.c0,B1.out.c1,B2.out.c0,B2.out.c1⟩ ?_
 iterate 10 (refine A0d (v:=?_) rfl (by rfl) ?_ ?_;rotate_left;(· (intro w' hS;(try dsimp only at hS);go_simp;try with_reducible rfl));(try simp only [Act.put,List.setIfInBounds_toArray,List.set_cons_zero,List.set_cons_succ,List.getElem_toArray,List.getElem_cons_zero,List.getElem_cons_succ]))
 refine A0i rfl (by rfl) (fun K hK=>?_)
 go_simp
 have D1:=A0b B1.out.drew
 have D2:=A0b B2.out.drew
 refine (CI.out _ _ _).mono ?_
 rintro e w3 ⟨rfl,rfl⟩
 rw [hx]
 refine hK _ _ ⟨D1.out.c0,D1.out.c1,D2.out.c0,D2.out.c1⟩ (fun hS=>?_)
 clear hK K hS
 (try simp only [Act.put,List.setIfInBounds_toArray,List.set_cons_zero,List.set_cons_succ,List.getElem_toArray,List.getElem_cons_zero,List.getElem_cons_succ])
 refine A0i rfl (by rfl) (fun K hK=>?_)
 go_simp
 refine (CI.out _ _ _).mono ?_
 rintro e w4 ⟨rfl,rfl⟩
 rw [hy]
 refine hK _ _ ⟨D1.out.c0,D1.out.c1,D2.out.c0,D2.out.c1⟩ (fun hS=>?_)
 clear hK K hS
 (try simp only [Act.put,List.setIfInBounds_toArray,List.set_cons_zero,List.set_cons_succ,List.getElem_toArray,List.getElem_cons_zero,List.getElem_cons_succ])
 refine A0i rfl (by rfl) (fun K hK=>?_)
 go_simp
 have ka:Chg (fun _=>False) w2 (w2.alloc (.cells #[.int .i64 x,.int .i64 y] 3)).drew:=((Chg.refl _ _).alloc _).drew
 have E1:=B1.out.keep ka (fun h=>h)
 have E2:=B2.out.keep ka (fun h=>h)
 have hb:(w2.alloc (.cells #[.int .i64 x,.int .i64 y] 3)).drew.heap[w2.heap.size]?=some (.cells #[.int .i64 x,.int .i64 y] 3):=heap_alloc_new w2 _
 refine hK _ _ ⟨E1.c0,E1.c1,E2.c0,E2.c1⟩ (fun hS=>?_)
 clear hK K hS
 (try simp only [Act.put,List.setIfInBounds_toArray,List.set_cons_zero,List.set_cons_succ,List.getElem_toArray,List.getElem_cons_zero,List.getElem_cons_succ])
 refine A0i rfl (by rfl) (fun K hK=>?_)
 go_simp
 refine (OR.out _ _ x y (by simp only [World.cell?,hb];rfl) (by simp only [World.cell?,hb];rfl)).mono ?_
 rintro e w5 ⟨rfl,rfl⟩
 refine hK _ _ ⟨E1.c0,E1.c1,E2.c0,E2.c1⟩ (fun hS=>?_)
 have KF:Hid (Chg (fun _=>False) w (w2.alloc (.cells #[.int .i64 x,.int .i64 y] 3)).drew):=K2.out.trans ka fun _ h _=>h
 clear hK K hS E1 E2 hb ka
 (try simp only [Act.put,List.setIfInBounds_toArray,List.set_cons_zero,List.set_cons_succ,List.getElem_toArray,List.getElem_cons_zero,List.getElem_cons_succ])
 refine A0k ?_
 simp only [List.drop_succ_cons,List.drop_zero]
 go_wp2
 go_ret
 exact ⟨rfl,KF.out⟩
end Go.Proofs.YtodcnkbblippnaaGreatDoor
namespace Go.Proofs.YtodcnkbblippnaaGreatDoor
open Go.RowKit
attribute [local go_sem ↓] A0p
theorem B5j {t len:Int} (h:1≤len):A1K t len=if t.tmod len<0 then t.tdiv len - 1 else t.tdiv len:=by
 unfold A1K
 have e1:=Int.mul_ediv_add_emod t len
 have e2:=Int.emod_nonneg t (b:=len) (by omega)
 have e3:=Int.emod_lt_of_pos t (b:=len) (by omega)
 have f1:=Int.mul_tdiv_add_tmod t len
 have f3:t.tmod len<len:=Int.tmod_lt_of_pos t (by omega)
 have f4 : -len<t.tmod len:=by
  by_cases h0:0≤t
  ·have:=Int.tmod_nonneg len h0;omega
  ·have:=Int.tmod_lt_of_pos (-t) (b:=len) (by omega)
   rw [Int.neg_tmod] at this;omega
 obtain ⟨q,hq⟩:∃ q,t / len=q:=⟨_,rfl⟩
 obtain ⟨r,hr⟩:∃ r,t % len=r:=⟨_,rfl⟩
 obtain ⟨q',hq'⟩:∃ q',t.tdiv len=q':=⟨_,rfl⟩
 obtain ⟨r',hr'⟩:∃ r',t.tmod len=r':=⟨_,rfl⟩
 rw [hq,hr] at e1;rw [hr] at e2 e3;rw [hq',hr'] at f1;rw [hr'] at f3 f4
 rw [hq,hq',hr']
 have key:len*(q - q')=r' - r:=by
  have:len*(q - q')=len*q - len*q':=Int.mul_sub ..
  omega
 by_cases hn:r'<0
 ·rw [if_pos hn]
  have h1 : -(2*len)<len*(q - q'):=by omega
  have h2:len*(q - q')<0:=by omega
  have k1:q - q'<0:=by
   rcases Int.lt_or_le (q - q') 0 with h | h
   ·exact h
   ·have:=Int.mul_nonneg (a:=len) (by omega) h;omega
  have k2 : -2<q - q':=by
   rcases Int.lt_or_le (-2) (q - q') with h | h
   ·exact h
   ·have:len*(q - q')≤len*(-2):=Int.mul_le_mul_of_nonneg_left h (by omega)
    omega
  omega
 ·rw [if_neg hn]
  have h1 : -len<len*(q - q'):=by omega
  have h2:len*(q - q')<len:=by omega
  have k1:q - q'<1:=by
   rcases Int.lt_or_le (q - q') 1 with h | h
   ·exact h
   ·have:len*1≤len*(q - q'):=Int.mul_le_mul_of_nonneg_left h (by omega)
    omega
  have k2 : -1<q - q':=by
   rcases Int.lt_or_le (-1) (q - q') with h | h
   ·exact h
   ·have:len*(q - q')≤len*(-1):=Int.mul_le_mul_of_nonneg_left h (by omega)
    omega
  omega
theorem B1R {t len:Int} (ht:A0P t) (hl:1≤len) (hr:t.tmod len<0):A0P (t.tdiv len - 1):=by
 obtain ⟨t1,t2⟩:=ht
 have f1:=Int.mul_tdiv_add_tmod t len
 have f4 : -len<t.tmod len:=by
  by_cases h0:0≤t
  ·have:=Int.tmod_nonneg len h0;omega
  ·have:=Int.tmod_lt_of_pos (-t) (b:=len) (by omega)
   rw [Int.neg_tmod] at this;omega
 obtain ⟨q,hq⟩:∃ q,t.tdiv len=q:=⟨_,rfl⟩
 obtain ⟨r,hrr⟩:∃ r,t.tmod len=r:=⟨_,rfl⟩
 rw [hq,hrr] at f1;rw [hrr] at f4 hr;rw [hq]
 constructor
 ·rcases Int.lt_or_le 0 q with h | h
  ·omega
  ·have:len*q≤1*q:=Int.mul_le_mul_of_nonpos_right hl h
   omega
 ·rcases Int.lt_or_le (q - 1) 0 with h | h
  ·omega
  ·have h2:1*(q - 1)≤len*(q - 1):=Int.mul_le_mul_of_nonneg_right hl h
   have h3:len*(q - 1)=len*q - len*1:=Int.mul_sub ..
   omega
set_option maxRecDepth 100000 in
theorem A3A (w:World) (t len:Int) (ht:A0P t) (hl:1≤len∧len≤4611686018427387904):
 Calls Tryz.prog 157 #[.int .i64 t,.int .i64 len] w fun e w'=>e=.returned (.int .i64 (A1K t len))∧w=w':=by
 obtain ⟨t1,t2⟩:=ht
 have hl0:¬ len=0:=by omega
 rw [B5j hl.1]
 go_enter Tryz.func157,Tryz.ntmps157
 by_cases hn:t.tmod len<0
 ·rw [if_pos hn]
  have hw:wrap64 (t.tdiv len - 1)=t.tdiv len - 1:=by
   have:=B1R ⟨t1,t2⟩ hl.1 hn
   unfold A0P at this
   unfold wrap64;omega
  go_wp2
  all_goals first | (exfalso;omega) | skip
  go_ret
  refine ⟨?_,rfl⟩
  show Ending.returned (Value.int .i64 (wrap64 (t.tdiv len - 1)))=_
  rw [hw]
 ·rw [if_neg hn]
  go_wp2
  all_goals first | (exfalso;omega) | skip
  go_ret
  exact ⟨rfl,rfl⟩
theorem A6U {α:Type} (cmp:α→α→Int):∀ (l:List α) (k:Nat) (h:k+1<l.length),A1Y cmp (l.drop k)=(decide (cmp (l[k]'(by omega)) (l[k+1]'h)<0) && A1Y cmp (l.drop (k+1))):=by
 intro l k h
 rw [List.drop_eq_getElem_cons (by omega:k<l.length),List.drop_eq_getElem_cons h]
 rfl
theorem A8J {α:Type} (cmp:α→α→Int) (l:List α) (k:Nat) (h:l.length≤k+1):A1Y cmp (l.drop k)=true:=by
 have:(l.drop k).length≤1:=by rw [List.length_drop];omega
 match hx:l.drop k with
 | []=>rfl
 | [x]=>rfl
 | x :: y :: r=>rw [hx] at this;simp at this
theorem A4K (x y:Int):A3u x y = -1∨A3u x y=0∨A3u x y=1:=by
 unfold A3u;split
 ·exact .inl rfl
 ·split
  ·exact .inr (.inr rfl)
  ·exact .inr (.inl rfl)
set_option maxRecDepth 100000 in
set_option maxHeartbeats 2000000 in
theorem B4q (w:World) (v:Value) (l:List Int) (h:RdI w v l) (hl:l.length<1099511627776):
 Calls Tryz.prog 129 #[v,.func (.func 130) #[] #[]] w fun e w'=>e=.returned (.bool (A1Y A3u l))∧∃ n,w'=w.drewN n:=by
 obtain ⟨a,cap,rfl,h1,h2⟩:=h.form
 unfold maxLen at h2
 have HR:Hid (A1Y A3u l=A1Y A3u (l.drop 0)):=rfl
 obtain ⟨R,hR⟩:∃ R,A1Y A3u l=R:=⟨_,rfl⟩
 rw [hR] at HR ⊢
 have H:=A0b h
 clear h hR
 go_enter Tryz.func129,Tryz.ntmps129
 go_wp2
 go_loopw [5] (fun iv wr=>∃ k:Nat,iv=.int .i64 ((k:Int)+1)∧k≤l.length∧(∃ n,wr=w.drewN n)∧Hid (R=A1Y A3u (l.drop k))) (fun iv _=>l.length+1 - (intOf iv).toNat)
 case atStart=>exact ⟨0,rfl,by omega,⟨0,rfl⟩,HR.out⟩
 case round=>
  obtain ⟨k,rfl,hk,⟨n,rfl⟩,hRk⟩:=hrel
  by_cases hk1:k+1<l.length
  ·obtain ⟨g,o,rfl,c1⟩:=RdI.at H.out k (by omega)
   obtain ⟨g',o',e,c2⟩:=RdI.at H.out (k+1) hk1
   cases e
   have hRk2:=hRk.out
   rw [A6U A3u l k hk1] at hRk2
   have hrg:=A4K (l[k]'(by omega)) (l[k+1]'hk1)
   have CI:=A0b (fun n=>A4h (w.drewN n) (l[k]'(by omega)) (l[k+1]'hk1))
   obtain ⟨x,hx⟩:∃ x,(l[k]'(by omega))=x:=⟨_,rfl⟩
   obtain ⟨y,hy⟩:∃ y,(l[k+1]'hk1)=y:=⟨_,rfl⟩
   rw [hx] at c1 hRk2 hrg CI
   rw [hy] at c2 hRk2 hrg CI
   obtain ⟨cc,hcc⟩:∃ cc,A3u x y=cc:=⟨_,rfl⟩
   rw [hcc] at hRk2 hrg CI
   have d1:∀ n,(w.drewN n).cell? ⟨g,o+k,none⟩=some (.int .i64 x):=fun n=>c1
   have d2:∀ n,(w.drewN n).cell? ⟨g,o+(k+1),none⟩=some (.int .i64 y):=fun n=>c2
   have HRK:=A0b hRk2
   clear c1 c2 hx hy hcc hRk2 hRk
   have hki:(k:Int)+1<(l.length:Int):=by omega
   have hk0:(0:Int)≤(k:Int):=Int.natCast_nonneg _
   have hki2:(k:Int)<(l.length:Int):=by omega
   have ew0:IntKind.i64.wrap (k:Int)=k:=by simp [IntKind.wrap,IntKind.bits,IntKind.signed];omega
   have ew1:IntKind.i64.wrap ((k:Int)+1 - 1)=k:=by rw [Int.add_sub_cancel];exact ew0
   have tk:((k:Int)+1).toNat=k+1:=by omega
   have pk:(0:Int)≤(k:Int)+1:=by omega
   by_cases hc:cc<0
   ·have hR2:Hid (R=A1Y A3u (l.drop (k+1))):=by
     have:=HRK.out
     rw [decide_eq_true hc,Bool.true_and] at this
     exact this
    clear HRK
    have hge:¬ (0≤cc):=by omega
    go_wp2
    refine A0e (fun w'=>w'.cell? ⟨g,o+k,none⟩=some (.int .i64 x)∧w'.cell? ⟨g,o+(k+1),none⟩=some (.int .i64 y)) 11
     [(0,true),(1,true),(2,true),(3,true),(4,true),(5,true),(6,true),(7,true),(8,true),(9,true),(10,false)] (by kernel_rfl) (by kernel_rfl) (fun _ _ _ _ _ h=>h) ⟨d1 (n+1),d2 (n+1)⟩ ?_
    iterate 10 (refine A0d (v:=?_) rfl (by rfl) ?_ ?_;rotate_left;(· (intro w' hS;(try dsimp only at hS);go_simp;try with_reducible rfl));(try simp only [Act.put,List.setIfInBounds_toArray,List.set_cons_zero,List.set_cons_succ,List.getElem_toArray,List.getElem_cons_zero,List.getElem_cons_succ]))
    refine A0i rfl (by rfl) (fun K hK=>?_)
    go_simp
    refine (CI.out (n+1)).mono ?_
    rintro e w3 ⟨rfl,rfl⟩
    refine hK _ _ ⟨d1 (n+1),d2 (n+1)⟩ (fun hS=>?_)
    clear hK K hS
    (try simp only [Act.put,List.setIfInBounds_toArray,List.set_cons_zero,List.set_cons_succ,List.getElem_toArray,List.getElem_cons_zero,List.getElem_cons_succ])
    refine A0k ?_
    simp only [List.drop_succ_cons,List.drop_zero]
    go_wp2
    go_roundw
    case rel=>exact ⟨k+1,by go_num,by omega,⟨n+1,rfl⟩,hR2.out⟩
    case measure=>simp [intOf];omega
   ·have hR2:R=false:=by
     have:=HRK.out
     rw [decide_eq_false hc,Bool.false_and] at this
     exact this
    clear HRK
    subst hR2
    have hge:0≤cc:=by omega
    go_wp2
    refine A0e (fun w'=>w'.cell? ⟨g,o+k,none⟩=some (.int .i64 x)∧w'.cell? ⟨g,o+(k+1),none⟩=some (.int .i64 y)) 11
     [(0,true),(1,true),(2,true),(3,true),(4,true),(5,true),(6,true),(7,true),(8,true),(9,true),(10,false)] (by kernel_rfl) (by kernel_rfl) (fun _ _ _ _ _ h=>h) ⟨d1 (n+1),d2 (n+1)⟩ ?_
    iterate 10 (refine A0d (v:=?_) rfl (by rfl) ?_ ?_;rotate_left;(· (intro w' hS;(try dsimp only at hS);go_simp;try with_reducible rfl));(try simp only [Act.put,List.setIfInBounds_toArray,List.set_cons_zero,List.set_cons_succ,List.getElem_toArray,List.getElem_cons_zero,List.getElem_cons_succ]))
    refine A0i rfl (by rfl) (fun K hK=>?_)
    go_simp
    refine (CI.out (n+1)).mono ?_
    rintro e w3 ⟨rfl,rfl⟩
    refine hK _ _ ⟨d1 (n+1),d2 (n+1)⟩ (fun hS=>?_)
    clear hK K hS
    (try simp only [Act.put,List.setIfInBounds_toArray,List.set_cons_zero,List.set_cons_succ,List.getElem_toArray,List.getElem_cons_zero,List.getElem_cons_succ])
    refine A0k ?_
    simp only [List.drop_succ_cons,List.drop_zero]
    go_wp2
    go_ret
    exact ⟨rfl,_,rfl⟩
  ·have hR2:R=true:=by rw [hRk.out,A8J A3u l k (by omega)]
   subst hR2
   have hki:¬ ((k:Int)+1<(l.length:Int)):=by omega
   go_wp2
   go_ret
   exact ⟨rfl,_,rfl⟩
theorem A5P (p q:Pu):A1V p q = -1∨A1V p q=0∨A1V p q=1:=by
 unfold A1V;split <;> exact A4K _ _
set_option maxRecDepth 100000 in
set_option maxHeartbeats 800000 in
theorem B3A (w:World) (v:Value) (l:List Pu) (h:RdP w v l) (hl:l.length<1099511627776):
 Calls Tryz.prog 177 #[v,.func (.func 158) #[] #[]] w fun e w'=>e=.returned (.bool (A1Y A1V l))∧Chg (fun _=>False) w w':=by
 obtain ⟨a,cap,rfl,h1,h2⟩:=h.form
 unfold maxLen at h2
 have HR:Hid (A1Y A1V l=A1Y A1V (l.drop 0)):=rfl
 obtain ⟨R,hR⟩:∃ R,A1Y A1V l=R:=⟨_,rfl⟩
 rw [hR] at HR ⊢
 have H:=A0b h
 clear h hR
 go_enter Tryz.func177,Tryz.ntmps177
 go_wp2
 go_loopw [5] (fun iv wr=>∃ k:Nat,iv=.int .i64 ((k:Int)+1)∧k≤l.length∧Hid (Chg (fun _=>False) w wr)∧Hid (R=A1Y A1V (l.drop k))) (fun iv _=>l.length+1 - (intOf iv).toNat)
 case atStart=>exact ⟨0,rfl,by omega,Chg.refl _ _,HR.out⟩
 case round=>
  obtain ⟨k,rfl,hk,hc,hRk⟩:=hrel
  by_cases hk1:k+1<l.length
  ·obtain ⟨g,o,rfl,-,c1,c2,c3⟩:=RdP.at H.out k (by omega)
   obtain ⟨g',o',e,-,c4,c5,c6⟩:=RdP.at H.out (k+1) hk1
   cases e
   have hRk2:=hRk.out
   rw [A6U A1V l k hk1] at hRk2
   have hrg:=A5P (l[k]'(by omega)) (l[k+1]'hk1)
   have CI:=A0b (fun wx=>A2J wx (l[k]'(by omega)) (l[k+1]'hk1))
   obtain ⟨x,hx⟩:∃ x,(l[k]'(by omega))=x:=⟨_,rfl⟩
   obtain ⟨y,hy⟩:∃ y,(l[k+1]'hk1)=y:=⟨_,rfl⟩
   rw [hx] at c1 c2 c3 hRk2 hrg CI
   rw [hy] at c4 c5 c6 hRk2 hrg CI
   obtain ⟨x1,x2,x3⟩:=x
   obtain ⟨y1,y2,y3⟩:=y
   obtain ⟨cc,hcc⟩:∃ cc,A1V (x1,x2,x3) (y1,y2,y3)=cc:=⟨_,rfl⟩
   rw [hcc] at hRk2 hrg CI
   dsimp only at c1 c2 c3 c4 c5 c6
   have d1:=hc.out.drew.cellKeep c1
   have d2:=hc.out.drew.cellKeep c2
   have d3:=hc.out.drew.cellKeep c3
   have d4:=hc.out.drew.cellKeep c4
   have d5:=hc.out.drew.cellKeep c5
   have d6:=hc.out.drew.cellKeep c6
   have HRK:=A0b hRk2
   have HC1:=A0b c1
   have HC2:=A0b c2
   have HC3:=A0b c3
   have HC4:=A0b c4
   have HC5:=A0b c5
   have HC6:=A0b c6
   clear c1 c2 c3 c4 c5 c6 hx hy hcc hRk2 hRk
   have hki:(k:Int)+1<(l.length:Int):=by omega
   have hk0:(0:Int)≤(k:Int):=Int.natCast_nonneg _
   have hki2:(k:Int)<(l.length:Int):=by omega
   have ew0:IntKind.i64.wrap (k:Int)=k:=by simp [IntKind.wrap,IntKind.bits,IntKind.signed];omega
   have ew1:IntKind.i64.wrap ((k:Int)+1 - 1)=k:=by rw [Int.add_sub_cancel];exact ew0
   have tk:((k:Int)+1).toNat=k+1:=by omega
   have pk:(0:Int)≤(k:Int)+1:=by omega
   have AFT:Hid (∀ wx,Chg (fun _=>False) wr.drew wx→(wx.cell? ⟨g,o+k*3,none⟩=some (.int .i64 x1)∧wx.cell? ⟨g,o+k*3+1,none⟩=some (.int .i64 x2)∧wx.cell? ⟨g,o+k*3+2,none⟩=some (.int .i64 x3)∧wx.cell? ⟨g,o+(k+1)*3,none⟩=some (.int .i64 y1)∧wx.cell? ⟨g,o+(k+1)*3+1,none⟩=some (.int .i64 y2)∧wx.cell? ⟨g,o+(k+1)*3+2,none⟩=some (.int .i64 y3))∧Chg (fun _=>False) w wx):=fun wx hx=>
    ⟨⟨hx.cellKeep (hc.out.drew.cellKeep HC1.out),hx.cellKeep (hc.out.drew.cellKeep HC2.out),hx.cellKeep (hc.out.drew.cellKeep HC3.out),hx.cellKeep (hc.out.drew.cellKeep HC4.out),hx.cellKeep (hc.out.drew.cellKeep HC5.out),hx.cellKeep (hc.out.drew.cellKeep HC6.out)⟩,hc.out.drew.trans hx fun _ h _=>h⟩
   by_cases hcn:cc<0
   ·have hR2:Hid (R=A1Y A1V (l.drop (k+1))):=by
     have:=HRK.out
     rw [decide_eq_true hcn,Bool.true_and] at this
     exact this
    clear HRK
    have hge:¬ (0≤cc):=by omega
    go_wp2
    refine A0e (fun w'=>w'.cell? ⟨g,o+k*3,none⟩=some (.int .i64 x1)∧w'.cell? ⟨g,o+k*3+1,none⟩=some (.int .i64 x2)∧w'.cell? ⟨g,o+k*3+2,none⟩=some (.int .i64 x3)∧w'.cell? ⟨g,o+(k+1)*3,none⟩=some (.int .i64 y1)∧w'.cell? ⟨g,o+(k+1)*3+1,none⟩=some (.int .i64 y2)∧w'.cell? ⟨g,o+(k+1)*3+2,none⟩=some (.int .i64 y3)) 11
     [(0,true),(1,true),(2,true),(3,true),(4,true),(5,true),(6,true),(7,true),(8,true),(9,true),(10,false)] (by kernel_rfl) (by kernel_rfl) (fun _ _ _ _ _ h=>h) ⟨d1,d2,d3,d4,d5,d6⟩ ?_
    iterate 10 (refine A0d (v:=?_) rfl (by rfl) ?_ ?_;rotate_left;(· (intro w' hS;(try dsimp only at hS);go_simp;try with_reducible rfl));(try simp only [Act.put,List.setIfInBounds_toArray,List.set_cons_zero,List.set_cons_succ,List.getElem_toArray,List.getElem_cons_zero,List.getElem_cons_succ]))
    refine A0i rfl (by rfl) (fun K hK=>?_)
    go_simp
    refine (CI.out _).mono ?_
    rintro e w3 ⟨rfl,hc3⟩
    refine hK _ _ (AFT.out w3 hc3).1 (fun hS=>?_)
    have HC:=A0b (AFT.out w3 hc3).2
    clear hK K hS hc3 d1 d2 d3 d4 d5 d6
    (try simp only [Act.put,List.setIfInBounds_toArray,List.set_cons_zero,List.set_cons_succ,List.getElem_toArray,List.getElem_cons_zero,List.getElem_cons_succ])
    refine A0k ?_
    simp only [List.drop_succ_cons,List.drop_zero]
    go_wp2
    go_roundw
    case rel=>exact ⟨k+1,by go_num,by omega,HC.out,hR2.out⟩
    case measure=>simp [intOf];omega
   ·have hR2:R=false:=by
     have:=HRK.out
     rw [decide_eq_false hcn,Bool.false_and] at this
     exact this
    clear HRK
    subst hR2
    have hge:0≤cc:=by omega
    go_wp2
    refine A0e (fun w'=>w'.cell? ⟨g,o+k*3,none⟩=some (.int .i64 x1)∧w'.cell? ⟨g,o+k*3+1,none⟩=some (.int .i64 x2)∧w'.cell? ⟨g,o+k*3+2,none⟩=some (.int .i64 x3)∧w'.cell? ⟨g,o+(k+1)*3,none⟩=some (.int .i64 y1)∧w'.cell? ⟨g,o+(k+1)*3+1,none⟩=some (.int .i64 y2)∧w'.cell? ⟨g,o+(k+1)*3+2,none⟩=some (.int .i64 y3)) 11
     [(0,true),(1,true),(2,true),(3,true),(4,true),(5,true),(6,true),(7,true),(8,true),(9,true),(10,false)] (by kernel_rfl) (by kernel_rfl) (fun _ _ _ _ _ h=>h) ⟨d1,d2,d3,d4,d5,d6⟩ ?_
    iterate 10 (refine A0d (v:=?_) rfl (by rfl) ?_ ?_;rotate_left;(· (intro w' hS;(try dsimp only at hS);go_simp;try with_reducible rfl));(try simp only [Act.put,List.setIfInBounds_toArray,List.set_cons_zero,List.set_cons_succ,List.getElem_toArray,List.getElem_cons_zero,List.getElem_cons_succ]))
    refine A0i rfl (by rfl) (fun K hK=>?_)
    go_simp
    refine (CI.out _).mono ?_
    rintro e w3 ⟨rfl,hc3⟩
    refine hK _ _ (AFT.out w3 hc3).1 (fun hS=>?_)
    have HC:=A0b (AFT.out w3 hc3).2
    clear hK K hS hc3 d1 d2 d3 d4 d5 d6
    (try simp only [Act.put,List.setIfInBounds_toArray,List.set_cons_zero,List.set_cons_succ,List.getElem_toArray,List.getElem_cons_zero,List.getElem_cons_succ])
    refine A0k ?_
    simp only [List.drop_succ_cons,List.drop_zero]
    go_wp2
    go_ret
    exact ⟨rfl,HC.out⟩
  ·have hR2:R=true:=by rw [hRk.out,A8J A1V l k (by omega)]
   subst hR2
   have hki:¬ ((k:Int)+1<(l.length:Int)):=by omega
   go_wp2
   go_ret
   exact ⟨rfl,hc.out⟩
end Go.Proofs.YtodcnkbblippnaaGreatDoor
namespace Go.Proofs.YtodcnkbblippnaaGreatDoor
open Go.RowKit
attribute [local go_sem ↓] A0p
theorem B0F {k:Nat} {l:Bs} (h:l.length<17):A8L k l=some ([],l):=by cases k <;> simp [A8L,h]
theorem B1V {k:Nat} {c:UInt8} {d:Bs} (h:16≤d.length):A8L (k+1) (c :: d)=if c.toNat<8 then (A8L k (d.drop 16)).map fun r=>(((c.toNat:Int),A1P d,A1P (d.drop 8)):: r.1,r.2) else none:=by
 have h1:¬ (c :: d).length<17:=by simp;omega
 simp only [A8L,if_neg h1]
 rfl
section
variable {w:World} {b B:Nat} {P:PD} {Ft:Nat→Prop} {a c m:Nat} {n:Int}
set_option maxRecDepth 100000 in
set_option maxHeartbeats 4000000 in
theorem A6o (w:World) (h:A1A w b P Ft) (hlt:∀ k,Ft k→k<w.heap.size) (hF:Fit P a c m) (hl:Lim a c m) (hn:A1j n) (hL:A2i B w):
 Calls Tryz.prog 135 #[.pointer (some ⟨b,0,none⟩),.int .i64 n] w fun e w'=>
  (P.seg n=none∧e=.returned (.tuple #[.pointer none,.int .i64 7])∧Chg (fun _=>False) w w')∨
  ∃ l gb v,P.seg n=some l∧e=.returned (.tuple #[.pointer (some ⟨gb,0,none⟩),.int .i64 0])∧A0S w' gb 182 b (A1d n) (A1m (A1d n)) n v∧A1r w' v l∧(∀ g,v.ownBlock=some g→w.heap.size≤g)∧w.heap.size≤gb∧Chg (fun _=>False) w w':=by
 obtain ⟨i0,hi,hz0,hz1,hz2⟩:=info_parts A2a
 have SO:=A0b (A4s w b hn hL)
 have RD:Hid (∀ w1,Chg (fun _=>False) w w1→_):=fun w1 hc=>B5s (A1d n) (A0R.same h hlt hc) (fun k hk=>Nat.lt_of_lt_of_le (hlt k hk) hc.size) hF hl
 have hrl:(P.read (A1d n)).1.length≤4294967296:=by
  have h1:=A8A hF (A1d n)
  have:=hl.m
  unfold PD.read
  split
  ·simp
  ·split
   ·rename_i d hd
    unfold A4n at hd
    split at hd
    ·cases hd
    ·split at hd
     ·cases hd;simp only [List.length_take];omega
     ·cases hd
   ·simp
 obtain ⟨X,hX⟩:∃ X,P.seg n=X:=⟨_,rfl⟩
 have HX:Hid (B2L (P.read (A1d n))=X):=hX
 rw [hX]
 have hnm:A1d n=A2b 2 n:=rfl
 rw [← hnm] at SO
 obtain ⟨nm,hnme⟩:∃ nm,A1d n=nm:=⟨_,rfl⟩
 rw [hnme] at SO RD HX hrl ⊢
 obtain ⟨s0,hs0⟩:∃ s0,A1m nm=s0:=⟨_,rfl⟩
 rw [hs0] at SO RD ⊢
 obtain ⟨⟨dt,de⟩,hde⟩:∃ x,P.read nm=x:=⟨_,rfl⟩
 rw [hde] at RD HX hrl
 dsimp only at RD hrl
 clear hX hnm hnme hs0 hde h hlt hF hl hn hL
 go_enter Tryz.func135,Tryz.ntmps135
 go_wp2_with (fail)
 refine SO.out.mono ?_
 rintro e w1 ⟨gb,rfl,hf1,hc1,hgb⟩
 have RD1:=A0b (RD.out w1 hc1)
 have HF1:=A0b hf1
 have HC1:=A0b hc1
 have HGB:=A0b hgb
 have g0:=hf1.c0
 have g1:=hf1.c1
 have g2:=hf1.c2
 clear SO RD hf1 hc1 hgb
 by_cases he:de=0
 case neg=>
  have hb:(de != 0)=true:=by simpa using he
  have hX0:Hid (X=none):=by unfold Hid;rw [← HX.out];unfold B2L;rw [if_pos he]
  go_wp2_with (go_at_call 126;refine RD1.out.mono ?_;rintro e w2 ⟨rfl,hc2⟩;have HC2:=A0b hc2;clear hc2)
  go_ret2
  exact .inl ⟨hX0.out,rfl,HC1.out.trans HC2.out fun _ h _=>h⟩
 case pos=>
 subst he
 have HX2:Hid ((match A8L dt.length dt with
  | none=>none
  | some (l,r)=>if r = []∧A1Y A1V l=true then some l else none)=X):=by
  rw [← HX.out];unfold B2L;rw [if_neg (by simp)];rfl
 clear HX
 obtain ⟨Y,hY⟩:∃ Y,A8L dt.length dt=Y:=⟨_,rfl⟩
 rw [hY] at HX2
 have HY:=A0b hY
 clear hY
 go_wp2_with (fail)
 refine RD1.out.mono ?_
 rintro e w2 ⟨rfl,hc2⟩
 have HF2:=A0b (HF1.out.keep hc2 (fun h=>h))
 have HC2:Hid (Chg (fun _=>False) w w2):=HC1.out.trans hc2 fun _ h _=>h
 have HG2:=A0b HF1.out.lt
 have HW12:=A0b hc2.size
 clear hc2 RD1 HF1 HC1 g0 g1 g2
 go_wp2
 go_loopw [7] (fun tv wr=>∃ (l:Bs) (k:Nat) (ps:List Pu),tv=.string ⟨l.toArray⟩∧ps.length*17+l.length≤dt.length∧Hid (∃ v,A0S wr gb 182 b nm s0 n v∧A1r wr v ps∧(∀ g,v.ownBlock=some g→w2.heap.size≤g)∧(Chg (fun _=>False) w wr∧w2.heap.size≤wr.heap.size)∧l.length≤k∧Y=(A8L k l).map fun r=>(ps ++ r.1,r.2))) (fun tv _=>match tv with | .string x=>x.size | _=>0)
 case atStart=>exact ⟨dt,dt.length,[],rfl,by simp,_,HF2.out,World.ownsRow_nil _ _ _ _,fun g hg=>by simp [Value.ownBlock] at hg,⟨HC2.out,Nat.le_refl _⟩,Nat.le_refl _,by rw [← HY.out];simp⟩
 case round=>
  obtain ⟨l,k,ps,rfl,hpl,hI⟩:=hrel
  have hlen:(ByteArray.mk l.toArray).size=l.length:=by show l.toArray.size=_;simp
  by_cases h17:l.length<17
  case pos=>
   obtain ⟨v,i1,i2,i3,⟨i4,i4b⟩,-,i6⟩:=hI.out
   rw [B0F h17] at i6
   simp only [Option.map_some,List.append_nil] at i6
   subst i6
   have hlt17:¬ (17≤(l.length:Int)):=by omega
   have I1:=A0b i1
   have I2:=A0b i2
   have I3:=A0b i3
   have I4:=A0b i4
   have g4:=i1.c4
   clear i1 i2 i3 i4 hI
   by_cases hnil:l = []
   case neg=>
    have hX0:Hid (X=none):=by unfold Hid;rw [← HX2.out];simp only;rw [if_neg (fun h=>hnil h.1)]
    have hbl:(l == [])=false:=beq_eq_false_iff_ne.2 hnil
    have hbn:(l != [])=true:=by simpa using hnil
    go_wp2
    go_ret2
    exact .inl ⟨hX0.out,rfl,I4.out⟩
   case pos=>
   subst hnil
   have RI:=A0b (B3A wr v ps I2.out.rd (by simp at hpl;omega))
   by_cases hr:A1Y A1V ps=true
   case neg=>
    have hrf:A1Y A1V ps=false:=by simpa using hr
    have hX0:Hid (X=none):=by unfold Hid;rw [← HX2.out];simp only;rw [if_neg (fun h=>hr h.2)]
    rw [hrf] at RI
    go_wp2_with (go_at_call 177;refine RI.out.mono ?_;rintro e w3 ⟨rfl,hc3⟩;have HC3:=A0b hc3;clear hc3)
    go_ret2
    exact .inl ⟨hX0.out,rfl,I4.out.trans HC3.out fun _ h _=>h⟩
   case pos=>
    have hX0:Hid (X=some ps):=by unfold Hid;rw [← HX2.out];simp only;rw [if_pos ⟨by first | trivial | rfl,hr⟩]
    rw [hr] at RI
    go_wp2_with (go_at_call 177;refine RI.out.mono ?_;rintro e w3 ⟨rfl,hc3⟩;have HC3:=A0b hc3;clear hc3)
    go_ret2
    exact .inr ⟨ps,gb,v,hX0.out,rfl,I1.out.keep HC3.out (fun h=>h),A0a I2.out fun g hg=>HC3.out.block g (A0c I2.out hg) (fun h=>h),fun g hg=>Nat.le_trans HC2.out.size (I3.out g hg),HGB.out,I4.out.trans HC3.out fun _ h _=>h⟩
  case neg=>
   obtain ⟨v,i1,i2,i3,⟨i4,i4b⟩,i5,i6⟩:=hI.out
   obtain ⟨k,rfl⟩:∃ k',k=k'+1:=⟨k - 1,by omega⟩
   obtain ⟨c0,d,rfl⟩:∃ c0 d,l=c0 :: d:=by
    cases l with
    | nil=>simp at h17
    | cons c0 d=>exact ⟨c0,d,rfl⟩
   have hd16:16≤d.length:=by simp at h17;omega
   rw [B1V hd16] at i6
   obtain ⟨ap,cp,rfl,hcap1,hcap2,-⟩:=A0g i2
   unfold maxLen at hcap2
   have PO:=A0b (fun w5=>A8H w5 c0 d ⟨hd16,by simp at hpl;omega⟩)
   have e2:(ByteArray.mk (c0 :: d).toArray).extract 17 (d.length+1)=⟨(d.drop 16).toArray⟩:=by
    rw [A1k,List.drop_succ_cons,List.take_of_length_le (by rw [List.length_drop];omega)]
   obtain ⟨x1,hx1⟩:∃ x1,A1P d=x1:=⟨_,rfl⟩
   obtain ⟨x2,hx2⟩:∃ x2,A1P (d.drop 8)=x2:=⟨_,rfl⟩
   rw [hx1,hx2] at PO i6
   obtain ⟨q,hq⟩:∃ q,d.drop 16=q:=⟨_,rfl⟩
   have hql:q.length+16=d.length:=by rw [← hq,List.length_drop];omega
   rw [hq] at e2 i6
   obtain ⟨ll,hll⟩:∃ ll,d.length=ll:=⟨_,rfl⟩
   have hlc:(c0 :: d).length=ll+1:=by simp [hll]
   rw [hlc] at hlen hpl i5
   rw [hll] at e2 hd16 hql
   have hc0:(0:Int)≤(c0.toNat:Int):=Int.natCast_nonneg _
   have hge:17≤(ll:Int)+1:=by omega
   obtain ⟨ty,hty⟩:∃ ty,ByteArray.mk (c0 :: d).toArray=ty:=⟨_,rfl⟩
   rw [hty] at e2 hlen PO ⊢
   have g4:=i1.c4
   have f4:=i1.fz 4
   have I1:=A0b i1
   have I2:=A0b i2
   have I3:=A0b i3
   have I4:=A0b i4
   have I4b:=A0b i4b
   have I5:=A0b i5
   have I6:=A0b i6
   have HQL:=A0b hql
   have HPL:=A0b hpl
   clear i1 i2 i3 i4 i4b i5 i6 hI hx1 hx2 hq hll hlc hty hql hpl h17
   by_cases hc8:c0.toNat<8
   case neg=>
    have hX0:Hid (X=none):=by unfold Hid;rw [← HX2.out,I6.out,if_neg hc8];rfl
    rw [show decide (c0.toNat<8)=false from decide_eq_false hc8] at PO
    go_wp2_with (go_at_call 176;refine (PO.out _).mono ?_;rintro e w6 ⟨rfl,hc6⟩;have HC6:=A0b hc6;clear hc6)
    go_ret2
    exact .inl ⟨hX0.out,rfl,(I4.out.trans HC6.out fun _ h _=>h).alloc _⟩
   case pos=>
    rw [show decide (c0.toNat<8)=true from decide_eq_true hc8] at PO
    have I7:Hid (Y=(A8L k q).map fun r=>((ps ++ [((c0.toNat:Int),x1,x2)]) ++ r.1,r.2)):=by
     unfold Hid
     rw [I6.out,if_pos hc8]
     cases A8L k q <;> simp
    go_wp2_with (go_at_call 176;refine (PO.out _).mono ?_;rintro e w6 ⟨rfl,hc6⟩;have HB6:=A0b (heap_alloc_new w6 (.cells #[.int .i64 c0.toNat,.int .i64 x1,.int .i64 x2] 113));have HC6:=A0b hc6;clear hc6)
    have k67:Chg (fun _=>False) wr (w6.alloc (.cells #[.int .i64 c0.toNat,.int .i64 x1,.int .i64 x2] 113)):=HC6.out.alloc _
    have B7:Hid (A0V (w6.alloc (.cells #[.int .i64 c0.toNat,.int .i64 x1,.int .i64 x2] 113)) w6.heap.size c0.toNat x1 x2):=HB6.out
    have K7:=A0b k67
    have NE:Hid (∀ g,(Value.slice ap ps.length cp).ownBlock=some g→g<w6.heap.size):=fun g hg=>Nat.lt_of_lt_of_le (A0c I2.out hg) HC6.out.size
    clear k67 HB6 PO
    generalize (w6.alloc (.cells #[.int .i64 c0.toNat,.int .i64 x1,.int .i64 x2] 113))=w7 at B7 K7 ⊢
    generalize w6.heap.size=pb at B7 NE ⊢
    have F7:=A0b (I1.out.keep K7.out (fun h=>h))
    have R7:Hid (A1r w7 (.slice ap ps.length cp) ps):=A0a I2.out fun g hg=>K7.out.block g (A0c I2.out hg) (fun h=>h)
    have S7:Hid (w2.heap.size≤w7.heap.size):=Nat.le_trans I4b.out K7.out.size
    have C7:Hid (Chg (fun _=>False) w w7):=I4.out.trans K7.out fun _ h _=>h
    clear g4 f4 I1 I2 HC6 I4 I4b
    refine A0e (fun w'=>w'.cell? ⟨pb,0,none⟩=some (.int .i64 c0.toNat)∧w'.cell? ⟨pb,1,none⟩=some (.int .i64 x1)∧w'.cell? ⟨pb,2,none⟩=some (.int .i64 x2)∧w'.cell? ⟨gb,4,none⟩=some (.slice ap ps.length cp)) 8
     [(0,true),(1,true),(2,true),(3,true),(4,true),(5,true),(6,false),(7,false)] (by kernel_rfl) (by kernel_rfl) (fun _ _ _ _ _ h=>h) ⟨B7.out.drew.c0,B7.out.drew.c1,B7.out.drew.c2,F7.out.drew.c4⟩ ?_
    iterate 6 (refine A0d (v:=?_) rfl (by rfl) ?_ ?_;rotate_left;(· (intro w' hS;(try dsimp only at hS);go_simp;try with_reducible rfl));(try simp only [Act.put,List.setIfInBounds_toArray,List.set_cons_zero,List.set_cons_succ,List.getElem_toArray,List.getElem_cons_zero,List.getElem_cons_succ]))
    refine A0i rfl (by rfl) (fun K hK=>?_)
    go_simp
    have ka:Chg (fun _=>False) w7 (w7.alloc (.cells #[.int .i64 c0.toNat,.int .i64 x1,.int .i64 x2] 113)).drew:=((Chg.refl _ _).alloc _).drew
    have E1:=B7.out.keep ka (fun h=>h)
    have E2:=F7.out.keep ka (fun h=>h)
    have R8:Hid (A1r (w7.alloc (.cells #[.int .i64 c0.toNat,.int .i64 x1,.int .i64 x2] 113)).drew (.slice ap ps.length cp) ps):=A0a R7.out fun g hg=>ka.block g (A0c R7.out hg) (fun h=>h)
    have HSRC:Hid (Src Tryz.prog 3 97 (.slice (some ⟨w7.heap.size,0,none⟩) 1 1) 1 #[.int .i64 c0.toNat,.int .i64 x1,.int .i64 x2].toList (w7.alloc (.cells #[.int .i64 c0.toNat,.int .i64 x1,.int .i64 x2] 113)).drew):=by
     have hb:(w7.alloc (.cells #[.int .i64 c0.toNat,.int .i64 x1,.int .i64 x2] 113)).drew.heap[w7.heap.size]?=some (.cells #[.int .i64 c0.toNat,.int .i64 x1,.int .i64 x2] 113 (0,0)):=heap_alloc_new w7 _
     exact Src.ofBlock Tryz.underlying97 hb 1 1 rfl (A0G [((c0.toNat:Int),x1,x2)])
    refine hK _ _ ⟨E1.c0,E1.c1,E1.c2,E2.c4⟩ (fun hS=>?_)
    clear hK K hS
    (try simp only [Act.put,List.setIfInBounds_toArray,List.set_cons_zero,List.set_cons_succ,List.getElem_toArray,List.getElem_cons_zero,List.getElem_cons_succ])
    refine A0i rfl (by rfl) (fun K hK=>?_)
    refine A3q (.tmp 40) (.tmp 42) 97 97 rfl 113 i0 _ 3 24 Tryz.underlying97 hi hz0 hz1 hz2 rfl (by decide) (.slice ap ps.length cp) ps.length (A0x ps) (by rfl) R8.out _ 1 _ (by rfl) HSRC.out (by have:=HPL.out;omega) ?_
    intro a8 cap8 w8 hA
    have hA2:=hA.chg (S:=fun k=>(Value.slice ap ps.length cp).ownBlock=some k) fun _ h=>h
    have G8:Hid (gb<w2.heap.size):=Nat.lt_of_lt_of_le HG2.out HW12.out
    have E1':=E1.keep hA2 (fun h=>Nat.lt_irrefl _ (NE.out _ h))
    have E2':=E2.keep hA2 (fun h=>by have:=I3.out _ h;have:=G8.out;omega)
    have P8:Hid (A1r w8 (.slice a8 (ps.length+1) cap8) (ps ++ [((c0.toNat:Int),x1,x2)])):=by
     have e:(ps ++ [((c0.toNat:Int),x1,x2)]).length=ps.length+1:=by simp
     unfold Hid A1r
     rw [A0Y,e]
     exact hA.own
    have O8:Hid (∀ g,(Value.slice a8 (ps.length+1) cap8).ownBlock=some g→w2.heap.size≤g):=fun g hg=>by
     rcases hA.at_ with h | h
     ·rw [h] at hg;exact I3.out g hg
     ·rw [h] at hg;cases hg;have:=S7.out;have:=ka.size;omega
    have C8:Hid (Chg (fun _=>False) w w8):=(C7.out.trans ka fun _ h _=>h).trans hA2 fun y hy hlt=>by have:=I3.out y hy;have:=HC2.out.size;omega
    have S8:Hid (w2.heap.size≤w8.heap.size):=Nat.le_trans S7.out (Nat.le_trans ka.size hA2.size)
    have F8:=A0b E2'
    refine hK _ _ ⟨E1'.c0,E1'.c1,E1'.c2,E2'.c4⟩ (fun hS=>?_)
    have g4:=E2'.c4
    have f4:=E2'.fz 4
    have F9:=A0b (E2'.s4 (.slice a8 (ps.length+1) cap8))
    have C9:Hid (Chg (fun _=>False) w (w8.setCell ⟨gb,4,none⟩ (.slice a8 (ps.length+1) cap8))):=C8.out.setCell (p:=⟨gb,4,none⟩) (fun h=>by have h':gb<w.heap.size:=h;have:=HGB.out;omega) _
    have P9:Hid (A1r (w8.setCell ⟨gb,4,none⟩ (.slice a8 (ps.length+1) cap8)) (.slice a8 (ps.length+1) cap8) (ps ++ [((c0.toNat:Int),x1,x2)])):=A0a P8.out fun g hg=>Below.heap_setCell _ _ _ _ (fun e=>by have e':g=gb:=e;have:=O8.out g hg;have:=G8.out;omega)
    clear hK K hS E1 E2 E1' E2' hA hA2 ka R8 HSRC F7 R7 B7 K7
    (try simp only [Act.put,List.setIfInBounds_toArray,List.set_cons_zero,List.set_cons_succ,List.getElem_toArray,List.getElem_cons_zero,List.getElem_cons_succ])
    refine A0k ?_
    simp only [List.drop_succ_cons,List.drop_zero]
    go_wp2
    go_roundw
    case rel=>exact ⟨q,k,ps ++ [((c0.toNat:Int),x1,x2)],rfl,by have:=HPL.out;have:=HQL.out;simp;omega,_,F9.out,by have:=P9.out;simpa using this,by have:=O8.out;simpa using this,⟨C9.out,by have:=S8.out;simpa using this⟩,by have:=I5.out;have:=HQL.out;omega,I7.out⟩
    case measure=>
     have e:(ByteArray.mk q.toArray).size=q.length:=by show q.toArray.size=_;simp
     have:=HQL.out
     simp only [e,hlen]
     omega
end
end Go.Proofs.YtodcnkbblippnaaGreatDoor
