/-
  The statement WritesUptoCardSaid is proved: the law Writes answers true for every setting and every script of at most 1048576 bytes; there is no other condition.
  Part 9 of 33.
-/
import Derived.Test.YtodcnkbblippnaaGreatDoorPart08
import Derived.WalkKit
import Derived.Test.YtodcnkbblippnaaGreatDoorPart01
import Derived.RegionTactic
import Derived.Deep.RegionHeld3
import Derived.Deep.DrawnRows
import Derived.Test.YtodcnkbblippnaaGreatDoorCards
import Derived.Test.YtodcnkbblippnaaGreatDoorTie
import Derived.ProofKit
import Derived.OpenShut
import Derived.Carry
import Derived.Deep.DeepHandedRow
import Derived.Deep.DeepWitnessRowRef
import Derived.Deep.Slices
import Derived.Lib.LaidTab
import Derived.Stop.LaidErr
import Derived.Test.YtodcnkbblippnaaGreatDoorPart02
import Derived.Lib.AppendZeros
import Derived.Lib.Overlaps
import Derived.Lib.SliceRun
import Derived.Test.YtodcnkbblippnaaGreatDoorPart05
import Derived.BigQuiet
import Derived.Deep.QuietTactic
namespace Go.Proofs.YtodcnkbblippnaaGreatDoor
open Go.RowKit
attribute [local go_sem ↓] Go.wp_at_zero Go.wp_at_succ
def B3p (w:World):Prop:=
 (∃ ev,w.cell? ⟨1,0,none⟩=some ev∧(ev=.nilIface∨∃ te pe,ev=.iface te pe))∧∃ ev,w.cell? ⟨2,0,none⟩=some ev∧(ev=.nilIface∨∃ te pe,ev=.iface te pe)
theorem B3p.keep0 {w w':World} (h:B3p w) (hc:Chg (fun _=>False) w w'):B3p w':=by
 obtain ⟨⟨e1,h1,k1⟩,e2,h2,k2⟩:=h
 exact ⟨⟨e1,hc.cellKeep h1,k1⟩,e2,hc.cellKeep h2,k2⟩
theorem B1K (s:List UInt8):A0W (Lib.atoiSat s)=false:=by
 unfold Lib.atoiSat
 split <;> rfl
theorem B3U (w:World) (s:List UInt8) (hl:s.length≤281474976710656) (he:B3p w):
 Calls Tryz.prog 131 #[.string ⟨s.toArray⟩] w fun e w'=>∃ v er,e=.returned (.tuple #[.int .i64 v,er])∧A9A s v∧Chg (fun _=>False) w w':=by
 obtain ⟨⟨e1,h1,k1⟩,e2,h2,k2⟩:=he
 have hs:(ByteArray.mk s.toArray).size=s.length:=by show s.toArray.size=_;simp
 have hd:(ByteArray.mk s.toArray).data.toList=s:=by simp
 cases hr:Lib.atoiAll s with
 | ok v=>
  refine (Tryz.strconv_Atoi_ok ⟨s.toArray⟩ (by omega) v (by rw [hd];exact hr) w).mono ?_
  rintro e w' ⟨rfl,hw⟩
  refine ⟨v,_,rfl,.inl hr,?_⟩
  rcases hw with rfl | ⟨t,rfl⟩
  ·exact Chg.refl _ _
  ·exact Chg.ofBelow (Lib.bytesWorld_below _ _ _)
 | «syntax»=>
  refine (Tryz.strconv_Atoi_syntax ⟨s.toArray⟩ (by omega) (by rw [hd];exact hr) e1 w h1 k1).mono ?_
  rintro e w' ⟨N,rfl,-,-,hb⟩
  exact ⟨0,_,rfl,.inr ⟨fun x h=>(by rw [hr] at h;cases h),rfl,fun _=>rfl⟩,Chg.ofBelow hb⟩
 | range=>
  refine (Tryz.strconv_Atoi_range ⟨s.toArray⟩ (by omega) (by rw [hd];exact hr) e2 w h2 k2).mono ?_
  rintro e w' ⟨N,rfl,-,-,hb⟩
  have hn:s≠[]:=by
   rintro rfl
   have:Lib.atoiAll []=.syntax:=by decide +kernel
   rw [this] at hr;cases hr
  exact ⟨Lib.atoiSat s,_,(by rw [hd]),.inr ⟨fun x h=>(by rw [hr] at h;cases h),B1K s,fun h=>absurd h hn⟩,Chg.ofBelow hb⟩
set_option maxRecDepth 100000 in
theorem A4Z (w:World) (v:Int):Calls Tryz.prog 128 #[.int .i64 v] w fun e w'=>e=.returned (.bool (A0W v))∧w=w':=by
 unfold A0W
 go_enter Tryz.func128,Tryz.ntmps128
 by_cases h1:1≤v
 ·by_cases h2:v≤4611686018427387904
  ·go_wp2
   go_ret
   exact ⟨by simp [h1,h2],rfl⟩
  ·go_wp2
   go_ret
   exact ⟨by simp [h2],rfl⟩
 ·have e:decide (1≤v∧v≤4611686018427387904)=false:=decide_eq_false fun h=>h1 h.1
  rw [e]
  go_wp2
  go_ret
  exact ⟨rfl,rfl⟩
section
variable {w:World} {B:Nat}
set_option maxRecDepth 100000 in
set_option maxHeartbeats 4000000 in
theorem A8n (w:World) (nm:List UInt8) (hl:nm.length≤281474976710656) (he:B3p w) (hL:A2i B w):
 Calls Tryz.prog 97 #[.string ⟨nm.toArray⟩] w fun e w'=>e=.returned (.tuple #[.int .i64 (A0D nm).1,.int .i64 (A0D nm).2])∧Chg (fun _=>False) w w':=by
 have TP:Hid (∀ (wr:World) (k:Nat),Calls Tryz.prog 132 #[.string ⟨nm.toArray⟩,.string ⟨(ltr k).toArray⟩] wr fun e w'=>e=.returned (.string ⟨(Lib.trimPrefix nm (ltr k)).toArray⟩)∧w'=wr):=fun wr k=>by
  have:=Tryz.strings_TrimPrefix ⟨nm.toArray⟩ ⟨(ltr k).toArray⟩ wr
  simpa using this
 have CE:Hid (∀ wr:World,Chg (fun _=>False) w wr→∀ k:Nat,1≤k→k≤4→wr.cell? ⟨0,k,none⟩=some (.string ⟨(ltr k).toArray⟩)):=fun wr hc k h1 h2=>((hL.keep0 hc).2 wr (Below.refl _ _)).1 k h1 h2
 have AT:Hid (∀ wr:World,Chg (fun _=>False) w wr→∀ k:Nat,_):=fun wr hc k=>B3U wr (Lib.trimPrefix nm (ltr k)) (Nat.le_trans (Lib.trimPrefix_le _ _) hl) (he.keep0 hc)
 have NO:Hid (∀ (wr:World) (k:Nat) (v:Int),Chg (fun _=>False) w wr→1≤k→k≤4→A0W v=decide ((k:Int)=1∨(k:Int)=2)→Calls Tryz.prog 134 #[.int .i64 k,.int .i64 v] wr fun e w''=>e=.returned (.string ⟨(A2b k v).toArray⟩)∧Chg (fun _=>False) wr w''):=fun wr k v hc h1 h2 h3=>by
  by_cases hk:k=1∨k=2
  ·rw [decide_eq_true (by omega)] at h3
   unfold A0W at h3
   have hv:=of_decide_eq_true h3
   have hn:=A2c (n:=v) (by omega) hv.2
   exact A4H wr k ⟨h1,h2⟩ ⟨by omega,by omega⟩ hn.2.2 (hL.keep0 hc)
  ·have e:A2b k v=ltr k:=by unfold A2b;rw [if_neg (by omega)]
   rw [e]
   refine (A6g wr k (by omega) (ltr k) v (((hL.keep0 hc).2 wr (Below.refl _ _)).1 k h1 h2)).mono ?_
   rintro e w' ⟨rfl,rfl⟩
   exact ⟨rfl,Chg.refl _ _⟩
 obtain ⟨R,hR⟩:∃ R,A0D nm=R:=⟨_,rfl⟩
 have HR1:Hid (A0Z nm 1=R):=by rw [A5U];exact hR
 rw [hR]
 clear he hL hl hR
 go_enter Tryz.func97,Tryz.ntmps97
 go_wp2
 go_loopw [4,5,6] (fun iv _ _ wr=>∃ k:Nat,1≤k∧k≤5∧iv=.int .i64 k∧Hid (Chg (fun _=>False) w wr)∧Hid (A0Z nm k=R)) (fun iv _ _ _=>5 - (intOf iv).toNat)
 case atStart=>exact ⟨1,by omega,by omega,rfl,Chg.refl _ _,HR1.out⟩
 case round=>
  obtain ⟨k,hk1,hk2,rfl,hc,HRk⟩:=hrel
  by_cases hk:k<5
  ·have ck:=CE.out wr hc.out k hk1 (by omega)
   have TPk:=A0b (TP.out wr k)
   have ATk:=A0b (AT.out wr hc.out k)
   have hk0:(0:Int)≤(k:Int):=Int.natCast_nonneg _
   have hk5:(k:Int)<5:=by omega
   obtain ⟨tr,htr⟩:∃ tr,Lib.trimPrefix nm (ltr k)=tr:=⟨_,rfl⟩
   have HTR:=A0b htr
   rw [htr] at TPk ATk
   clear htr TP AT CE HR1
   go_wp2_with (first | (go_at_call 132;refine TPk.out.mono ?_;rintro e w1 ⟨rfl,rfl⟩) | (go_at_call 131;fail))
   refine ATk.out.mono ?_
   rintro e w1 ⟨v,er,rfl,hv,hc1⟩
   have TRY:=B1Q (k:=k) ⟨hk1,by omega⟩ (by rw [HTR.out];exact hv)
   have HC1:Hid (Chg (fun _=>False) w w1):=hc.out.trans hc1 fun _ h _=>h
   have NOk:=A0b (NO.out w1 k v HC1.out hk1 (by omega))
   obtain ⟨nb,hnb⟩:∃ nb,A0W v=nb:=⟨_,rfl⟩
   obtain ⟨kb,hkb⟩:∃ kb,decide ((k:Int)=1∨(k:Int)=2)=kb:=⟨_,rfl⟩
   rw [hnb,hkb] at TRY NOk
   have IN:Hid (∀ wr,Calls Tryz.prog 128 #[.int .i64 v] wr fun e w'=>e=.returned (.bool nb)∧wr=w'):=fun wr=>by rw [← hnb];exact A4Z wr v
   have ID:Hid (∀ wr,Calls Tryz.prog 133 #[.int .i64 k] wr fun e w'=>e=.returned (.bool kb)∧wr=w'):=fun wr=>by rw [← hkb];exact A2L wr k
   obtain ⟨n2,hn2⟩:∃ n2,A2b k v=n2:=⟨_,rfl⟩
   rw [hn2] at TRY NOk
   have HTRY:=A0b TRY
   clear hnb hkb hn2 TRY hv hc1 NO ATk TPk hc
   have NEXT:Hid (¬ (nb=kb∧n2=nm)→A0Z nm (k+1)=R):=fun h=>by have:=HTRY.out;rw [if_neg h] at this;rw [← this];exact HRk.out
   have HIT:Hid (nb=kb∧n2=nm→R=((k:Int),v)):=fun h=>by have:=HTRY.out;rw [if_pos h] at this;rw [← HRk.out];exact this
   clear HTRY HRk
   by_cases hb:nb=kb
   ·subst hb
    have hbb:(nb == nb)=true:=beq_self_eq_true nb
    have NOl:=A0b (NOk.out rfl)
    clear NOk
    by_cases h3:n2=nm
    ·subst h3
     have hR2:=HIT.out ⟨rfl,rfl⟩
     subst hR2
     have hb:=beq_self_eq_true n2
     go_wp2_with (first | (go_at_call 128;refine (IN.out _).mono ?_;rintro e w2 ⟨rfl,rfl⟩) | (go_at_call 133;refine (ID.out _).mono ?_;rintro e w2 ⟨rfl,rfl⟩) | (go_at_call 134;refine NOl.out.mono ?_;rintro e w2 ⟨rfl,hc2⟩;have HC2:=A0b hc2;clear hc2))
     go_ret2
     exact ⟨rfl,HC1.out.trans HC2.out fun _ h _=>h⟩
    ·have hb:(n2 == nm)=false:=beq_eq_false_iff_ne.2 h3
     have hN:=A0b (NEXT.out fun h=>h3 h.2)
     go_wp2_with (first | (go_at_call 128;refine (IN.out _).mono ?_;rintro e w2 ⟨rfl,rfl⟩) | (go_at_call 133;refine (ID.out _).mono ?_;rintro e w2 ⟨rfl,rfl⟩) | (go_at_call 134;refine NOl.out.mono ?_;rintro e w2 ⟨rfl,hc2⟩;have HC2:=A0b hc2;clear hc2))
     go_roundw
     case rel=>exact ⟨k+1,by omega,by omega,by go_num,HC1.out.trans HC2.out fun _ h _=>h,hN.out⟩
     case measure=>simp [intOf];omega
   ·have hN:=A0b (NEXT.out fun h=>hb h.1)
    have hbb:(nb == kb)=false:=beq_eq_false_iff_ne.2 hb
    clear NOk HIT NEXT
    go_wp2_with (first | (go_at_call 128;refine (IN.out _).mono ?_;rintro e w2 ⟨rfl,rfl⟩) | (go_at_call 133;refine (ID.out _).mono ?_;rintro e w2 ⟨rfl,rfl⟩))
    go_roundw
    case rel=>exact ⟨k+1,by omega,by omega,by go_num,HC1.out,hN.out⟩
    case measure=>simp [intOf];omega
  ·obtain rfl:k=5:=by omega
   have hR2:R=(0,0):=by rw [← HRk.out,A6f]
   subst hR2
   go_wp2
   go_ret2
   exact ⟨rfl,hc.out⟩
end
end Go.Proofs.YtodcnkbblippnaaGreatDoor
namespace Go.Proofs.YtodcnkbblippnaaGreatDoor
abbrev Pt:=Int × Int
def A2w:List Pt→Int→Int→List Pt
 | [],t,v=>[(t,v)]
 | (a,b):: r,t,v=>if a<t then (a,b):: A2w r t v else if a=t then (t,v):: r else (t,v):: (a,b):: r
def A1z (l:List Pt):Prop:=l.Pairwise fun x y=>x.1<y.1
theorem B4p {l:List Pt} {t v:Int} {x:Pt} (h:x∈A2w l t v):x=(t,v)∨x∈l:=by
 induction l with
 | nil=>simp [A2w] at h;exact .inl h
 | cons e r ih=>
  obtain ⟨a,b⟩:=e
  simp only [A2w] at h
  split at h
  ·rcases List.mem_cons.1 h with h | h
   ·exact .inr (by simp [h])
   ·rcases ih h with h | h
    ·exact .inl h
    ·exact .inr (List.mem_cons_of_mem _ h)
  ·split at h
   ·rcases List.mem_cons.1 h with h | h
    ·exact .inl h
    ·exact .inr (List.mem_cons_of_mem _ h)
   ·rcases List.mem_cons.1 h with h | h
    ·exact .inl h
    ·exact .inr h
theorem A3a {l:List Pt} (h:A1z l) (t v:Int):A1z (A2w l t v):=by
 induction l with
 | nil=>simp [A2w,A1z]
 | cons e r ih=>
  obtain ⟨a,b⟩:=e
  have h':=List.pairwise_cons.1 h
  simp only [A2w]
  split
  ·rename_i hlt
   refine List.pairwise_cons.2 ⟨fun x hx=>?_,ih h'.2⟩
   rcases B4p hx with rfl | hx
   ·exact hlt
   ·exact h'.1 x hx
  ·rename_i hlt
   split
   ·rename_i he
    subst he
    exact List.pairwise_cons.2 ⟨fun x hx=>h'.1 x hx,h'.2⟩
   ·rename_i he
    refine List.pairwise_cons.2 ⟨fun x hx=>?_,h⟩
    rcases List.mem_cons.1 hx with rfl | hx
    ·show t<a;omega
    ·have:=h'.1 x hx;show t<x.1;simp only at this;omega
def A1H (l:List Pt) (t:Int):Nat:=(l.takeWhile fun x=>decide (x.1<t)).length
theorem A4p (l:List Pt) (t:Int):A1H l t≤l.length:=by
 unfold A1H;exact (List.takeWhile_sublist _).length_le
theorem A4S {l:List Pt} {t:Int} {i:Nat} (h:i<A1H l t) (hl:i<l.length):(l[i]'hl).1<t:=by
 unfold A1H at h
 induction l generalizing i with
 | nil=>simp at hl
 | cons e r ih=>
  by_cases he:e.1<t
  ·simp only [List.takeWhile_cons,he,decide_true,if_true,List.length_cons] at h
   cases i with
   | zero=>exact he
   | succ i=>simp only [List.getElem_cons_succ];exact ih (by omega) _
  ·simp [he] at h
theorem A5V {l:List Pt} (hs:A1z l) {t:Int} {i:Nat} (h:A1H l t≤i) (hl:i<l.length):t≤(l[i]'hl).1:=by
 unfold A1H at h
 induction l generalizing i with
 | nil=>simp at hl
 | cons e r ih=>
  have hs':=List.pairwise_cons.1 hs
  by_cases he:e.1<t
  ·simp only [List.takeWhile_cons,he,decide_true,if_true,List.length_cons] at h
   cases i with
   | zero=>omega
   | succ i=>simp only [List.getElem_cons_succ];exact ih hs'.2 (by omega) _
  ·cases i with
   | zero=>simp only [List.getElem_cons_zero];omega
   | succ i=>
    have:=hs'.1 (r[i]'(by simpa using hl)) (List.getElem_mem _)
    simp only [List.getElem_cons_succ];omega
theorem A3l {l:List Pt} (hs:A1z l) {t:Int} {k:Nat} (hk:k≤l.length) (h1:∀ i (hi:i<l.length),i<k→(l[i]'hi).1<t) (h2:∀ i (hi:i<l.length),k≤i→t≤(l[i]'hi).1):A1H l t=k:=by
 rcases Nat.lt_trichotomy (A1H l t) k with h | h | h
 ·have hl:A1H l t<l.length:=by omega
  have:=h1 _ hl h
  have:=A5V hs (Nat.le_refl (A1H l t)) hl
  omega
 ·exact h
 ·have hp:=A4p l t
  have hl:k<l.length:=by omega
  have:=A4S h hl
  have:=h2 k hl (Nat.le_refl k)
  omega
theorem A8R (l:List Pt) (t v:Int):A2w l t v=l.take (A1H l t) ++ (t,v):: (if (l[A1H l t]?).any (fun x=>x.1 == t) then l.drop (A1H l t+1) else l.drop (A1H l t)):=by
 unfold A1H
 induction l with
 | nil=>simp [A2w]
 | cons e r ih=>
  obtain ⟨a,b⟩:=e
  simp only [A2w]
  by_cases he:a<t
  ·simp only [he,if_true,List.takeWhile_cons,decide_true,List.length_cons,List.take_succ_cons,List.drop_succ_cons,List.getElem?_cons_succ,List.cons_append,ih]
  ·by_cases hq:a=t
   ·subst hq;simp
   ·simp [he,hq]
theorem A5A {l:List Pt} (hs:A1z l) (p:Int→Bool) (t v:Int):(A2w l t v).filter (fun x=>p x.1)=if p t then A2w (l.filter fun x=>p x.1) t v else l.filter (fun x=>p x.1):=by
 induction l with
 | nil=>by_cases hp:p t <;> simp [A2w,hp]
 | cons e r ih=>
  obtain ⟨a,b⟩:=e
  have hs':=List.pairwise_cons.1 hs
  have ih:=ih hs'.2
  simp only [A2w]
  by_cases he:a<t
  ·simp only [he,if_true,List.filter_cons,ih]
   by_cases hp:p t <;> by_cases ha:p a <;> simp [hp,ha,A2w,he]
  ·by_cases hq:a=t
   ·subst hq
    simp only [he,if_false,if_true,List.filter_cons]
    by_cases hp:p a <;> simp [hp,A2w]
   ·simp only [he,hq,if_false,List.filter_cons]
    by_cases hp:p t
    ·by_cases ha:p a
     ·simp [hp,ha,A2w,he,hq]
     ·simp only [hp,ha,if_true]
      have hall:∀ x∈r.filter (fun x=>p x.1),t<x.1:=fun x hx=>by
       have:=hs'.1 x (List.mem_filter.1 hx).1
       simp only at this;omega
      cases hr:r.filter (fun x=>p x.1) with
      | nil=>simp [A2w]
      | cons y ys=>
       obtain ⟨c,d⟩:=y
       have:=hall (c,d) (by rw [hr];simp)
       simp only at this
       have h1:¬ c<t:=by omega
       have h2:¬ c=t:=by omega
       simp [A2w,h1,h2]
    ·by_cases ha:p a <;> simp [hp,ha]
theorem A1z.drop {l:List Pt} (h:A1z l) (k:Nat):A1z (l.drop k):=List.Pairwise.sublist (List.drop_sublist k l) h
theorem A7W {l:List Pt} (hs:A1z l) (a b:Int):l.filter (fun x=>decide (a≤x.1) && decide (x.1<b))=(l.take (A1H l b)).drop (A1H l a):=by
 unfold A1H
 induction l with
 | nil=>simp
 | cons e r ih=>
  have hs':=List.pairwise_cons.1 hs
  have ih:=ih hs'.2
  by_cases hb:e.1<b
  ·by_cases ha:e.1<a
   ·have:¬ a≤e.1:=by omega
    simp [ha,hb,this,ih]
   ·have h1:a≤e.1:=by omega
    have hz:r.takeWhile (fun x=>decide (x.1<a)) = []:=by
     cases r with
     | nil=>rfl
     | cons y ys=>have:=hs'.1 y (by simp);rw [List.takeWhile_cons];have:¬ y.1<a:=by omega
                  simp [this]
    simp only [hz,List.length_nil,List.drop_zero] at ih
    simp [ha,hb,h1,ih]
  ·have hf:∀ x∈r,¬ x.1<b:=fun x hx=>by have:=hs'.1 x hx;omega
   have:r.filter (fun x=>decide (a≤x.1) && decide (x.1<b)) = []:=by
    rw [List.filter_eq_nil_iff];intro x hx;have:=hf x hx;simp [this]
   simp [hb,this]
end Go.Proofs.YtodcnkbblippnaaGreatDoor
namespace Go.Proofs.YtodcnkbblippnaaGreatDoor
open Go.RowKit
attribute [local go_sem ↓] Go.wp_at_zero Go.wp_at_succ
def A2U (t life clock:Int):Bool:=decide (t+life>clock)
def A0P (x:Int):Prop:=-9223372036854775808≤x∧x≤9223372036854775807
set_option maxRecDepth 100000 in
set_option maxHeartbeats 400000 in
theorem B2J (t life clock:Int) (w:World) (ht:A0P t) (hl:1≤life∧life≤4611686018427387904) (hc:A0P clock) (hg:clock≤9223372036854775807):
 Calls Tryz.prog 123 #[.int .i64 t,.int .i64 life,.int .i64 clock] w fun e w'=>e=.returned (.bool (A2U t life clock))∧w=w':=by
 obtain ⟨t1,t2⟩:=ht
 obtain ⟨l1,l2⟩:=hl
 obtain ⟨c1,c2⟩:=hc
 by_cases h:9223372036854775807 - life<t
 ·have q:Hid (A2U t life clock=true):=by unfold Hid A2U;simp;omega
  have hd:decide (9223372036854775807 - life<t)=true:=by simpa using h
  go_enter Tryz.func123,Tryz.ntmps123
  go_wp2
  go_ret
  rw [q.out]
  exact ⟨rfl,rfl⟩
 ·have h':t≤9223372036854775807 - life:=by omega
  have hw:t+life≤9223372036854775807:=by omega
  by_cases h2:clock<t+life
  ·have q:Hid (A2U t life clock=true):=by unfold Hid A2U;simp;omega
   go_enter Tryz.func123,Tryz.ntmps123
   go_wp2
   go_ret
   rw [q.out]
   exact ⟨rfl,rfl⟩
  ·have q:Hid (A2U t life clock=false):=by unfold Hid A2U;simp;omega
   have h2':t+life≤clock:=by omega
   go_enter Tryz.func123,Tryz.ntmps123
   go_wp2
   go_ret
   rw [q.out]
   exact ⟨rfl,rfl⟩
def A0M (clock ticks:Int):Int:=if clock>9223372036854775807 - ticks then 9223372036854775807 else clock+ticks
set_option maxRecDepth 100000 in
set_option maxHeartbeats 400000 in
theorem A4X (clock ticks:Int) (w:World) (hc:A0P clock) (ht:0≤ticks∧ticks≤9223372036854775807):
 Calls Tryz.prog 44 #[.int .i64 clock,.int .i64 ticks] w fun e w'=>e=.returned (.int .i64 (A0M clock ticks))∧w=w':=by
 obtain ⟨c1,c2⟩:=hc
 obtain ⟨t1,t2⟩:=ht
 by_cases h:9223372036854775807 - ticks<clock
 ·have q:Hid (A0M clock ticks=9223372036854775807):=by unfold Hid A0M;rw [if_pos h]
  go_enter Tryz.func44,Tryz.ntmps44
  go_wp2
  go_ret
  rw [q.out]
  exact ⟨rfl,rfl⟩
 ·have q:Hid (A0M clock ticks=clock+ticks):=by unfold Hid A0M;rw [if_neg h]
  have h1:clock≤9223372036854775807 - ticks:=by omega
  have h2:clock+ticks≤9223372036854775807:=by omega
  have h3 : -9223372036854775808≤clock+ticks:=by omega
  go_enter Tryz.func44,Tryz.ntmps44
  go_wp2
  go_ret
  rw [q.out]
  exact ⟨rfl,rfl⟩
def A4d (s:Int):Bool:=decide (0≤s) && decide (s<8)
set_option maxRecDepth 100000 in
set_option maxHeartbeats 400000 in
theorem A2u (s:Int) (w:World):Calls Tryz.prog 91 #[.int .i64 s] w fun e w'=>e=.returned (.bool (A4d s))∧w=w':=by
 by_cases h:0≤s
 ·by_cases h2:s<8
  ·have q:Hid (A4d s=true):=by unfold Hid A4d;simp [h,h2]
   go_enter Tryz.func91,Tryz.ntmps91
   go_wp2
   go_ret
   rw [q.out];exact ⟨rfl,rfl⟩
  ·have q:Hid (A4d s=false):=by unfold Hid A4d;simp [h2]
   have h2':8≤s:=by omega
   go_enter Tryz.func91,Tryz.ntmps91
   go_wp2
   go_ret
   rw [q.out];exact ⟨rfl,rfl⟩
 ·have q:Hid (A4d s=false):=by unfold Hid A4d;simp [h]
  have h':s<0:=by omega
  go_enter Tryz.func91,Tryz.ntmps91
  go_wp2
  go_ret
  rw [q.out];exact ⟨rfl,rfl⟩
end Go.Proofs.YtodcnkbblippnaaGreatDoor
namespace Go.Proofs.YtodcnkbblippnaaGreatDoor
open Go.ChangeShapes Go.WideShapes Go.ChangeAt Go.RowKit
set_option maxRecDepth 100000
theorem Tryz.own:ownKnob Tryz.prog.godebug=none:=by kernel_rfl
theorem Tryz.gLet:Tryz.prog.globalNamed "tides/files.letters" = some 0:=by kernel_rfl
theorem Tryz.gPow:Tryz.prog.globalNamed "internal/strconv.uint64pow10" = some 3:=by kernel_rfl
theorem Tryz.gRng:Tryz.prog.globalNamed "strconv.ErrRange" = some 2:=by kernel_rfl
theorem Tryz.gSyn:Tryz.prog.globalNamed "strconv.ErrSyntax" = some 1:=by kernel_rfl
theorem Tryz.tLet:(Tryz.prog.globals[0]?).map (·.type)=some 201:=by kernel_rfl
theorem Tryz.tPow:(Tryz.prog.globals[3]?).map (·.type)=some 333:=by kernel_rfl
theorem Tryz.tRng:(Tryz.prog.globals[2]?).map (·.type)=some 197:=by kernel_rfl
theorem Tryz.tSyn:(Tryz.prog.globals[1]?).map (·.type)=some 197:=by kernel_rfl
theorem Tryz.cellsLet:Tryz.prog.cellsOf 201=5:=by kernel_rfl
theorem Tryz.cellsStr:Tryz.prog.cellsOf 9=1:=by kernel_rfl
theorem Tryz.cellsPow:Tryz.prog.cellsOf 333=20:=by kernel_rfl
theorem Tryz.cellsU64:Tryz.prog.cellsOf 275=1:=by kernel_rfl
theorem Tryz.cellsInt:Tryz.prog.cellsOf 3=1:=by kernel_rfl
theorem Tryz.cellsErr:Tryz.prog.cellsOf 325=1:=by kernel_rfl
theorem Tryz.laidOut:laidOutB Tryz.prog=true:=by kernel_rfl
theorem Tryz.star : "*" ++ "errors.errorString" = "*errors.errorString":=by decide
theorem Tryz.rowErr (u:TypeId) (h:Tryz.prog.typeName? 3 u=some "*errors.errorString"):u=323:=
 typeName_ptr_named (nm:="errors.errorString") (by rw [Tryz.star];kernel_rfl) (by kernel_rfl) (by decide) u (by rw [Tryz.star];exact h)
theorem A8c {fuel:Nat} {w:World} {cs:List Value} {s:List (List UInt8)} {p:List MemPlace} (h:DataW.trod (fun _=>()) Tryz.prog w 0 (fun _=>true) false fuel 201 cs=some (.agg (s.map fun x=>.lit (.string x)),p)) (k:Nat) (hk:k<5) (x:List UInt8) (hx:s[k]?=some x):cs[k]?=some (.string ⟨x.toArray⟩):=by
 cases fuel with
 | zero=>simp [DataW.trod] at h
 | succ fuel=>
  simp only [DataW.trod,Tryz.underlying201,Tryz.cellsStr,Tryz.cellsLet,Nat.mul_one] at h
  split at h
  ·obtain ⟨xs,hm,hq⟩:=Option.map_eq_some_iff.1 h
   have hxs:xs.map (·.1)=s.map fun x=>DataW.lit (.string x):=by
    have:=congrArg Prod.fst hq
    simpa using this
   obtain ⟨b,hb,hf⟩:=Lib.mapM_at hm k k (by simp [hk])
   obtain ⟨s',hc,rfl,_⟩:=DataW.trod_string Tryz.underlying9 hf
   have h1:cs[k]?=some (.string s'):=by
    have:=congrArg (·[0]?) hc
    simpa [List.getElem?_take,List.getElem?_drop] using this
   have h2:(xs.map (·.1))[k]?=some (DataW.lit (.string s'.data.toList)):=by simp [hb]
   rw [hxs] at h2
   simp [hx] at h2
   rw [h1,h2]
  ·cases h
theorem B1G {W:World} (h:laidMetH Tryz.prog Rows.writesUptoRow.laid W):A2i W.heap.size W:=by
 have h0:laidMet Tryz.prog Rows.writesUptoRow.laid W:=h
 have h3:laidMet Tryz.prog (("internal/strconv.uint64pow10",Lib.tabData .u64 Lib.pow10Tab):: [("strconv.ErrRange",Rows.laid_strconv_ErrRange),("strconv.ErrSyntax",Rows.laid_strconv_ErrSyntax),("tides/files.letters",Rows.laid_tides_files_letters)]) W:=laidMet.tail (laidMet.tail h0)
 have hp:Lib.TabIs Tryz.prog W "internal/strconv.uint64pow10" .u64 Lib.pow10Tab:=Lib.tabIs_of_head Tryz.gPow Tryz.tPow Tryz.underlying333 Tryz.underlying275 Tryz.cellsU64 Tryz.cellsPow h3
 have h6:laidMet Tryz.prog [("tides/files.letters",Rows.laid_tides_files_letters)] W:=laidMet.tail (laidMet.tail (laidMet.tail h3))
 obtain ⟨ps,⟨g',t',cs,fuel,p,q,hg',ht',hvar,hd,_,_⟩,_⟩:=h6
 obtain rfl:=Option.some.inj (Tryz.gLet.symm.trans hg')
 obtain rfl:=Option.some.inj (Tryz.tLet.symm.trans ht')
 have hl:=A8c (s:=[[],[108],[115],[105],[100]]) hd
 have hlc:∀ k:Nat,1≤k→k≤4→W.cell? ⟨0,k,none⟩=some (.string ⟨(ltr k).toArray⟩):=fun k h1 h2=>by
  rw [World.var?_cell Tryz.gLet hvar k]
  have:k=1∨k=2∨k=3∨k=4:=by omega
  rcases this with rfl | rfl | rfl | rfl
  ·simpa [ltr] using hl 1 (by omega) _ rfl
  ·simpa [ltr] using hl 2 (by omega) _ rfl
  ·simpa [ltr] using hl 3 (by omega) _ rfl
  ·simpa [ltr] using hl 4 (by omega) _ rfl
 have hlb:=World.block_lt_of_cell? W _ (hlc 1 (by omega) (by omega))
 have hpc:=hp.cell Tryz.gPow 0 (by decide)
 have hpb:=World.block_lt_of_cell? W _ hpc
 refine ⟨Nat.le_refl _,fun w' hb=>⟨fun k h1 h2=>?_,?_⟩⟩
 ·rw [← hlc k h1 h2];exact hb.cell hlb
 ·unfold Lib.TabIs at hp ⊢
  rw [← hp]
  unfold World.var?
  rw [Tryz.gPow]
  simp only [Option.bind_some]
  rw [hb.block _ hpb]
theorem B2X {W:World} (h:laidMetH Tryz.prog Rows.writesUptoRow.laid W):B3p W:=by
 have h0:laidMet Tryz.prog Rows.writesUptoRow.laid W:=h
 have h4:laidMet Tryz.prog (("strconv.ErrRange",Rows.laid_strconv_ErrRange):: [("strconv.ErrSyntax",Rows.laid_strconv_ErrSyntax),("tides/files.letters",Rows.laid_tides_files_letters)]) W:=laidMet.tail (laidMet.tail (laidMet.tail h0))
 have h5:laidMet Tryz.prog (("strconv.ErrSyntax",Rows.laid_strconv_ErrSyntax):: [("tides/files.letters",Rows.laid_tides_files_letters)]) W:=laidMet.tail h4
 obtain ⟨a0,_,hva,_⟩:=laid_sentinel h4 Tryz.gRng Tryz.tRng Tryz.underlying197 Tryz.rowErr Tryz.underlying323 Tryz.underlying325 rfl rfl Tryz.underlying9 Tryz.cellsErr Tryz.cellsStr
 obtain ⟨b0,_,hvb,_⟩:=laid_sentinel h5 Tryz.gSyn Tryz.tSyn Tryz.underlying197 Tryz.rowErr Tryz.underlying323 Tryz.underlying325 rfl rfl Tryz.underlying9 Tryz.cellsErr Tryz.cellsStr
 exact ⟨⟨_,by simpa using World.var?_cell Tryz.gSyn hvb 0,.inr ⟨_,_,rfl⟩⟩,_,by simpa using World.var?_cell Tryz.gRng hva 0,.inr ⟨_,_,rfl⟩⟩
theorem A7z {z:Int} (h:(Lit.int .i64 z).wf=true):A0P z:=by
 simp [Lit.wf] at h
 have e:IntKind.i64.min = -9223372036854775808:=rfl
 rw [e] at h
 exact h
abbrev B6d:ByteArray:={ data:=#[105,110,118,97,108,105,100,32,115,121,110,116,97,120] }
abbrev B6a:ByteArray:={ data:=#[118,97,108,117,101,32,111,117,116,32,111,102,32,114,97,110,103,101] }
def B5o (v:Array Value):Obj→Obj
 | .cells _ t frozen=>.cells v t frozen
 | o=>o
def A4t (os:Os) (W:World):Prop:=W =
 let w0:=World.holding Tryz.prog os ⟨#[.cells #[.string B6d] 325,.cells #[.string B6a] 325],#[],[]⟩
 let h0:=w0.heap
 let h1:=h0.modify 0 (B5o #[.string ⟨#[]⟩,.string ⟨#[108]⟩,.string ⟨#[115]⟩,.string ⟨#[105]⟩,.string ⟨#[100]⟩])
 let h2:=h1.modify 1 (B5o #[.iface 323 (.pointer (some ⟨(World.holding Tryz.prog default ⟨#[],#[],[]⟩).heap.size,0,none⟩))])
 let h3:=h2.modify 2 (B5o #[.iface 323 (.pointer (some ⟨(World.holding Tryz.prog default ⟨#[],#[],[]⟩).heap.size+1,0,none⟩))])
 let h4:=h3.modify 3 (B5o #[.int .u64 1,.int .u64 10,.int .u64 100,.int .u64 1000,.int .u64 10000,.int .u64 100000,.int .u64 1000000,.int .u64 10000000,.int .u64 100000000,.int .u64 1000000000,.int .u64 10000000000,.int .u64 100000000000,.int .u64 1000000000000,.int .u64 10000000000000,.int .u64 100000000000000,.int .u64 1000000000000000,.int .u64 10000000000000000,.int .u64 100000000000000000,.int .u64 1000000000000000000,.int .u64 10000000000000000000])
 let h5:=h4.modify 5 (B5o #[.int .u8 0,.int .u8 1,.int .u8 28,.int .u8 2,.int .u8 29,.int .u8 14,.int .u8 24,.int .u8 3,.int .u8 30,.int .u8 22,.int .u8 20,.int .u8 15,.int .u8 25,.int .u8 17,.int .u8 4,.int .u8 8,.int .u8 31,.int .u8 27,.int .u8 13,.int .u8 23,.int .u8 21,.int .u8 19,.int .u8 16,.int .u8 7,.int .u8 26,.int .u8 12,.int .u8 18,.int .u8 6,.int .u8 11,.int .u8 5,.int .u8 10,.int .u8 9])
 let h6:=h5.modify 6 (B5o #[.int .u8 0,.int .u8 1,.int .u8 56,.int .u8 2,.int .u8 57,.int .u8 49,.int .u8 28,.int .u8 3,.int .u8 61,.int .u8 58,.int .u8 42,.int .u8 50,.int .u8 38,.int .u8 29,.int .u8 17,.int .u8 4,.int .u8 62,.int .u8 47,.int .u8 59,.int .u8 36,.int .u8 45,.int .u8 43,.int .u8 51,.int .u8 22,.int .u8 53,.int .u8 39,.int .u8 33,.int .u8 30,.int .u8 24,.int .u8 18,.int .u8 12,.int .u8 5,.int .u8 63,.int .u8 55,.int .u8 48,.int .u8 27,.int .u8 60,.int .u8 41,.int .u8 37,.int .u8 16,.int .u8 46,.int .u8 35,.int .u8 44,.int .u8 21,.int .u8 52,.int .u8 32,.int .u8 23,.int .u8 11,.int .u8 54,.int .u8 26,.int .u8 40,.int .u8 15,.int .u8 34,.int .u8 20,.int .u8 31,.int .u8 10,.int .u8 25,.int .u8 14,.int .u8 19,.int .u8 9,.int .u8 13,.int .u8 8,.int .u8 7,.int .u8 6])
 { w0 with heap:=h6 }
theorem B4r (os:Os) (W:World) (h:A4t os W) (args:Array Value):laidMet Tryz.prog Rows.writesUptoRow.laid (W.forCall (fun _ _=>0) ⟨#[],args,[]⟩).memory:=by
 unfold A4t at h
 subst h
 exact laidMet_of_run' 8 (by kernel_rfl) (by kernel_rfl)
end Go.Proofs.YtodcnkbblippnaaGreatDoor
namespace Go.Proofs.YtodcnkbblippnaaGreatDoor
open Go.RowKit
set_option maxRecDepth 100000 in
set_option maxHeartbeats 1000000 in
theorem A2H (w:World) (x:Int):Calls Tryz.prog 63 #[.int .i64 x] w fun e w'=>e=.returned (.bool (decide (0≤x∧x<8)))∧w=w':=by
 obtain ⟨q,hq⟩:∃ q,decide (0≤x∧x<8)=q:=⟨_,rfl⟩
 rw [hq]
 have HQ:=A0b hq
 clear hq
 by_cases h1:0≤x <;> by_cases h2:x<8
 all_goals try (exfalso;omega)
 all_goals
  go_enter Tryz.func63,Tryz.ntmps63
  go_wp2
  go_ret
  refine ⟨?_,rfl⟩
  rw [← HQ.out]
  simp
  try omega
set_option maxRecDepth 100000 in
set_option maxHeartbeats 1000000 in
theorem A2O (w:World) (x:Int):Calls Tryz.prog 58 #[.int .i64 x] w fun e w'=>e=.returned (.bool (decide (1≤x∧x≤4611686018427387904)))∧w=w':=by
 obtain ⟨q,hq⟩:∃ q,decide (1≤x∧x≤4611686018427387904)=q:=⟨_,rfl⟩
 rw [hq]
 have HQ:=A0b hq
 clear hq
 by_cases h1:1≤x <;> by_cases h2:x≤4611686018427387904
 all_goals try (exfalso;omega)
 all_goals
  go_enter Tryz.func58,Tryz.ntmps58
  go_wp2
  go_ret
  refine ⟨?_,rfl⟩
  rw [← HQ.out]
  simp
  try omega
def A0m (clock life:Int):Int:=if clock < -9223372036854775808+life then -9223372036854775808 else clock - life+1
theorem A8w (clock life t:Int) (ht:A0P t):decide (A0m clock life≤t)=A2U t life clock:=by
 obtain ⟨t1,t2⟩:=ht
 unfold A0m A2U
 split <;> simp <;> omega
set_option maxRecDepth 100000 in
set_option maxHeartbeats 1000000 in
theorem A4N (w:World) (sb:Nat) (clock life:Int) (c3:w.cell? ⟨sb,3,none⟩=some (.int .i64 life)) (c4:w.cell? ⟨sb,5,none⟩=some (.int .i64 clock)) (hl:1≤life∧life≤4611686018427387904) (hc:A0P clock):
 Calls Tryz.prog 71 #[.pointer (some ⟨sb,0,none⟩)] w fun e w'=>e=.returned (.int .i64 (A0m clock life))∧Chg (fun _=>False) w w':=by
 obtain ⟨l1,l2⟩:=hl
 obtain ⟨k1,k2⟩:=hc
 have ew:IntKind.i64.wrap (-9223372036854775808+life) = -9223372036854775808+life:=by simp [IntKind.wrap,IntKind.bits,IntKind.signed];omega
 go_enter Tryz.func71,Tryz.ntmps71
 go_wp2
 refine A0e (fun w'=>w'.cell? ⟨sb,3,none⟩=some (.int .i64 life)∧w'.cell? ⟨sb,5,none⟩=some (.int .i64 clock)) 9
  [(0,true),(1,true),(2,true),(3,true),(4,true),(5,true),(6,true),(7,true),(8,true)] (by kernel_rfl) (by kernel_rfl) (fun _ _ _ _ _ h=>h) ⟨c3,c4⟩ ?_
 iterate 9 (refine A0d (v:=?_) rfl (by rfl) ?_ ?_;rotate_left;(· (intro w' hS;(try dsimp only at hS);go_simp;try with_reducible rfl));(try simp only [Act.put,List.setIfInBounds_toArray,List.set_cons_zero,List.set_cons_succ,List.getElem_toArray,List.getElem_cons_zero,List.getElem_cons_succ]))
 refine A0k ?_
 simp only [List.drop_succ_cons,List.drop_zero]
 have d3:w.drew.cell? ⟨sb,3,none⟩=some (.int .i64 life):=c3
 have d4:w.drew.cell? ⟨sb,5,none⟩=some (.int .i64 clock):=c4
 have HC:Hid (Chg (fun _=>False) w w.drew):=(Chg.refl _ w).drew
 generalize w.drew=w1 at d3 d4 HC ⊢
 clear c3 c4
 by_cases h:clock < -9223372036854775808+life
 ·have hq:Hid (A0m clock life = -9223372036854775808):=by unfold Hid A0m;rw [if_pos h]
  go_wp2
  go_ret
  rw [hq.out]
  exact ⟨rfl,HC.out⟩
 ·have hq:Hid (A0m clock life=clock - life+1):=by unfold Hid A0m;rw [if_neg h]
  have ew2:IntKind.i64.wrap (clock - life)=clock - life:=by simp [IntKind.wrap,IntKind.bits,IntKind.signed];omega
  have ew3:IntKind.i64.wrap (clock - life+1)=clock - life+1:=by simp [IntKind.wrap,IntKind.bits,IntKind.signed];omega
  go_wp2
  refine A0e (fun w'=>w'.cell? ⟨sb,3,none⟩=some (.int .i64 life)∧w'.cell? ⟨sb,5,none⟩=some (.int .i64 clock)) 10
   [(0,true),(1,true),(2,true),(3,true),(4,true),(5,true),(6,true),(7,true),(8,true),(9,true)] (by kernel_rfl) (by kernel_rfl) (fun _ _ _ _ _ h=>h) ⟨d3,d4⟩ ?_
  iterate 10 (refine A0d (v:=?_) rfl (by rfl) ?_ ?_;rotate_left;(· (intro w' hS;(try dsimp only at hS);go_simp;try with_reducible rfl));(try simp only [Act.put,List.setIfInBounds_toArray,List.set_cons_zero,List.set_cons_succ,List.getElem_toArray,List.getElem_cons_zero,List.getElem_cons_succ]))
  refine A0k ?_
  simp only [List.drop_succ_cons,List.drop_zero]
  go_wp2
  go_ret
  rw [hq.out]
  exact ⟨rfl,HC.out.drew⟩
end Go.Proofs.YtodcnkbblippnaaGreatDoor
namespace Go.Proofs.YtodcnkbblippnaaGreatDoor
open Go.RowKit
section
variable {P:Program}
theorem A3P (w:World) (dT sT ty elem:TypeId) (i:TypeInfo) (size:Nat) (g o dLen dCap:Nat) (a:Addr) (sLen sCap k:Nat) (cur:Array Value) (t:TypeId) (cs:List Value)
 (hu:P.underlying dT=some (.slice elem)) (hi:P.info? elem=some i) (hsize:i.size=size) (hg:w.heap[g]?=some (.cells cur t (0,0))) (hn:Nat.min sLen dLen=k) (hcl:cs.length=k*size)
 (hsrc:∀ j v,cs[j]?=some v→w.cell? (a.add j)=some v) (hfit:o+cs.length≤cur.size) (h1:∀ v∈cs,v.oneCell'=true):
 (Builtin.copy_ #[dT,sT] ty #[.slice (some ⟨g,o,none⟩) dLen dCap,.slice (some a) sLen sCap]).run P w =
  .ok (goInt k) (w.setRow g (cur.toList.take o ++ cs ++ cur.toList.drop (o+cs.length)).toArray):=by
 subst hsize
 have hf:=run_firstCells_some (P:=P) w i.size k a sLen sCap cs hcl hsrc
 have hst:=run_storeCells_at P g o t cs 0 cur w hg (by simpa using hfit) h1
 simp only [Nat.add_zero] at hst
 simp [Builtin.copy_,run_underlying hu,Builtin.lenOf,sizeOf,typeInfo,hi,hn,hf,hst]
theorem A3D (w:World) (t tn ty e:TypeId) (i:TypeInfo) (z:Value) (kn:IntKind) (ht:P.underlying t=some (.slice e)) (htn:P.underlying tn=some (.int kn)) (hi:P.info? e=some i) (hz:i.zero=some z) (hs0:0<i.size)
 (base:Option Addr) (len cap:Nat) (olds:List Value) (hold:(Builtin.firstCells i.size len (.slice base len cap)).run P w.drew=.ok olds.toArray w.drew) (n:Nat) (h0:0<n) (hgrow:cap<len+n)
 (h63:((len+n:Nat):Int)≤9223372036854775807) (h48:n*i.bytes≤281474976710656) (hcap:Builtin.nextslicecap (len+n) cap*i.bytes≤281474976710656):
 (Builtin.append_ #[t,tn] ty #[.slice base len cap,.int .i64 n]).run P w =
  .ok (.slice (some ⟨w.heap.size,0,none⟩) (len+n) (grownCap w (len+n) cap e)) (w.drew.alloc (.cells (olds.toArray ++ Builtin.zeroCells z.cells n ++ Builtin.zeroCells z.cells (grownCap w (len+n) cap e - (len+n))) e)):=by
 have hw:IntKind.i64.wrap (n:Int)=n:=by rw [IntKind.wrap_i64];omega
 have hneg:¬ ((n:Int)<0):=by omega
 have h48i:¬ (281474976710656<(n:Int)*(i.bytes:Int)):=by rw [← Int.natCast_mul];omega
 have hns:¬ (n*i.size=0):=Nat.mul_ne_zero (by omega) (by omega)
 have hroom:¬ (len+n≤cap):=by omega
 have hcap':¬ (281474976710656<Builtin.nextslicecap (len+n) cap*i.bytes):=by omega
 have h63a:¬ (9223372036854775807<(len:Int)+(n:Int)):=by omega
 simp [Builtin.append_,run_underlying ht,run_underlying htn,sizeOf,typeInfo,zeroValue,hi,hz,asInt,asIntOf,hw,hneg,hns,h48i,hroom,hcap',h63a,Question.forced,hold,newRow,grownCap]
theorem A4u {w:World} {base e size n g cap:Nat} {xs:List Value} (h:w.ownsRow base e size (.slice (some ⟨g,0,none⟩) n cap) n xs):∃ cur:Array Value,w.heap[g]?=some (.cells cur e (0,0))∧cur.size=cap*size∧cur.toList.take (n*size)=xs∧n≤cap∧cap≤maxLen:=by
 rcases h.2 with ⟨h1,_⟩ | ⟨g',cap',cur,h1,_,hg,hnc,hcm,hcs,ht⟩
 ·cases h1
 ·cases h1;exact ⟨cur,hg,hcs,ht,hnc,hcm⟩
end
end Go.Proofs.YtodcnkbblippnaaGreatDoor
namespace Go.Proofs.YtodcnkbblippnaaGreatDoor
open Go.RowKit
def A0n:List Pt→List Value
 | []=>[]
 | (t,v):: r=>.int .i64 t :: .int .i64 v :: A0n r
theorem A0C (l:List Pt):(A0n l).length=l.length*2:=by
 induction l with
 | nil=>rfl
 | cons e r ih=>obtain ⟨n,f⟩:=e;simp only [A0n,List.length_cons,ih];omega
theorem A1Q (a b:List Pt):A0n (a ++ b)=A0n a ++ A0n b:=by
 induction a with
 | nil=>rfl
 | cons e r ih=>obtain ⟨n,f⟩:=e;simp [A0n,ih]
theorem A4j (l:List Pt) (k:Nat):(A0n l).take (k*2)=A0n (l.take k):=by
 induction l generalizing k with
 | nil=>simp [A0n]
 | cons e r ih=>
  obtain ⟨n,f⟩:=e
  match k with
  | 0=>simp [A0n]
  | k+1=>rw [show (k+1)*2=k*2+1+1 from by omega];simp [A0n,ih]
theorem A3m (l:List Pt) (k:Nat):(A0n l).drop (k*2)=A0n (l.drop k):=by
 induction l generalizing k with
 | nil=>simp [A0n]
 | cons e r ih=>
  obtain ⟨n,f⟩:=e
  match k with
  | 0=>simp [A0n]
  | k+1=>rw [show (k+1)*2=k*2+1+1 from by omega];simp [A0n,ih]
theorem A5w (l:List Pt) (k:Nat) (h:k<l.length):(A0n l)[k*2]?=some (.int .i64 (l[k]'h).1):=by
 induction l generalizing k with
 | nil=>simp at h
 | cons e r ih=>
  obtain ⟨n,f⟩:=e
  match k with
  | 0=>simp [A0n]
  | k+1=>
   have:=ih k (by simpa using h)
   rw [show (k+1)*2=k*2+1+1 from by omega]
   simpa [A0n] using this
theorem A5t (l:List Pt) (k:Nat) (h:k<l.length):(A0n l)[k*2+1]?=some (.int .i64 (l[k]'h).2):=by
 induction l generalizing k with
 | nil=>simp at h
 | cons e r ih=>
  obtain ⟨n,f⟩:=e
  match k with
  | 0=>simp [A0n]
  | k+1=>
   have:=ih k (by simpa using h)
   rw [show (k+1)*2+1=k*2+1+1+1 from by omega]
   simpa [A0n] using this
theorem A2R (l:List Pt) (k:Nat) (p:Pt) (h:k<l.length):((A0n l).set (k*2) (.int .i64 p.1)).set (k*2+1) (.int .i64 p.2)=A0n (l.set k p):=by
 induction l generalizing k with
 | nil=>simp at h
 | cons e r ih=>
  obtain ⟨n,f⟩:=e
  match k with
  | 0=>simp [A0n]
  | k+1=>
   have:=ih k (by simpa using h)
   rw [show (k+1)*2=k*2+1+1 from by omega]
   simp only [A0n,List.set_cons_succ]
   rw [this]
theorem A9p (l:List Pt) (k:Nat) (v:Int) (h:k<l.length):(A0n l).set (k*2+1) (.int .i64 v)=A0n (l.set k ((l[k]'h).1,v)):=by
 induction l generalizing k with
 | nil=>simp at h
 | cons e r ih=>
  obtain ⟨n,f⟩:=e
  match k with
  | 0=>simp [A0n]
  | k+1=>
   have:=ih k (by simpa using h)
   rw [show (k+1)*2=k*2+1+1 from by omega]
   simp only [A0n,List.set_cons_succ,List.getElem_cons_succ]
   rw [this]
theorem A1E (l:List Pt):∀ u∈A0n l,u.oneCell'=true:=by
 induction l with
 | nil=>simp [A0n]
 | cons e r ih=>
  obtain ⟨n,f⟩:=e
  intro u hu
  simp only [A0n,List.mem_cons] at hu
  rcases hu with rfl | rfl | hu
  ·rfl
  ·rfl
  ·exact ih u hu
def A2r (w:World) (v:Value) (l:List Pt):Prop:=w.ownsRow 0 70 2 v l.length (A0n l)
theorem A2r.cells {w:World} {g n cap:Nat} {l:List Pt} (h:A2r w (.slice (some ⟨g,0,none⟩) n cap) l) (k:Nat) (hk:k<l.length):w.cell? ⟨g,k*2,none⟩=some (.int .i64 (l[k]'hk).1)∧w.cell? ⟨g,k*2+1,none⟩=some (.int .i64 (l[k]'hk).2):=by
 have hn:n=l.length:=by
  obtain ⟨_,_,e,_⟩:=A0g h
  cases e;rfl
 subst hn
 exact ⟨A0j h rfl (A5w l k hk),A0j h rfl (A5t l k hk)⟩
abbrev Pu:=Int × Int × Int
def A0x:List Pu→List Value
 | []=>[]
 | (s,t,v):: r=>.int .i64 s :: .int .i64 t :: .int .i64 v :: A0x r
theorem A0Y (a b:List Pu):A0x (a ++ b)=A0x a ++ A0x b:=by
 induction a with
 | nil=>rfl
 | cons e r ih=>obtain ⟨n,f,g⟩:=e;simp [A0x,ih]
theorem A9a (l:List Pu) (k:Nat):(A0x l).take (k*3)=A0x (l.take k):=by
 induction l generalizing k with
 | nil=>simp [A0x]
 | cons e r ih=>
  obtain ⟨n,f,g⟩:=e
  match k with
  | 0=>simp [A0x]
  | k+1=>rw [show (k+1)*3=k*3+1+1+1 from by omega];simp [A0x,ih]
theorem A2y (l:List Pu) (k:Nat) (h:k<l.length):(A0x l)[k*3]?=some (.int .i64 (l[k]'h).1)∧(A0x l)[k*3+1]?=some (.int .i64 (l[k]'h).2.1)∧(A0x l)[k*3+2]?=some (.int .i64 (l[k]'h).2.2):=by
 induction l generalizing k with
 | nil=>simp at h
 | cons e r ih=>
  obtain ⟨n,f,g⟩:=e
  match k with
  | 0=>simp [A0x]
  | k+1=>
   obtain ⟨h1,h2,h3⟩:=ih k (by simpa using h)
   rw [show (k+1)*3=k*3+1+1+1 from by omega]
   refine ⟨by simpa [A0x] using h1,by simpa [A0x] using h2,by simpa [A0x] using h3⟩
theorem A0G (l:List Pu):∀ u∈A0x l,u.oneCell'=true:=by
 induction l with
 | nil=>simp [A0x]
 | cons e r ih=>
  obtain ⟨n,f,g⟩:=e
  intro u hu
  simp only [A0x,List.mem_cons] at hu
  rcases hu with rfl | rfl | rfl | hu
  ·rfl
  ·rfl
  ·rfl
  ·exact ih u hu
def B1r (w:World) (v:Value) (l:List Pu):Prop:=w.ownsRow 0 141 3 v l.length (A0x l)
theorem B1r.form {w:World} {v:Value} {l:List Pu} (h:B1r w v l):
 ∃ a cap,v=.slice a l.length cap∧l.length≤cap∧cap≤maxLen∧∀ k (hk:k<l.length),∃ g,a=some ⟨g,0,none⟩∧g<w.heap.size∧w.cell? ⟨g,k*3,none⟩=some (.int .i64 (l[k]'hk).1)∧w.cell? ⟨g,k*3+1,none⟩=some (.int .i64 (l[k]'hk).2.1)∧w.cell? ⟨g,k*3+2,none⟩=some (.int .i64 (l[k]'hk).2.2):=by
 rcases A0g h with ⟨a,cap,rfl,h1,h2,h3,_,_⟩
 refine ⟨a,cap,rfl,h1,h2,fun k hk=>?_⟩
 obtain ⟨g,rfl⟩:=h3 (by omega)
 obtain ⟨q1,q2,q3⟩:=A2y l k hk
 exact ⟨g,rfl,A0c h rfl,A0j h rfl q1,A0j h rfl q2,A0j h rfl q3⟩
end Go.Proofs.YtodcnkbblippnaaGreatDoor
namespace Go.Proofs.YtodcnkbblippnaaGreatDoor
open Go.RowKit
attribute [local go_sem ↓] Go.wp_at_zero Go.wp_at_succ
def A4F (x y:Int):Int:=if x<y then -1 else if y<x then 1 else 0
set_option maxRecDepth 100000 in
set_option maxHeartbeats 400000 in
theorem A9u (x y:Int) (w:World):Calls Tryz.prog 130 #[.int .i64 x,.int .i64 y] w fun e w'=>e=.returned (.int .i64 (A4F x y))∧w=w':=by
 by_cases h:x<y
 ·have q:Hid (A4F x y = -1):=by unfold Hid A4F;rw [if_pos h]
  go_enter Tryz.func130,Tryz.ntmps130
  go_wp2
  go_ret
  rw [q.out];exact ⟨rfl,rfl⟩
 ·by_cases h2:y<x
  ·have q:Hid (A4F x y=1):=by unfold Hid A4F;rw [if_neg h,if_pos h2]
   have h':y≤x:=by omega
   go_enter Tryz.func130,Tryz.ntmps130
   go_wp2
   go_ret
   rw [q.out];exact ⟨rfl,rfl⟩
  ·obtain rfl:x=y:=by omega
   have q:Hid (A4F x x=0):=by unfold Hid A4F;rw [if_neg h,if_neg h2]
   go_enter Tryz.func130,Tryz.ntmps130
   go_wp2
   go_ret
   rw [q.out];exact ⟨rfl,rfl⟩
set_option maxRecDepth 100000 in
set_option maxHeartbeats 400000 in
theorem A5L (t v y:Int) (w:World):Calls Tryz.prog 163 #[.agg #[.int .i64 t,.int .i64 v],.int .i64 y] w fun e w'=>e=.returned (.int .i64 (A4F t y))∧Chg (fun _=>False) w w':=by
 go_enter Tryz.func163,Tryz.ntmps163
 go_wp2_with (go_at_call 130;refine (A9u _ _ _).mono ?_;rintro e w' ⟨rfl,rfl⟩)
 go_ret
 exact ⟨rfl,(Chg.refl _ w).alloc _⟩
def A6N (l:List Pt) (t:Int):Bool:=(l[A1H l t]?).any fun x=>x.1 == t
set_option maxRecDepth 100000 in
set_option maxHeartbeats 2000000 in
theorem B1p (w:World) (lv:Value) (L:List Pt) (t:Int) (hL:A2r w lv L) (hs:A1z L) (hl:L.length<1099511627776):
 Calls Tryz.prog 162 #[lv,.int .i64 t,.func (.func 163) #[] #[]] w fun e w'=>e=.returned (.tuple #[.int .i64 (A1H L t),.bool (A6N L t)])∧Chg (fun _=>False) w w':=by
 obtain ⟨a,cap,rfl,h1,h2,h3,_,_⟩:=A0g hL
 unfold maxLen at h2
 have HL:=A0b hL
 have HS:=A0b hs
 have HA:=A0b h3
 have hple:=A4p L t
 have HC:Hid (∀ W,Chg (fun _=>False) w W→∀ k (hk:k<L.length),∃ g,a=some ⟨g,0,none⟩∧W.cell? ⟨g,k*2,none⟩=some (.int .i64 (L[k]'hk).1)∧W.cell? ⟨g,k*2+1,none⟩=some (.int .i64 (L[k]'hk).2)):=by
  intro W hc k hk
  obtain ⟨g,rfl⟩:=HA.out (by omega)
  have hW:A2r W (.slice (some ⟨g,0,none⟩) L.length cap) L:=A0a HL.out fun g hg=>hc.block g (A0c HL.out hg) (fun h=>h)
  exact ⟨g,rfl,hW.cells k hk⟩
 clear hL hs h3
 go_enter Tryz.func162,Tryz.ntmps162
 go_wp2
 go_loopw [9,10] (fun iv jv wq=>∃ i j:Nat,i≤j∧j≤L.length∧iv=.int .i64 i∧jv=.int .i64 j∧Hid (i≤A1H L t∧A1H L t≤j)∧Hid (Chg (fun _=>False) w wq)) (fun iv jv _=>(intOf jv).toNat - (intOf iv).toNat)
 case atStart=>exact ⟨0,L.length,Nat.zero_le _,Nat.le_refl _,rfl,rfl,⟨Nat.zero_le _,hple⟩,Chg.refl _ _⟩
 case round=>
  obtain ⟨i,j,hij,hj,rfl,rfl,hpos,hcq⟩:=hrel
  by_cases hlt:i<j
  ·obtain ⟨m,hm⟩:∃ m,(i+j) / 2=m:=⟨_,rfl⟩
   have hmi:i≤m:=by omega
   have hmj:m<j:=by omega
   have hml:m<L.length:=by omega
   obtain ⟨g,rfl,c1,c2⟩:=HC.out _ hcq.out m hml
   obtain ⟨⟨tm,vm⟩,hLm⟩:∃ x,L[m]'hml=x:=⟨_,rfl⟩
   rw [hLm] at c1 c2
   have HLm:=A0b hLm
   have i0:(0:Int)≤(i:Int):=Int.natCast_nonneg _
   have j0:(0:Int)≤(j:Int):=Int.natCast_nonneg _
   have m0:(0:Int)≤(m:Int):=Int.natCast_nonneg _
   have m1:(m:Int)<(L.length:Int):=by omega
   have hsum:(i:Int)+(j:Int)≤9223372036854775807:=by omega
   have hlt':(i:Int)<(j:Int):=by omega
   clear hLm
   by_cases htm:tm<t
   ·have hc:A4F tm t<0:=by unfold A4F;rw [if_pos htm];omega
    have hp:Hid (m+1≤A1H L t):=by
     unfold Hid
     apply Decidable.byContradiction
     intro hn
     have:=A5V HS.out (show A1H L t≤m by omega) hml
     rw [HLm.out] at this
     simp only at this;omega
    go_wp2_with (go_at_call 163;refine (A5L _ _ _ _).mono ?_;rintro e w' ⟨rfl,hc5⟩;have HC5:=A0b hc5;clear hc5)
    go_roundw
    case rel=>exact ⟨m+1,j,by omega,hj,by rw [show ((i:Int)+(j:Int)) / 2+1=((m+1:Nat):Int) from by omega],rfl,⟨hp.out,hpos.out.2⟩,hcq.out.trans HC5.out fun _ h _=>h⟩
    case measure=>simp [intOf];omega
   ·have hc:0≤A4F tm t:=by
     unfold A4F;rw [if_neg htm];split <;> omega
    have hp:Hid (A1H L t≤m):=by
     unfold Hid
     apply Decidable.byContradiction
     intro hn
     have:=A4S (show m<A1H L t by omega) hml
     rw [HLm.out] at this
     simp only at this;omega
    go_wp2_with (go_at_call 163;refine (A5L _ _ _ _).mono ?_;rintro e w' ⟨rfl,hc5⟩;have HC5:=A0b hc5;clear hc5)
    go_roundw
    case rel=>exact ⟨i,m,hmi,by omega,rfl,by rw [show ((i:Int)+(j:Int)) / 2=(m:Int) from by omega],⟨hpos.out.1,hp.out⟩,hcq.out.trans HC5.out fun _ h _=>h⟩
    case measure=>simp [intOf];omega
  ·obtain rfl:i=j:=by omega
   have HP:Hid (A1H L t=i):=by have:=hpos.out;unfold Hid;omega
   by_cases hil:i<L.length
   ·obtain ⟨g,rfl,c1,c2⟩:=HC.out _ hcq.out i hil
    obtain ⟨⟨ti,vi⟩,hLi⟩:∃ x,L[i]'hil=x:=⟨_,rfl⟩
    rw [hLi] at c1 c2
    have i0:(0:Int)≤(i:Int):=Int.natCast_nonneg _
    have i1:(i:Int)<(L.length:Int):=by omega
    have HH:Hid (A6N L t=(A4F ti t == 0)):=by
     unfold Hid A6N
     rw [HP.out,List.getElem?_eq_getElem hil,hLi]
     simp only [Option.any_some]
     unfold A4F
     by_cases e1:ti<t
     ·rw [if_pos e1];have:ti≠t:=by omega
      simp [this]
     ·rw [if_neg e1]
      by_cases e2:t<ti
      ·rw [if_pos e2];have:ti≠t:=by omega
       simp [this]
      ·rw [if_neg e2];have:ti=t:=by omega
       simp [this]
    clear hLi
    go_wp2_with (go_at_call 163;refine (A5L _ _ _ _).mono ?_;rintro e w' ⟨rfl,hc5⟩;have HC5:=A0b hc5;clear hc5)
    go_ret2
    rw [HP.out,HH.out]
    exact ⟨rfl,hcq.out.trans HC5.out fun _ h _=>h⟩
   ·have hil':(L.length:Int)≤(i:Int):=by omega
    have HH:Hid (A6N L t=false):=by
     unfold Hid A6N
     rw [HP.out,List.getElem?_eq_none (by omega)];rfl
    go_wp2
    go_ret2
    rw [HP.out,HH.out]
    exact ⟨rfl,hcq.out⟩
structure B3W (w:World) (b o:Nat) (L:List Pt) (lv:Value):Prop where
 cell:w.cell? ⟨b,o,none⟩=some lv
 row:A2r w lv L
 sorted:A1z L
 small:L.length<1099511627776
set_option maxRecDepth 100000 in
set_option maxHeartbeats 400000 in
theorem A5s (w:World) (b o:Nat) (L:List Pt) (lv:Value) (t:Int) (h:B3W w b o L lv):
 Calls Tryz.prog 116 #[.pointer (some ⟨b,o,none⟩),.int .i64 t] w fun e w'=>e=.returned (.tuple #[.int .i64 (A1H L t),.bool (A6N L t)])∧Chg (fun _=>False) w w':=by
 have hc:=h.cell
 obtain ⟨a,cap,rfl,_⟩:=A0g h.row
 have H:=A0b h
 clear h
 go_enter Tryz.func116,Tryz.ntmps116
 go_wp2_with (go_at_call 162;refine (B1p _ _ _ _ H.out.row H.out.sorted H.out.small).mono ?_;rintro e w' ⟨rfl,hc5⟩;have HC5:=A0b hc5;clear hc5)
 go_ret2
 exact ⟨rfl,HC5.out⟩
end Go.Proofs.YtodcnkbblippnaaGreatDoor
