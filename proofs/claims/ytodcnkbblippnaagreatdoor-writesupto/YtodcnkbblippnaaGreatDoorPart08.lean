/-
  The statement WritesUptoCardSaid is proved: the law Writes answers true for every setting and every script of at most 1048576 bytes; there is no other condition.
  Part 8 of 33.
-/
import Derived.Test.YtodcnkbblippnaaGreatDoorPart02
import Derived.Test.YtodcnkbblippnaaGreatDoorPart07
import Derived.Test.YtodcnkbblippnaaGreatDoorShelf
import Derived.Lib.ItoaLen
import Derived.Handy
import Derived.Lib.AtoiAllCases
namespace Go.Proofs.YtodcnkbblippnaaGreatDoor
open Go.RowKit
theorem A0R.drew {w:World} {b:Nat} {D:DS} {F:Nat→FC} {Ft:Nat→Prop} (h:A0R w b D F Ft):A0R w.drew b D F Ft:=h.frame fun _ _=>rfl
theorem A1T.ofDrew {w w':World} {b:Nat} {D:DS} {F:Nat→FC} {Ft:Nat→Prop} (h:A1T w.drew Ft w' b D F):A1T w Ft w' b D F:=by
 obtain ⟨h1,h2⟩:=h
 exact ⟨⟨h1.os,h1.tape,h1.output,h1.size,h1.block⟩,h2⟩
section
variable {w:World} {b fb:Nat} {D:DS} {F:Nat→FC} {Ft:Nat→Prop} {T:TypeId} {name:ByteArray} {s:Nat}
set_option maxRecDepth 100000 in
set_option maxHeartbeats 1000000 in
theorem B1J (hf:A0z w fb T (.pointer (some ⟨b,0,none⟩)) name s) (h:A0R w b D F Ft) (k:Nat) (hk:¬ D.ids k) (hs:D.dir.length<1099511627776∧D.changes.length<1099511627776):
 Calls Tryz.prog 240 #[.pointer (some ⟨fb,0,none⟩)] w fun e w'=>e=.returned (.int .i64 (A0I D name k).1)∧A1T w Ft w' b (A0I D name k).2 (upd F k ([],0)):=by
 have c0:=hf.c0
 have c1:=hf.c1
 have CR:=A0b (B4Y h.drew name k hk hs)
 obtain ⟨q,hq⟩:∃ q,(A0I D name k).1=q:=⟨_,rfl⟩
 rw [hq] at CR ⊢
 clear hf h hq
 go_enter Tryz.func240,Tryz.ntmps240
 go_wp2
 refine A0e (fun w'=>w'.cell? ⟨fb,0,none⟩=some (.pointer (some ⟨b,0,none⟩))∧w'.cell? ⟨fb,1,none⟩=some (.string name)) 8
  [(0,true),(1,true),(2,true),(3,true),(4,true),(5,true),(6,true),(7,true)] (by kernel_rfl) (by kernel_rfl) (fun _ _ _ _ _ h=>h) ⟨c0,c1⟩ ?_
 iterate 8 (refine A0d (v:=?_) rfl (by rfl) ?_ ?_;rotate_left;(· (intro w' hS;(try dsimp only at hS);go_simp;try with_reducible rfl));(try simp only [Act.put,List.setIfInBounds_toArray,List.set_cons_zero,List.set_cons_succ,List.getElem_toArray,List.getElem_cons_zero,List.getElem_cons_succ]))
 refine A0k ?_
 simp only [List.drop_succ_cons,List.drop_zero]
 go_wp2_with (go_at_call 83;refine CR.out.mono ?_;rintro e w' ⟨rfl,hA⟩;have HA:=A0b hA;clear hA)
 go_ret
 exact ⟨rfl,HA.out.ofDrew⟩
set_option maxRecDepth 100000 in
set_option maxHeartbeats 1000000 in
theorem B5Q (hf:A0z w fb T (.pointer (some ⟨b,0,none⟩)) name s) (h:A0R w b D F Ft):
 Calls Tryz.prog 164 #[.pointer (some ⟨fb,0,none⟩)] w fun e w'=>e=.returned (.int .i64 (A1X D F name).1)∧A1T w Ft w' b (A1X D F name).2.1 (A1X D F name).2.2:=by
 have c0:=hf.c0
 have c1:=hf.c1
 have CR:=A0b (B5q h.drew name)
 obtain ⟨q,hq⟩:∃ q,(A1X D F name).1=q:=⟨_,rfl⟩
 rw [hq] at CR ⊢
 clear hf h hq
 go_enter Tryz.func164,Tryz.ntmps164
 go_wp2
 refine A0e (fun w'=>w'.cell? ⟨fb,0,none⟩=some (.pointer (some ⟨b,0,none⟩))∧w'.cell? ⟨fb,1,none⟩=some (.string name)) 8
  [(0,true),(1,true),(2,true),(3,true),(4,true),(5,true),(6,true),(7,true)] (by kernel_rfl) (by kernel_rfl) (fun _ _ _ _ _ h=>h) ⟨c0,c1⟩ ?_
 iterate 8 (refine A0d (v:=?_) rfl (by rfl) ?_ ?_;rotate_left;(· (intro w' hS;(try dsimp only at hS);go_simp;try with_reducible rfl));(try simp only [Act.put,List.setIfInBounds_toArray,List.set_cons_zero,List.set_cons_succ,List.getElem_toArray,List.getElem_cons_zero,List.getElem_cons_succ]))
 refine A0k ?_
 simp only [List.drop_succ_cons,List.drop_zero]
 go_wp2_with (go_at_call 85;refine CR.out.mono ?_;rintro e w' ⟨rfl,hA⟩;have HA:=A0b hA;clear hA)
 go_ret
 exact ⟨rfl,HA.out.ofDrew⟩
end
end Go.Proofs.YtodcnkbblippnaaGreatDoor
namespace Go.Proofs.YtodcnkbblippnaaGreatDoor
open Go.RowKit
def A6s (D:DS) (F:Nat→FC) (name:ByteArray):List UInt8 × Int:=match A0u D.dir name with
 | some f=>((F f).1,0)
 | none=>([],8)
theorem A0R.same {w w':World} {b:Nat} {D:DS} {F:Nat→FC} {Ft:Nat→Prop} (h:A0R w b D F Ft) (hlt:∀ k,Ft k→k<w.heap.size) (hc:Chg (fun _=>False) w w'):A0R w' b D F Ft:=h.frame fun k hk=>hc.block k (hlt k hk) (fun h=>h)
section
variable {w:World} {b fb:Nat} {D:DS} {F:Nat→FC} {Ft:Nat→Prop} {T:TypeId} {name:ByteArray} {s:Nat}
set_option maxRecDepth 100000 in
set_option maxHeartbeats 1000000 in
theorem B5W (hf:A0z w fb T (.pointer (some ⟨b,0,none⟩)) name s) (h:A0R w b D F Ft):
 Calls Tryz.prog 166 #[.pointer (some ⟨fb,0,none⟩)] w fun e w'=>e=.returned (.tuple #[.string ⟨(A6s D F name).1.toArray⟩,.int .i64 (A6s D F name).2])∧Chg (fun _=>False) w w':=by
 obtain ⟨zn,hzn⟩:∃ zn,(A1o D F name).1=zn:=⟨_,rfl⟩
 obtain ⟨ze,hze⟩:∃ ze,(A1o D F name).2=ze:=⟨_,rfl⟩
 have SZ:∀ w',A0R w' b D F Ft→Calls Tryz.prog 81 #[.pointer (some ⟨b,0,none⟩),.string name] w' fun e w''=>e=.returned (.tuple #[.int .i64 zn,.int .i64 ze])∧w'=w'':=fun w' h=>by
  rw [← hzn,← hze];exact B5d h name
 have RD:∀ w',A0R w' b D F Ft→Calls Tryz.prog 82 #[.pointer (some ⟨b,0,none⟩),.string name,.int .i64 0,.int .i64 zn] w' fun e w''=>e=.returned (.tuple #[.string ⟨(A3v D F name 0 zn).1.toArray⟩,.int .i64 (A3v D F name 0 zn).2])∧w'=w'':=fun w' h=>B5O h name 0 zn
 have SZ':=A0b SZ
 have RD':=A0b RD
 have HA:(ze=0∧Hid ((A3v D F name 0 zn).1=(A6s D F name).1∧(A3v D F name 0 zn).2=(A6s D F name).2))∨(ze=8∧Hid ((A6s D F name).1 = []∧(A6s D F name).2=8)):=by
  unfold A1o at hzn hze
  unfold A3v A6s Hid
  cases hx:A0u D.dir name with
  | none=>rw [hx] at hze;exact .inr ⟨hze.symm,rfl,rfl⟩
  | some f=>
   rw [hx] at hze hzn
   subst hzn
   refine .inl ⟨hze.symm,?_⟩
   dsimp only
   rw [if_neg (by omega)]
   simp
 obtain ⟨rs,hrs⟩:∃ rs,(A6s D F name).1=rs:=⟨_,rfl⟩
 obtain ⟨re,hre⟩:∃ re,(A6s D F name).2=re:=⟨_,rfl⟩
 rw [hrs,hre] at HA ⊢
 clear hrs hre
 clear SZ RD hzn hze
 go_enter Tryz.func166,Tryz.ntmps166
 go_wp2
 refine A0O 13 (fun y=>{ tmps:=#[.pointer (some ⟨fb,0,none⟩),undef,.string ⟨#[]⟩,.int .i64 0,y 12,undef,y 9,y 0,y 1,y 2,y 3,y 4,y 5,y 6,y 7,y 8,y 10,y 11,undef,undef,undef,undef,undef,undef,undef,undef,undef,undef,undef,undef,undef,undef,undef],defers:=[] }) (fun _=>undef)
  (fun w'=>A0z w' fb T (.pointer (some ⟨b,0,none⟩)) name s∧A0R w' b D F Ft∧Chg (fun _=>False) w w') (Chg (fun _=>False))
  (fun j x w'=>match j with
   | 0=>x=.pointer (some ⟨fb,0,none⟩)
   | 1=>x=.pointer (some ⟨fb,0,none⟩)
   | 2=>x=.pointer (some ⟨fb,0,none⟩)
   | 3=>x=.pointer (some ⟨b,0,none⟩)
   | 4=>x=.pointer (some ⟨fb,0,none⟩)
   | 5=>x=.pointer (some ⟨fb,0,none⟩)
   | 6=>x=.pointer (some ⟨fb,1,none⟩)
   | 7=>x=.string name
   | 8=>x=.tuple #[.int .i64 zn,.int .i64 ze]
   | 9=>x=.tuple #[.int .i64 zn,.int .i64 ze]
   | 10=>x=.int .i64 zn
   | 11=>x=.int .i64 ze
   | 12=>x=.int .i64 zn
   | _=>True)
  (by kernel_rfl) (by kernel_rfl) rfl ?_ ?_ ?_ ?_
 ·exact ⟨hf,h.drew,(Chg.refl _ _).drew⟩
 ·intro j x w1 w2 hR hS' hG
  split at hG <;> exact hG
 ·simp only [List.take_succ_cons,List.take_zero,A2n,and_true]
  repeat' (with_reducible apply And.intro)
  all_goals refine ⟨?_,(by intro y wx _ _ h;exact Bool.noConfusion h),fun y x=>rfl⟩
  all_goals
   intro y wx hS hd hw K hK
   clear hw
   obtain ⟨hS1,hS2,hS3⟩:=hS
   simp [A2E,Region.binds,A3x,List.filter_cons] at hd
   have c0:=hS1.c0
   have c1:=hS1.c1
   have HS:Hid (A0z wx fb T (.pointer (some ⟨b,0,none⟩)) name s∧A0R wx b D F Ft∧Chg (fun _=>False) w wx):=⟨hS1,hS2,hS3⟩
   have HK:=A0b hK
   clear hS1 hS2 hS3 hK hf h
  all_goals dsimp only
  all_goals try go_simp
  all_goals try with_reducible exact HK.out _ _ _ rfl (by simp [Act.put,hd]) (Chg.refl _ _) HS.out
  all_goals try
   have hd3:y 3=.pointer (some ⟨b,0,none⟩):=by with_reducible exact hd.1
   clear hd3
   refine (SZ'.out wx HS.out.2.1).mono ?_
   rintro e w2 ⟨rfl,rfl⟩
   exact HK.out _ _ _ rfl (by simp [Act.put,hd]) (Chg.refl _ _) HS.out
 ·intro y wx hS hG
  have h11:y 11=.int .i64 ze:=hG 11 (by omega)
  have h12:y 12=.int .i64 zn:=hG 12 (by omega)
  have HS:=A0b hS
  clear hG hS hf h
  rcases HA with ⟨rfl,HA⟩ | ⟨rfl,HA⟩
  ·have RD2:∀ w',A0R w' b D F Ft→Calls Tryz.prog 82 #[.pointer (some ⟨b,0,none⟩),.string name,.int .i64 0,.int .i64 zn] w' fun e w''=>e=.returned (.tuple #[.string ⟨rs.toArray⟩,.int .i64 re])∧w'=w'':=by rw [← HA.out.1,← HA.out.2];exact RD'.out
   have HRD:=A0b RD2
   clear RD2 RD' HA SZ'
   go_wp2
   refine A0O 13 (fun z=>{ tmps:=#[.pointer (some ⟨fb,0,none⟩),undef,z 12,.int .i64 0,.int .i64 zn,.int .i64 0,y 9,y 0,y 1,y 2,y 3,y 4,y 5,y 6,y 7,y 8,y 10,.int .i64 0,.int .i64 0,.bool false,undef,z 0,z 1,z 2,z 3,z 4,z 5,z 6,z 7,z 8,z 9,z 10,z 11],defers:=[] }) (fun j=>if j=12 then .string ⟨#[]⟩ else undef)
    (fun w'=>A0z w' fb T (.pointer (some ⟨b,0,none⟩)) name s∧A0R w' b D F Ft∧Chg (fun _=>False) w w') (Chg (fun _=>False))
    (fun j x w'=>match j with
     | 0=>x=.pointer (some ⟨fb,0,none⟩)
     | 1=>x=.pointer (some ⟨fb,0,none⟩)
     | 2=>x=.pointer (some ⟨fb,0,none⟩)
     | 3=>x=.pointer (some ⟨b,0,none⟩)
     | 4=>x=.pointer (some ⟨fb,0,none⟩)
     | 5=>x=.pointer (some ⟨fb,0,none⟩)
     | 6=>x=.pointer (some ⟨fb,1,none⟩)
     | 7=>x=.string name
     | 8=>x=.int .i64 zn
     | 9=>x=.tuple #[.string ⟨rs.toArray⟩,.int .i64 re]
     | 10=>x=.string ⟨rs.toArray⟩
     | 11=>x=.int .i64 re
     | 12=>x=.string ⟨rs.toArray⟩
     | _=>True)
    (by kernel_rfl) (by kernel_rfl) rfl ?_ ?_ ?_ ?_
   ·exact ⟨HS.out.1,HS.out.2.1.drew,HS.out.2.2.drew⟩
   ·intro j x w1 w2 hR hS' hG
    split at hG <;> exact hG
   ·clear HS h11 h12
    simp only [List.take_succ_cons,List.take_zero,A2n,and_true]
    repeat' (with_reducible apply And.intro)
    all_goals refine ⟨?_,(by intro y wx _ _ h;exact Bool.noConfusion h),fun y x=>rfl⟩
    all_goals
     intro z wx hS hd hw K hK
     clear hw
     obtain ⟨hS1,hS2,hS3⟩:=hS
     simp [A2E,Region.binds,A3x,List.filter_cons] at hd
     have c0:=hS1.c0
     have c1:=hS1.c1
     have HS:Hid (A0z wx fb T (.pointer (some ⟨b,0,none⟩)) name s∧A0R wx b D F Ft∧Chg (fun _=>False) w wx):=⟨hS1,hS2,hS3⟩
     have HK:=A0b hK
     clear hS1 hS2 hS3 hK
    all_goals dsimp only
    all_goals try go_simp
    all_goals try with_reducible exact HK.out _ _ _ rfl (by simp [Act.put,hd]) (Chg.refl _ _) HS.out
    all_goals try
     have hd3:z 3=.pointer (some ⟨b,0,none⟩):=by with_reducible exact hd.1
     clear hd3
     refine (HRD.out wx HS.out.2.1).mono ?_
     rintro e w2 ⟨rfl,rfl⟩
     exact HK.out _ _ _ rfl (by simp [Act.put,hd]) (Chg.refl _ _) HS.out
   ·intro z wz hZ hG
    have z11:z 11=.int .i64 re:=hG 11 (by omega)
    have z12:z 12=.string ⟨rs.toArray⟩:=hG 12 (by omega)
    have HZ:=A0b hZ
    clear hG hZ HS
    go_wp2
    go_ret2
    exact ⟨rfl,HZ.out.2.2⟩
  ·go_wp2
   go_ret2
   rw [HA.out.1,HA.out.2]
   exact ⟨rfl,HS.out.2.2⟩
end
end Go.Proofs.YtodcnkbblippnaaGreatDoor
namespace Go.Proofs.YtodcnkbblippnaaGreatDoor
open Go.RowKit
theorem Chg.ofGrow {S:Nat→Prop} {w:World} (k:Nat) (os:Array Obj):Chg S w (Go.Sort.grow (w.drewN k) os):=
 ⟨rfl,rfl,rfl,(by show w.heap.size≤(w.heap ++ os).size;simp),fun j hj _=>(by show (w.heap ++ os)[j]?=_;rw [Array.getElem?_append_left hj])⟩
def A2B (lt:List UInt8) (n:Int):List UInt8:=lt ++ Lib.repeatL [48] (19 - (Lib.itoa n).length) ++ Lib.itoa n
def ltr (s:Int):List UInt8:=if s=1 then [108] else if s=2 then [115] else if s=3 then [105] else if s=4 then [100] else []
def A2b (s n:Int):List UInt8:=if s=1∨s=2 then A2B (ltr s) n else ltr s
set_option maxRecDepth 100000 in
set_option maxHeartbeats 1000000 in
theorem A2L (w:World) (s:Int):Calls Tryz.prog 133 #[.int .i64 s] w fun e w'=>e=.returned (.bool (decide (s=1∨s=2)))∧w=w':=by
 go_enter Tryz.func133,Tryz.ntmps133
 by_cases h1:s=1
 ·subst h1
  go_wp2
  go_ret
  exact ⟨rfl,rfl⟩
 ·by_cases h2:s=2
  ·subst h2
   go_wp2
   go_ret
   exact ⟨rfl,rfl⟩
  ·go_wp2
   go_ret
   exact ⟨by simp [h1,h2],rfl⟩
set_option maxRecDepth 100000 in
set_option maxHeartbeats 1000000 in
theorem B1a (w:World) (s:Int) (k:Nat) (hs:s=k∧(k=1∨k=2)) (lt:List UInt8) (n:Int) (hn : -9223372036854775808≤n∧n≤9223372036854775807) (hlt:lt.length≤1000) (hd:(Lib.itoa n).length≤19)
 (hl:w.cell? ⟨0,k,none⟩=some (.string ⟨lt.toArray⟩)) (htab:Lib.TabIs Tryz.prog w "internal/strconv.uint64pow10" .u64 Lib.pow10Tab):
 Calls Tryz.prog 134 #[.int .i64 s,.int .i64 n] w fun e w'=>e=.returned (.string ⟨(A2B lt n).toArray⟩)∧Chg (fun _=>False) w w':=by
 obtain ⟨rfl,hk⟩:=hs
 obtain ⟨hn1,hn2⟩:=hn
 have hk1:(k:Int)<5:=by omega
 have hnk:(k:Int)=1∨(k:Int)=2:=by omega
 have hdk:decide ((k:Int)=1∨(k:Int)=2)=true:=decide_eq_true hnk
 have IT:=A0b (Tryz.strconv_Itoa n hn1 hn2 w htab)
 have RP:∀ w',_:=fun w'=>Tryz.strings_Repeat ⟨#[48]⟩ (19 - (Lib.itoa n).length) w' (by omega) (by show 1*_≤_;omega)
 have HRP:=A0b RP
 have hnm:Hid (A2B lt n=lt ++ Lib.repeatL [48] (19 - (Lib.itoa n).length) ++ Lib.itoa n):=rfl
 have hrl:=Lib.repeatL_length [48] (19 - (Lib.itoa n).length)
 obtain ⟨dg,hdg⟩:∃ dg,Lib.itoa n=dg:=⟨_,rfl⟩
 rw [hdg] at IT hd HRP hnm hrl
 clear RP hdg htab
 obtain ⟨c,hc,hcl⟩:∃ c:Nat,19 - dg.length=c∧dg.length+c=19:=⟨_,rfl,by omega⟩
 rw [hc] at HRP hnm hrl
 clear hc
 obtain ⟨rp,hrp⟩:∃ rp,Lib.repeatL [48] c=rp:=⟨_,rfl⟩
 have HRP2:Hid (∀ w':World,Calls Tryz.prog 174 #[.string ⟨#[48]⟩,.int .i64 (c:Int)] w' fun e w''=>e=.returned (.string ⟨rp.toArray⟩)∧Below w'.heap.size w' w''):=by
  rw [← hrp];exact HRP.out
 rw [hrp] at hnm hrl
 clear hrp HRP
 have hrl2:rp.length≤19:=by rw [hrl];simp;omega
 clear hrl
 obtain ⟨nm,hnm2⟩:∃ nm,A2B lt n=nm:=⟨_,rfl⟩
 rw [hnm2] at hnm ⊢
 have HL:=A0b hl
 clear hnm2 hl
 go_enter Tryz.func134,Tryz.ntmps134
 go_wp2_with (fail)
 refine (A2L w k).mono ?_
 rintro e w0 ⟨rfl,rfl⟩
 rw [hdk]
 have HK1:=A0b hk
 have HK2:=A0b hnk
 have HK3:=A0b hk1
 clear hk hnk hk1 hdk
 go_wp2_with (go_at_call 173;refine IT.out.mono ?_;rintro e w1 ⟨rfl,hw⟩;have HW:=A0b hw;clear hw)
 have HC1:Hid (Chg (fun _=>False) w w1):=by
  obtain ⟨k,os,he⟩:=HW.out
  rw [he];exact Chg.ofGrow k os
 have HL1:=A0b (HC1.out.cellKeep HL.out)
 clear HW IT HL
 refine A0O 10 (fun y=>{ tmps:=#[.int .i64 k,.int .i64 n,undef,undef,.string ⟨#[]⟩,.string ⟨dg.toArray⟩,.int .i64 k,.bool true,.bool false,undef,undef,undef,.int .i64 n,.string ⟨dg.toArray⟩,y 0,y 1,y 2,y 3,y 4,y 5,y 6,y 7,y 8,y 9],defers:=[] }) (fun _=>undef)
  (fun w'=>w'.cell? ⟨0,k,none⟩=some (.string ⟨lt.toArray⟩)∧Chg (fun _=>False) w1 w') (Chg (fun _=>False))
  (fun j x w'=>match j with
   | 0=>x=.int .i64 k
   | 1=>x=.pointer (some ⟨0,k,none⟩)
   | 2=>x=.string ⟨lt.toArray⟩
   | 3=>x=.string ⟨dg.toArray⟩
   | 4=>x=.int .i64 dg.length
   | 5=>x=.int .i64 (c:Int)
   | 6=>x=.string ⟨rp.toArray⟩
   | 7=>x=.string ⟨(lt ++ rp).toArray⟩
   | 8=>x=.string ⟨dg.toArray⟩
   | 9=>x=.string ⟨nm.toArray⟩
   | _=>True)
  (by kernel_rfl) (by kernel_rfl) rfl ?_ ?_ ?_ ?_
 ·exact ⟨HL1.out,(Chg.refl _ _).drew⟩
 ·intro j x w1 w2 hR hS' hG
  split at hG <;> exact hG
 ·clear HL1
  simp only [List.take_succ_cons,List.take_zero,A2n,and_true]
  repeat' (with_reducible apply And.intro)
  all_goals refine ⟨?_,(by intro y wx _ _ h;exact Bool.noConfusion h),fun y x=>rfl⟩
  all_goals
   intro y wx hS hd hw K hK
   clear hw
   obtain ⟨c0,hS2⟩:=hS
   simp [A2E,Region.binds,A3x,List.filter_cons] at hd
   have hk5:=HK3.out
   have hk0:(0:Int)≤(k:Int):=Int.natCast_nonneg _
   have ap1:=A2V lt rp
   have g1:¬ (9223372036854775807<lt.length+rp.length):=by omega
   have g2:¬ (9223372036854775807<lt.length+rp.length+dg.length):=by omega
   have g3:¬ (9223372036854775807<lt.length+(rp.length+dg.length)):=by omega
   have ap2:(ByteArray.mk (lt ++ rp).toArray) ++ (ByteArray.mk dg.toArray)=⟨nm.toArray⟩:=by rw [A2V,hnm.out]
   have ew:IntKind.i64.wrap (c:Int)=c:=by simp [IntKind.wrap,IntKind.bits,IntKind.signed];omega
   have ew2:(19:Int) - (dg.length:Int)=(c:Int):=by omega
   have HS:Hid (wx.cell? ⟨0,k,none⟩=some (.string ⟨lt.toArray⟩)∧Chg (fun _=>False) w1 wx):=⟨c0,hS2⟩
   have HK:=A0b hK
   clear hS2 hK
  all_goals dsimp only
  all_goals try go_simp
  all_goals try with_reducible exact HK.out _ _ _ rfl (by simp [Act.put,hd]) (Chg.refl _ _) HS.out
  all_goals try
   have hd5:y 5=.int .i64 (c:Int):=by with_reducible exact hd
   clear hd5
   refine (HRP2.out wx).mono ?_
   rintro e w2 ⟨rfl,hb⟩
   have hc:Chg (fun _=>False) wx w2:=Chg.ofBelow hb
   exact HK.out _ _ _ rfl (by simp [Act.put,hd]) hc ⟨hc.cellKeep HS.out.1,HS.out.2.trans hc (fun _ h _=>h)⟩
 ·intro y wx hS hG
  have h9:y 9=.string ⟨nm.toArray⟩:=hG 9 (by omega)
  have HS:=A0b hS
  clear hG hS HL1
  go_wp2
  go_ret
  exact ⟨rfl,HC1.out.trans HS.out.2 (fun _ h _=>h)⟩
set_option maxRecDepth 100000 in
set_option maxHeartbeats 1000000 in
theorem A6g (w:World) (k:Nat) (hk:k=3∨k=4) (lt:List UInt8) (n:Int) (hl:w.cell? ⟨0,k,none⟩=some (.string ⟨lt.toArray⟩)):
 Calls Tryz.prog 134 #[.int .i64 k,.int .i64 n] w fun e w'=>e=.returned (.string ⟨lt.toArray⟩)∧w=w':=by
 have hk1:(k:Int)<5:=by omega
 have hk0:(0:Int)≤(k:Int):=Int.natCast_nonneg _
 have hdk:decide ((k:Int)=1∨(k:Int)=2)=false:=decide_eq_false (by omega)
 go_enter Tryz.func134,Tryz.ntmps134
 go_wp2_with (fail)
 refine (A2L w k).mono ?_
 rintro e w0 ⟨rfl,rfl⟩
 rw [hdk]
 clear hk hdk
 go_wp2
 go_ret
 exact ⟨rfl,rfl⟩
end Go.Proofs.YtodcnkbblippnaaGreatDoor
namespace Go.Proofs.YtodcnkbblippnaaGreatDoor
open Go.RowKit
def A6I (w:World) (Ft:Nat→Prop) (fb:Nat) (w':World) (b:Nat) (D':DS) (F':Nat→FC):Prop:=
 Chg (fun k=>Ft k∨k=fb) w w'∧∃ Ft',A0R w' b D' F' Ft'∧(∀ k,Ft' k→k<w'.heap.size)∧∀ k,Ft' k→Ft k∨w.heap.size≤k
def A8p (D:DS) (F:Nat→FC) (name:ByteArray) (pc:List UInt8):Bool:=
 decide ((A1o (A0q D F name ⟨pc.toArray⟩).2.1 (A0q D F name ⟨pc.toArray⟩).2.2 name).1 - (A1o D F name).1=pc.length)
theorem A5G (D:DS) (F:Nat→FC) (name:ByteArray):0≤(A1o D F name).1:=by
 unfold A1o
 cases A0u D.dir name <;> simp
section
variable {w:World} {b fb:Nat} {D:DS} {F:Nat→FC} {Ft:Nat→Prop} {T:TypeId} {name:ByteArray} {s:Nat}
set_option maxRecDepth 100000 in
set_option maxHeartbeats 2000000 in
theorem B5L (hf:A0z w fb T (.pointer (some ⟨b,0,none⟩)) name s) (hs:s<4294967296) (h:A0R w b D F Ft) (hlt:∀ k,Ft k→k<w.heap.size) (hn:¬ Ft fb) (l:List UInt8) (hroom : -4611686018427387904≤D.n.room∧D.n.room≤9223372036854775807)
 (hu:A0J F D.dir≤4611686018427387904) (hp:0≤D.n.part∧D.n.part≤9223372036854775807) (hl:∀ f,A0u D.dir name=some f→(F f).1.length+(l.length+4)≤70368744177664) (hll:l.length≤4611686018427387904)
 (hz:(A1o (A0q D F name ⟨(l ++ A2x (A0w s l)).toArray⟩).2.1 (A0q D F name ⟨(l ++ A2x (A0w s l)).toArray⟩).2.2 name).1≤70368744177664∧(A1o D F name).1≤70368744177664):
 Calls Tryz.prog 237 #[.pointer (some ⟨fb,0,none⟩),.string ⟨l.toArray⟩] w fun e w'=>e=.returned (.tuple #[.bool (A8p D F name (l ++ A2x (A0w s l))),.int .i64 (A0q D F name ⟨(l ++ A2x (A0w s l)).toArray⟩).1])∧A0z w' fb T (.pointer (some ⟨b,0,none⟩)) name (A0w s l)∧A6I w Ft fb w' b (A0q D F name ⟨(l ++ A2x (A0w s l)).toArray⟩).2.1 (A0q D F name ⟨(l ++ A2x (A0w s l)).toArray⟩).2.2:=by
 obtain ⟨hz1,hz2⟩:=hz
 have SE:=A0b (B0c w fb T _ name s l hf hs (by omega))
 have hpl:(l ++ A2x (A0w s l)).length=l.length+4:=by simp [A1i]
 obtain ⟨s1,hs1⟩:∃ s1,A0w s l=s1:=⟨_,rfl⟩
 rw [hs1] at SE hpl hz1 ⊢
 clear hs1 hf
 obtain ⟨pc,hpc⟩:∃ pc,l ++ A2x s1=pc:=⟨_,rfl⟩
 rw [hpc] at SE hpl hz1 ⊢
 clear hpc
 have AP:∀ w',A0R w' b D F Ft→_:=fun w' h'=>B4Z h' name ⟨pc.toArray⟩ hroom hu hp (fun f hf=>by have:=hl f hf;show _+pc.length≤_;omega)
 have r1:=A5G D F name
 have r2:=A5G (A0q D F name ⟨pc.toArray⟩).2.1 (A0q D F name ⟨pc.toArray⟩).2.2 name
 have hok:A8p D F name pc=decide ((A1o (A0q D F name ⟨pc.toArray⟩).2.1 (A0q D F name ⟨pc.toArray⟩).2.2 name).1 - (A1o D F name).1=pc.length):=rfl
 obtain ⟨D',hD'⟩:∃ D',(A0q D F name ⟨pc.toArray⟩).2.1=D':=⟨_,rfl⟩
 obtain ⟨F',hF'⟩:∃ F',(A0q D F name ⟨pc.toArray⟩).2.2=F':=⟨_,rfl⟩
 obtain ⟨er,her⟩:∃ er,(A0q D F name ⟨pc.toArray⟩).1=er:=⟨_,rfl⟩
 rw [hD',hF'] at hok r2 hz1 ⊢
 rw [her]
 rw [hD',hF',her] at AP
 clear hD' hF' her
 have S1:∀ w',A0R w' b D F Ft→_:=fun w' h'=>B5d h' name
 have S2:∀ w' Ft',A0R w' b D' F' Ft'→_:=fun w' Ft' h'=>B5d h' name
 obtain ⟨zn,hzn⟩:∃ zn,(A1o D F name).1=zn:=⟨_,rfl⟩
 obtain ⟨ze,hze⟩:∃ ze,(A1o D F name).2=ze:=⟨_,rfl⟩
 obtain ⟨yn,hyn⟩:∃ yn,(A1o D' F' name).1=yn:=⟨_,rfl⟩
 obtain ⟨ye,hye⟩:∃ ye,(A1o D' F' name).2=ye:=⟨_,rfl⟩
 rw [hzn,hyn] at hok
 rw [hzn] at r1 hz2
 rw [hyn] at r2 hz1
 rw [hzn,hze] at S1
 rw [hyn,hye] at S2
 clear hzn hze hyn hye
 rw [hok]
 clear hok
 obtain ⟨ok,hok⟩:∃ ok,decide (yn - zn=(pc.length:Int))=ok:=⟨_,rfl⟩
 rw [hok]
 have HOK:=A0b hok
 have AP':=A0b AP
 have S1':=A0b S1
 have S2':=A0b S2
 have H:=A0b h
 have HLT:=A0b hlt
 have HN:=A0b hn
 clear AP S1 S2 h hlt hn hok hroom hu hp hl
 go_enter Tryz.func237,Tryz.ntmps237
 go_wp2_with (go_at_call 214;refine SE.out.mono ?_;rintro e w1 ⟨rfl,hb1,hc1⟩;have HB1:=A0b hb1;have HC1:=A0b hc1;clear hb1 hc1)
 have HS0:Hid (A0z w1 fb T (.pointer (some ⟨b,0,none⟩)) name s1∧A0R w1 b D F Ft):=⟨HB1.out,H.out.frame fun k hk=>HC1.out.block k (HLT.out k hk) (fun e=>HN.out (e ▸ hk))⟩
 clear HB1 SE H
 refine A0O 13 (fun y=>{ tmps:=#[.pointer (some ⟨fb,0,none⟩),.string ⟨l.toArray⟩,undef,undef,.bool false,.int .i64 0,.string ⟨pc.toArray⟩,y 12,undef,undef,undef,undef,.pointer (some ⟨fb,0,none⟩),.string ⟨l.toArray⟩,.string ⟨pc.toArray⟩,y 9,y 0,y 1,y 2,y 3,y 4,y 5,y 6,y 7,y 8,y 10,y 11,undef,undef,undef,undef,undef,undef,undef,undef,undef,undef,undef,undef,undef,undef,undef,undef,undef,undef,undef,undef,undef,undef,undef,undef,undef,undef,undef,undef,undef],defers:=[] }) (fun _=>undef)
  (fun w'=>A0z w' fb T (.pointer (some ⟨b,0,none⟩)) name s1∧A0R w' b D F Ft∧Chg (fun _=>False) w1 w') (Chg (fun _=>False))
  (fun j x w'=>match j with
   | 0=>x=.pointer (some ⟨fb,0,none⟩)
   | 1=>x=.pointer (some ⟨fb,0,none⟩)
   | 2=>x=.pointer (some ⟨fb,0,none⟩)
   | 3=>x=.pointer (some ⟨b,0,none⟩)
   | 4=>x=.pointer (some ⟨fb,0,none⟩)
   | 5=>x=.pointer (some ⟨fb,0,none⟩)
   | 6=>x=.pointer (some ⟨fb,1,none⟩)
   | 7=>x=.string name
   | 8=>x=.tuple #[.int .i64 zn,.int .i64 ze]
   | 9=>x=.tuple #[.int .i64 zn,.int .i64 ze]
   | 10=>x=.int .i64 zn
   | 11=>x=.int .i64 ze
   | 12=>x=.int .i64 zn
   | _=>True)
  (by kernel_rfl) (by kernel_rfl) rfl ?_ ?_ ?_ ?_
 ·exact ⟨HS0.out.1,HS0.out.2.drew,(Chg.refl _ _).drew⟩
 ·intro j x w1 w2 hR hS' hG
  split at hG <;> exact hG
 ·clear HS0
  simp only [List.take_succ_cons,List.take_zero,A2n,and_true]
  repeat' (with_reducible apply And.intro)
  all_goals refine ⟨?_,(by intro y wx _ _ h;exact Bool.noConfusion h),fun y x=>rfl⟩
  all_goals
   intro zz wx hS hd hw K hK
   clear hw
   obtain ⟨hS1,hS2,hS3⟩:=hS
   simp [A2E,Region.binds,A3x,List.filter_cons] at hd
   have c0:=hS1.c0
   have c1:=hS1.c1
   have HS:Hid (A0z wx fb T (.pointer (some ⟨b,0,none⟩)) name s1∧A0R wx b D F Ft∧Chg (fun _=>False) w1 wx):=⟨hS1,hS2,hS3⟩
   have HK:=A0b hK
   clear hS1 hS2 hS3 hK
  all_goals dsimp only
  all_goals try go_simp
  all_goals try with_reducible exact HK.out _ _ _ rfl (by simp [Act.put,hd]) (Chg.refl _ _) HS.out
  all_goals
   refine (S1'.out wx HS.out.2.1).mono ?_
   rintro e w2 ⟨rfl,rfl⟩
   exact HK.out _ _ _ rfl (by simp [Act.put,hd]) (Chg.refl _ _) HS.out
 intro y wx hS hG
 have h11:y 11=.int .i64 ze:=hG 11 (by omega)
 have h12:y 12=.int .i64 zn:=hG 12 (by omega)
 have c0:=hS.1.c0
 have c1:=hS.1.c1
 have HS:=A0b hS
 clear hG hS HS0 S1'
 go_wp2
 refine A0e (fun w'=>w'.cell? ⟨fb,0,none⟩=some (.pointer (some ⟨b,0,none⟩))∧w'.cell? ⟨fb,1,none⟩=some (.string name)) 9
  [(0,true),(1,true),(2,true),(3,true),(4,true),(5,true),(6,true),(7,true),(8,true)] (by kernel_rfl) (by kernel_rfl) (fun _ _ _ _ _ h=>h) ⟨c0,c1⟩ ?_
 iterate 9 (refine A0d (v:=?_) rfl (by rfl) ?_ ?_;rotate_left;(· (intro w' hS;(try dsimp only at hS);go_simp;try with_reducible rfl));(try simp only [Act.put,List.setIfInBounds_toArray,List.set_cons_zero,List.set_cons_succ,List.getElem_toArray,List.getElem_cons_zero,List.getElem_cons_succ]))
 refine A0k ?_
 simp only [List.drop_succ_cons,List.drop_zero]
 have AP2:=A0b (AP'.out wx.drew HS.out.2.1.drew)
 clear AP'
 go_wp2_with (go_at_call 84;refine AP2.out.mono ?_;rintro e w3 ⟨rfl,hA⟩;have HA:=A0b hA;clear hA)
 have HA2:=HA.out.ofDrew
 obtain ⟨hk3,Ft',hr3,hl3,hf3⟩:=HA2
 have hsz:=HS.out.1.lt
 have HS0:Hid (A0z w3 fb T (.pointer (some ⟨b,0,none⟩)) name s1∧A0R w3 b D' F' Ft'):=⟨HS.out.1.keep hk3 HN.out,hr3⟩
 have HK3:=A0b hk3
 have HL3:=A0b hl3
 have HF3:=A0b hf3
 clear hk3 hr3 hl3 hf3 AP2 HA c0 c1 hsz
 have S3':Hid (∀ w',A0R w' b D' F' Ft'→_):=fun w' h'=>S2'.out w' Ft' h'
 clear S2'
 refine A0O 13 (fun z=>{ tmps:=#[.pointer (some ⟨fb,0,none⟩),.string ⟨l.toArray⟩,undef,undef,.bool false,.int .i64 0,.string ⟨pc.toArray⟩,.int .i64 zn,.int .i64 ze,.int .i64 er,z 12,undef,.pointer (some ⟨fb,0,none⟩),.string ⟨l.toArray⟩,.string ⟨pc.toArray⟩,y 9,y 0,y 1,y 2,y 3,y 4,y 5,y 6,y 7,y 8,y 10,.int .i64 ze,.pointer (some ⟨fb,0,none⟩),.pointer (some ⟨fb,0,none⟩),.pointer (some ⟨fb,0,none⟩),.pointer (some ⟨b,0,none⟩),.pointer (some ⟨fb,0,none⟩),.pointer (some ⟨fb,0,none⟩),.pointer (some ⟨fb,1,none⟩),.string name,.string ⟨pc.toArray⟩,.int .i64 er,z 9,z 0,z 1,z 2,z 3,z 4,z 5,z 6,z 7,z 8,z 10,z 11,undef,undef,undef,undef,undef,undef,undef],defers:=[] }) (fun _=>undef)
  (fun w'=>A0z w' fb T (.pointer (some ⟨b,0,none⟩)) name s1∧A0R w' b D' F' Ft'∧Chg (fun _=>False) w3 w') (Chg (fun _=>False))
  (fun j x w'=>match j with
   | 0=>x=.pointer (some ⟨fb,0,none⟩)
   | 1=>x=.pointer (some ⟨fb,0,none⟩)
   | 2=>x=.pointer (some ⟨fb,0,none⟩)
   | 3=>x=.pointer (some ⟨b,0,none⟩)
   | 4=>x=.pointer (some ⟨fb,0,none⟩)
   | 5=>x=.pointer (some ⟨fb,0,none⟩)
   | 6=>x=.pointer (some ⟨fb,1,none⟩)
   | 7=>x=.string name
   | 8=>x=.tuple #[.int .i64 yn,.int .i64 ye]
   | 9=>x=.tuple #[.int .i64 yn,.int .i64 ye]
   | 10=>x=.int .i64 yn
   | 11=>x=.int .i64 ye
   | 12=>x=.int .i64 yn
   | _=>True)
  (by kernel_rfl) (by kernel_rfl) rfl ?_ ?_ ?_ ?_
 ·exact ⟨HS0.out.1,HS0.out.2.drew,(Chg.refl _ _).drew⟩
 ·intro j x w1 w2 hR hS' hG
  split at hG <;> exact hG
 ·clear HS0
  simp only [List.take_succ_cons,List.take_zero,A2n,and_true]
  repeat' (with_reducible apply And.intro)
  all_goals refine ⟨?_,(by intro y wx _ _ h;exact Bool.noConfusion h),fun y x=>rfl⟩
  all_goals
   intro zz wx hS hd hw K hK
   clear hw
   obtain ⟨hS1,hS2,hS3⟩:=hS
   simp [A2E,Region.binds,A3x,List.filter_cons] at hd
   have c0:=hS1.c0
   have c1:=hS1.c1
   have HS:Hid (A0z wx fb T (.pointer (some ⟨b,0,none⟩)) name s1∧A0R wx b D' F' Ft'∧Chg (fun _=>False) w3 wx):=⟨hS1,hS2,hS3⟩
   have HK:=A0b hK
   clear hS1 hS2 hS3 hK
  all_goals dsimp only
  all_goals try go_simp
  all_goals try with_reducible exact HK.out _ _ _ rfl (by simp [Act.put,hd]) (Chg.refl _ _) HS.out
  all_goals
   refine (S3'.out wx HS.out.2.1).mono ?_
   rintro e w2 ⟨rfl,rfl⟩
   exact HK.out _ _ _ rfl (by simp [Act.put,hd]) (Chg.refl _ _) HS.out
 intro z wz hZ hG
 have z11:z 11=.int .i64 ye:=hG 11 (by omega)
 have z12:z 12=.int .i64 yn:=hG 12 (by omega)
 have HZ:=A0b hZ
 have hbe:(yn - zn == (l.length:Int)+4)=ok:=by
  rw [← HOK.out,hpl,Bool.eq_iff_iff];simp
 clear hG hZ HS0 S3' HOK
 go_wp2
 go_ret2
 exact ⟨rfl,HZ.out.1,(((HC1.out.mono (fun _ _ h=>.inr h)).trans HS.out.2.2 (fun _ h _=>h.elim)).trans HK3.out (fun _ h _=>.inl h)).trans HZ.out.2.2 (fun _ h _=>h.elim),
  Ft',HZ.out.2.1,fun k hk=>Nat.lt_of_lt_of_le (HL3.out k hk) HZ.out.2.2.size,fun k hk=>(HF3.out k hk).imp id fun h=>Nat.le_trans (Nat.le_trans HC1.out.size HS.out.2.2.size) h⟩
end
end Go.Proofs.YtodcnkbblippnaaGreatDoor
namespace Go.Proofs.YtodcnkbblippnaaGreatDoor
open Go.RowKit
def A1m (name:List UInt8):Nat:=A0w 4294967295 name
def A2i (B:Nat) (w:World):Prop:=
 B≤w.heap.size∧∀ w',Below B w w'→(∀ k:Nat,1≤k→k≤4→w'.cell? ⟨0,k,none⟩=some (.string ⟨(ltr k).toArray⟩))∧Lib.TabIs Tryz.prog w' "internal/strconv.uint64pow10" .u64 Lib.pow10Tab
theorem A2i.keep {B:Nat} {w w':World} {S:Nat→Prop} (h:A2i B w) (hc:Chg S w w') (hS:∀ k,S k→B≤k):A2i B w':=
 ⟨Nat.le_trans h.1 hc.size,fun w2 h2=>h.2 w2 ((hc.below h.1 fun k hk hs=>by have:=hS k hs;omega).trans h2)⟩
theorem A2i.keep0 {B:Nat} {w w':World} (h:A2i B w) (hc:Chg (fun _=>False) w w'):A2i B w':=h.keep hc fun _ h=>h.elim
theorem A6Y (s:Int):(ltr s).length≤1:=by
 unfold ltr
 split
 ·simp
 ·split
  ·simp
  ·split
   ·simp
   ·split <;> simp
theorem A8j (lt:List UInt8) (n:Int):(A2B lt n).length=lt.length+(19 - (Lib.itoa n).length)+(Lib.itoa n).length:=by
 unfold A2B
 have:=Lib.repeatL_length [48] (19 - (Lib.itoa n).length)
 simp only [List.length_append,this]
 simp
theorem A6c {s n:Int} (h:(Lib.itoa n).length≤19):(A2b s n).length≤100:=by
 have h1:=A6Y s
 unfold A2b
 split
 ·rw [A8j];omega
 ·omega
theorem A4H {B:Nat} {n:Int} (w:World) (k:Nat) (hk:1≤k∧k≤4) (hn : -9223372036854775808≤n∧n≤9223372036854775807) (hd:(Lib.itoa n).length≤19) (hL:A2i B w):
 Calls Tryz.prog 134 #[.int .i64 k,.int .i64 n] w fun e w'=>e=.returned (.string ⟨(A2b k n).toArray⟩)∧Chg (fun _=>False) w w':=by
 obtain ⟨h1,h2⟩:=hL.2 w (Below.refl _ _)
 have hl:=h1 k hk.1 hk.2
 by_cases h:k=1∨k=2
 ·have e:A2b k n=A2B (ltr k) n:=by unfold A2b;rw [if_pos (by omega)]
  rw [e]
  exact B1a w k k ⟨rfl,h⟩ (ltr k) n hn (by have:=A6Y k;omega) hd hl h2
 ·have e:A2b k n=ltr k:=by unfold A2b;rw [if_neg (by omega)]
  rw [e]
  refine (A6g w k (by omega) (ltr k) n hl).mono ?_
  rintro e w' ⟨rfl,rfl⟩
  exact ⟨rfl,Chg.refl _ _⟩
def A1j (n:Int):Prop:=0≤n∧n≤9223372036854775807∧(Lib.itoa n).length≤19
section
variable {B:Nat} {n:Int} {p:Value}
set_option maxRecDepth 100000 in
set_option maxHeartbeats 1000000 in
theorem A4R (w:World) (db k:Nat) (hk:1≤k∧k≤4) (hn:A1j n) (hL:A2i B w):
 Calls Tryz.prog 125 #[.pointer (some ⟨db,0,none⟩),.int .i64 k,.int .i64 n] w fun e w'=>e=.returned (.agg #[.pointer (some ⟨db,0,none⟩),.string ⟨(A2b k n).toArray⟩,.int .u32 (A1m (A2b k n))])∧Chg (fun _=>False) w w':=by
 obtain ⟨hn1,hn2,hd⟩:=hn
 have NO:∀ w',Chg (fun _=>False) w w'→_:=fun w' hc=>A4H (n:=n) w' k hk ⟨by omega,hn2⟩ hd (hL.keep0 hc)
 have hnl:(A2b k n).length≤9223372036854775807:=by
  have:=A6c (s:=k) hd;omega
 obtain ⟨nm,hnm⟩:∃ nm,A2b k n=nm:=⟨_,rfl⟩
 rw [hnm] at NO hnl ⊢
 have AS:∀ w',_:=fun w'=>A5D w' 4294967295 nm (by omega) hnl
 obtain ⟨s0,hs0⟩:∃ s0,A1m nm=s0:=⟨_,rfl⟩
 have AS2:∀ w',Calls Tryz.prog 165 #[.int .u32 4294967295,.string ⟨nm.toArray⟩] w' fun e w''=>e=.returned (.int .u32 s0)∧w'=w'':=by rw [← hs0];exact AS
 rw [hs0]
 have HNO:=A0b NO
 have HAS:=A0b AS2
 clear NO AS AS2 hs0 hnm hnl hL hd
 go_enter Tryz.func125,Tryz.ntmps125
 go_wp2_with (fail)
 refine (HNO.out _ ((Chg.refl _ _).alloc _)).mono ?_
 rintro e w1 ⟨rfl,hc1⟩
 have hb:w1.heap[w.heap.size]?=some (.cells #[.pointer none,.string ⟨#[]⟩,.int .u32 0] 160 (0,0)):=hc1.keep (by show (w.heap.push _)[w.heap.size]?=_;rw [Array.getElem?_push_size]) (by simp)
 have c0:w1.cell? ⟨w.heap.size,0,none⟩=some (.pointer none):=by simp [World.cell?,hb]
 have c1:w1.cell? ⟨w.heap.size,1,none⟩=some (.string ⟨#[]⟩):=by simp [World.cell?,hb]
 have c2:w1.cell? ⟨w.heap.size,2,none⟩=some (.int .u32 0):=by simp [World.cell?,hb]
 have f0:w1.frozen? ⟨w.heap.size,0,none⟩=false:=by simp [World.frozen?,hb]
 have f1:w1.frozen? ⟨w.heap.size,1,none⟩=false:=by simp [World.frozen?,hb]
 have f2:w1.frozen? ⟨w.heap.size,2,none⟩=false:=by simp [World.frozen?,hb]
 have h3:=A0h (o:=2) (v:=.int .u32 s0) (A0h (o:=1) (v:=.string ⟨nm.toArray⟩) (A0h (o:=0) (v:=.pointer (some ⟨db,0,none⟩)) hb))
 have k1:Chg (fun _=>False) w w1:=((Chg.refl (fun _=>False) w).alloc _).trans hc1 (fun _ h _=>h)
 have k3:Chg (fun _=>False) w (((w1.setCell ⟨w.heap.size,0,none⟩ (.pointer (some ⟨db,0,none⟩))).setCell ⟨w.heap.size,1,none⟩ (.string ⟨nm.toArray⟩)).setCell ⟨w.heap.size,2,none⟩ (.int .u32 s0)):=((k1.setCell (by simp) _).setCell (by simp) _).setCell (by simp) _
 have H3:=A0b h3
 have K3:=A0b k3
 clear hb h3 k1 k3 hc1 HNO
 go_wp2_with (go_at_call 165;refine (HAS.out _).mono ?_;rintro e w' ⟨rfl,rfl⟩)
 generalize (((w1.setCell ⟨w.heap.size,0,none⟩ (.pointer (some ⟨db,0,none⟩))).setCell ⟨w.heap.size,1,none⟩ (.string ⟨nm.toArray⟩)).setCell ⟨w.heap.size,2,none⟩ (.int .u32 s0))=w3 at H3 K3 ⊢
 have h3:=H3.out
 have r0:w3.cell? ⟨w.heap.size,0,none⟩=some (.pointer (some ⟨db,0,none⟩)):=by simp [World.cell?,h3]
 have r1:w3.cell? ⟨w.heap.size,1,none⟩=some (.string ⟨nm.toArray⟩):=by simp [World.cell?,h3]
 have r2:w3.cell? ⟨w.heap.size,2,none⟩=some (.int .u32 s0):=by simp [World.cell?,h3]
 clear h3 H3 c0 c1 c2 f0 f1 f2
 refine bodyPost_ret (v:=.agg #[.pointer (some ⟨db,0,none⟩),.string ⟨nm.toArray⟩,.int .u32 s0]) (by simp [results,Tryz.results125,go_sem,r0,r1,r2]) rfl ?_
 exact ⟨rfl,K3.out⟩
set_option maxRecDepth 100000 in
set_option maxHeartbeats 1000000 in
theorem A8k (w:World) (db:Nat) (hn:A1j n) (hL:A2i B w):
 Calls Tryz.prog 192 #[.pointer (some ⟨db,0,none⟩),.int .i64 n] w fun e w'=>∃ lb,e=.returned (.pointer (some ⟨lb,0,none⟩))∧A0z w' lb 237 (.pointer (some ⟨db,0,none⟩)) ⟨(A2b 1 n).toArray⟩ (A1m (A2b 1 n))∧Chg (fun _=>False) w w'∧w.heap.size≤lb:=by
 have FO:=A0b (A4R w db 1 (by omega) hn hL)
 rw [show ((1:Nat):Int)=1 from rfl] at FO
 obtain ⟨nm,hnm⟩:∃ nm,A2b 1 n=nm:=⟨_,rfl⟩
 rw [hnm] at FO ⊢
 obtain ⟨s0,hs0⟩:∃ s0,A1m nm=s0:=⟨_,rfl⟩
 rw [hs0] at FO ⊢
 clear hL hn hnm hs0
 go_enter Tryz.func192,Tryz.ntmps192
 go_wp2_with (go_at_call 125;refine FO.out.mono ?_;rintro e w1 ⟨rfl,hc⟩;have HC:=A0b hc;clear hc)
 go_ret
 exact ⟨w1.heap.size,rfl,(by show (w1.heap.push _)[w1.heap.size]?=_;rw [Array.getElem?_push_size]),HC.out.alloc _,HC.out.size⟩
def A0S (w:World) (xb:Nat) (T:TypeId) (b:Nat) (name:List UInt8) (s:Nat) (n:Int) (v:Value):Prop:=w.heap[xb]?=some (.cells #[.pointer (some ⟨b,0,none⟩),.string ⟨name.toArray⟩,.int .u32 s,.int .i64 n,v] T (0,0))
section
variable {w w':World} {xb:Nat} {T:TypeId} {b:Nat} {name:List UInt8} {s:Nat} {v:Value}
theorem A0S.c0 (h:A0S w xb T b name s n v):w.cell? ⟨xb,0,none⟩=some (.pointer (some ⟨b,0,none⟩)):=by unfold A0S at h;simp [World.cell?,h]
theorem A0S.c1 (h:A0S w xb T b name s n v):w.cell? ⟨xb,1,none⟩=some (.string ⟨name.toArray⟩):=by unfold A0S at h;simp [World.cell?,h]
theorem A0S.c2 (h:A0S w xb T b name s n v):w.cell? ⟨xb,2,none⟩=some (.int .u32 s):=by unfold A0S at h;simp [World.cell?,h]
theorem A0S.c3 (h:A0S w xb T b name s n v):w.cell? ⟨xb,3,none⟩=some (.int .i64 n):=by unfold A0S at h;simp [World.cell?,h]
theorem A0S.c4 (h:A0S w xb T b name s n v):w.cell? ⟨xb,4,none⟩=some v:=by unfold A0S at h;simp [World.cell?,h]
theorem A0S.fz (h:A0S w xb T b name s n v) (o:Nat):w.frozen? ⟨xb,o,none⟩=false:=by unfold A0S at h;simp [World.frozen?,h]
theorem A0S.lt (h:A0S w xb T b name s n v):xb<w.heap.size:=lt_of_block h
theorem A0S.s3 (h:A0S w xb T b name s n v) (x:Int):A0S (w.setCell ⟨xb,3,none⟩ (.int .i64 x)) xb T b name s x v:=A0h h
theorem A0S.s4 (h:A0S w xb T b name s n v) (x:Value):A0S (w.setCell ⟨xb,4,none⟩ x) xb T b name s n x:=A0h h
theorem A0S.drew (h:A0S w xb T b name s n v):A0S w.drew xb T b name s n v:=by unfold A0S at h ⊢;exact h
theorem A0S.keep {S:Nat→Prop} (h:A0S w xb T b name s n v) (hc:Chg S w w') (hn:¬ S xb):A0S w' xb T b name s n v:=hc.keep h hn
end
set_option maxRecDepth 100000 in
set_option maxHeartbeats 1000000 in
theorem A4s (w:World) (db:Nat) (hn:A1j n) (hL:A2i B w):
 Calls Tryz.prog 175 #[.pointer (some ⟨db,0,none⟩),.int .i64 n] w fun e w'=>∃ gb,e=.returned (.pointer (some ⟨gb,0,none⟩))∧A0S w' gb 182 db (A2b 2 n) (A1m (A2b 2 n)) n (.slice none 0 0)∧Chg (fun _=>False) w w'∧w.heap.size≤gb:=by
 have FO:=A0b (A4R w db 2 (by omega) hn hL)
 rw [show ((2:Nat):Int)=2 from rfl] at FO
 obtain ⟨nm,hnm⟩:∃ nm,A2b 2 n=nm:=⟨_,rfl⟩
 rw [hnm] at FO ⊢
 obtain ⟨s0,hs0⟩:∃ s0,A1m nm=s0:=⟨_,rfl⟩
 rw [hs0] at FO ⊢
 clear hL hn hnm hs0
 go_enter Tryz.func175,Tryz.ntmps175
 go_wp2_with (go_at_call 125;refine FO.out.mono ?_;rintro e w1 ⟨rfl,hc⟩;have HC:=A0b hc;clear hc)
 go_ret
 exact ⟨w1.heap.size,rfl,(by show (w1.heap.push _)[w1.heap.size]?=_;rw [Array.getElem?_push_size]),HC.out.alloc _,HC.out.size⟩
end
end Go.Proofs.YtodcnkbblippnaaGreatDoor
namespace Go.Proofs.YtodcnkbblippnaaGreatDoor
open Go.RowKit
attribute [local go_sem ↓] Go.wp_at_zero Go.wp_at_succ
theorem A8s:∀ (m u acc:Nat) (r:List UInt8),u<m→acc*10 ^ Lib.nDigits u+u<18446744073709551616→Lib.parseUint10 acc (Lib.decDigits u ++ r)=Lib.parseUint10 (acc*10 ^ Lib.nDigits u+u) r
 | 0,u,acc,r,h,_=>by omega
 | m+1,u,acc,r,h,hb=>by
  have one:∀ (a x:Nat) (r:List UInt8),x<10→a*10+x<18446744073709551616→Lib.parseUint10 a (UInt8.ofNat (48+x):: r)=Lib.parseUint10 (a*10+x) r:=fun a x r hx ha=>by
   have e:(UInt8.ofNat (48+x)).toNat=48+x:=by simp;omega
   simp only [Lib.parseUint10,e]
   rw [if_pos (by omega),if_neg (by omega),if_neg (by omega)]
   congr 1;omega
  by_cases h10:u<10
  ·rw [Lib.decDigits_one h10,Lib.nDigits_small h10] at *
   simp only [List.cons_append,List.nil_append,Nat.pow_one]
   exact one acc u r h10 (by simpa using hb)
  ·rw [Lib.nDigits_big h10,Nat.pow_succ] at *
   have e:acc*(10 ^ Lib.nDigits (u / 10)*10)+u=(acc*10 ^ Lib.nDigits (u / 10)+u / 10)*10+u % 10:=by
    rw [← Nat.mul_assoc,Nat.add_mul];omega
   rw [e] at hb ⊢
   have ed:Lib.decDigits u=Lib.decDigits (u / 10) ++ [UInt8.ofNat (48+u % 10)]:=by
    rw [Lib.decDigits,dif_neg h10]
   rw [ed,List.append_assoc,A8s m (u / 10) acc _ (by omega) (by omega)]
   exact one _ _ r (by omega) hb
theorem A9E (c:Nat) (r:List UInt8):Lib.parseUint10 0 (List.replicate c 48 ++ r)=Lib.parseUint10 0 r:=by
 induction c with
 | zero=>rfl
 | succ c ih=>simp only [List.replicate_succ,List.cons_append,Lib.parseUint10];exact ih
theorem A6H (k:Nat):∀ u,u<10 ^ k→1≤k→Lib.nDigits u≤k:=by
 induction k with
 | zero=>intro u _ h;omega
 | succ k ih=>
  intro u hu _
  by_cases h:u<10
  ·rw [Lib.nDigits_small h];omega
  ·rw [Lib.nDigits_big h]
   rw [Nat.pow_succ] at hu
   cases k with
   | zero=>simp at hu;omega
   | succ k=>have:=ih (u / 10) (by omega) (by omega);omega
theorem A7h {n:Int} (h:0≤n):Lib.itoa n=Lib.decDigits n.toNat:=by unfold Lib.itoa;rw [if_neg (by omega)]
theorem A2c {n:Int} (h0:0≤n) (h1:n≤4611686018427387904):A1j n:=by
 refine ⟨h0,by omega,?_⟩
 rw [A7h h0,Lib.decDigits_length]
 exact A6H 19 _ (by omega) (by omega)
theorem B3R (c:Nat):Lib.repeatL [48] c=List.replicate c 48:=by
 induction c with
 | zero=>rfl
 | succ c ih=>simp [Lib.repeatL,ih,List.replicate_succ]
theorem A6u (u:Nat):∃ b r,Lib.decDigits u=b :: r∧48≤b.toNat∧b.toNat≤57:=by
 induction u using Nat.strongRecOn with
 | ind u ih=>
  by_cases h:u<10
  ·exact ⟨_,_,Lib.decDigits_one h,by simp;omega,by simp;omega⟩
  ·obtain ⟨b,r,h1,h2,h3⟩:=ih (u / 10) (by omega)
   refine ⟨b,r ++ [UInt8.ofNat (48+u % 10)],?_,h2,h3⟩
   rw [Lib.decDigits,dif_neg h,h1];rfl
theorem B3P {n:Int} (h0:0≤n) (h1:n≤9223372036854775807) (c:Nat):Lib.atoiAll (Lib.repeatL [48] c ++ Lib.itoa n)=.ok n:=by
 rw [B3R,A7h h0]
 obtain ⟨b,r,hb,hb1,hb2⟩:=A6u n.toNat
 have hm:Lib.parseMag (List.replicate c 48 ++ Lib.decDigits n.toNat)=.ok n.toNat:=by
  unfold Lib.parseMag
  rw [if_neg (by rw [hb];simp),A9E]
  have:=A8s (n.toNat+1) n.toNat 0 [] (by omega) (by omega)
  rw [List.append_nil] at this
  rw [this]
  simp [Lib.parseUint10]
 have hc:∃ b r,List.replicate c 48 ++ Lib.decDigits n.toNat=b :: r∧b.toNat≠43∧b.toNat≠45:=by
  cases c with
  | zero=>exact ⟨b,r,by simpa using hb,by omega,by omega⟩
  | succ c=>exact ⟨48,List.replicate c 48 ++ Lib.decDigits n.toNat,by simp [List.replicate_succ],by decide,by decide⟩
 obtain ⟨b2,r2,e,k1,k2⟩:=hc
 rw [e] at hm ⊢
 rw [Lib.atoiAll_plain _ _ k1 k2,hm]
 unfold Lib.signless
 dsimp only
 rw [if_neg (by omega)]
 congr 1
 omega
theorem A4x (a b:List UInt8):Lib.hasPrefix (a ++ b) a=true:=by
 unfold Lib.hasPrefix;simp
theorem B1B (lt:List UInt8) (n:Int):Lib.trimPrefix (A2B lt n) lt=Lib.repeatL [48] (19 - (Lib.itoa n).length) ++ Lib.itoa n:=by
 unfold Lib.trimPrefix A2B
 rw [List.append_assoc,if_pos (A4x _ _),List.drop_left]
def A1y (lt nm:List UInt8):Option Int:=match Lib.atoiAll (Lib.trimPrefix nm lt) with
 | .ok v=>if 0<v∧v≤4611686018427387904∧A2B lt v=nm then some v else none
 | _=>none
theorem A3h (lt:List UInt8) {n:Int} (h0:0<n) (h1:n≤4611686018427387904):A1y lt (A2B lt n)=some n:=by
 unfold A1y
 rw [B1B,B3P (by omega) (by omega)]
 dsimp only
 rw [if_pos ⟨h0,h1,rfl⟩]
def A0l (n:Int):List UInt8:=A2b 1 n
def A1d (n:Int):List UInt8:=A2b 2 n
def A0N:List UInt8:=[105]
def A2N:List UInt8:=[100]
def A0W (n:Int):Bool:=decide (1≤n∧n≤4611686018427387904)
def A6P (nm:List UInt8):Int × Int:=if nm=A2N then (4,0) else (0,0)
def A5c (nm:List UInt8):Int × Int:=if nm=A0N then (3,0) else A6P nm
def A6D (nm:List UInt8):Int × Int:=match A1y [115] nm with
 | some v=>(2,v)
 | none=>A5c nm
def A0D (nm:List UInt8):Int × Int:=match A1y [108] nm with
 | some v=>(1,v)
 | none=>A6D nm
def A0Z (nm:List UInt8) (k:Nat):Int × Int:=if k=1 then A0D nm else if k=2 then A6D nm else if k=3 then A5c nm else if k=4 then A6P nm else (0,0)
def A9A (s:List UInt8) (v:Int):Prop:=Lib.atoiAll s=.ok v∨(∀ x,Lib.atoiAll s≠.ok x)∧A0W v=false∧(s = []→v=0)
theorem A9M:∀ x,Lib.atoiAll []≠.ok x:=by
 intro x
 have:Lib.atoiAll []=.syntax:=by decide +kernel
 rw [this];intro h;cases h
theorem A7I (l:List UInt8):Lib.trimPrefix l l = []:=by
 unfold Lib.trimPrefix
 have:Lib.hasPrefix l l=true:=by simpa using A4x l []
 rw [if_pos this];simp
theorem A5k {lt nm:List UInt8} {v:Int} (h:A9A (Lib.trimPrefix nm lt) v):A1y lt nm=if A0W v=true∧A2B lt v=nm then some v else none:=by
 unfold A1y
 rcases h with h | ⟨h,h2,-⟩
 ·rw [h]
  dsimp only
  by_cases hc:0<v∧v≤4611686018427387904∧A2B lt v=nm
  ·rw [if_pos hc,if_pos ⟨by unfold A0W;exact decide_eq_true ⟨by omega,hc.2.1⟩,hc.2.2⟩]
  ·rw [if_neg hc,if_neg]
   rintro ⟨h1,h2⟩
   unfold A0W at h1
   have:=of_decide_eq_true h1
   exact hc ⟨by omega,this.2,h2⟩
 ·rw [h2,if_neg (by simp)]
  cases hx:Lib.atoiAll (Lib.trimPrefix nm lt) with
  | ok x=>exact absurd hx (h x)
  | «syntax»=>rfl
  | range=>rfl
theorem A5U (nm:List UInt8):A0Z nm 1=A0D nm:=by simp [A0Z]
theorem A6p (nm:List UInt8):A0Z nm 2=A6D nm:=by simp [A0Z]
theorem A5J (nm:List UInt8):A0Z nm 3=A5c nm:=by simp [A0Z]
theorem A6h (nm:List UInt8):A0Z nm 4=A6P nm:=by simp [A0Z]
theorem A6f (nm:List UInt8):A0Z nm 5=(0,0):=by simp [A0Z]
theorem B1Q {nm:List UInt8} {k:Nat} {v:Int} (hk:1≤k∧k≤4) (h:A9A (Lib.trimPrefix nm (ltr k)) v):
 A0Z nm k=if A0W v=decide ((k:Int)=1∨(k:Int)=2)∧A2b k v=nm then ((k:Int),v) else A0Z nm (k+1):=by
 have h4:k=1∨k=2∨k=3∨k=4:=by omega
 rcases h4 with rfl | rfl | rfl | rfl
 ·have e:A2b ((1:Nat):Int) v=A2B [108] v:=rfl
  have e2:decide (((1:Nat):Int)=1∨((1:Nat):Int)=2)=true:=by decide
  have:=A5k h
  rw [show ltr ((1:Nat):Int) = [108] from rfl] at this
  rw [A5U,A6p,e,e2,A0D,this]
  by_cases hc:A0W v=true∧A2B [108] v=nm
  ·rw [if_pos hc,if_pos hc];rfl
  ·rw [if_neg hc,if_neg hc]
 ·have e:A2b ((2:Nat):Int) v=A2B [115] v:=rfl
  have e2:decide (((2:Nat):Int)=1∨((2:Nat):Int)=2)=true:=by decide
  have:=A5k h
  rw [show ltr ((2:Nat):Int) = [115] from rfl] at this
  rw [A6p,A5J,e,e2,A6D,this]
  by_cases hc:A0W v=true∧A2B [115] v=nm
  ·rw [if_pos hc,if_pos hc];rfl
  ·rw [if_neg hc,if_neg hc]
 ·have e:A2b ((3:Nat):Int) v=A0N:=rfl
  have e2:decide (((3:Nat):Int)=1∨((3:Nat):Int)=2)=false:=by decide
  rw [A5J,A6h,e,e2,A5c]
  by_cases hc:nm=A0N
  ·subst hc
   have hv:A0W v=false∧v=0:=by
    rw [show ltr ((3:Nat):Int)=A0N from rfl,A7I] at h
    rcases h with h | ⟨_,h1,h2⟩
    ·exact absurd h (A9M v)
    ·exact ⟨h1,h2 rfl⟩
   rw [if_pos rfl,if_pos ⟨hv.1,rfl⟩,hv.2];rfl
  ·rw [if_neg hc,if_neg (fun h=>hc h.2.symm)]
 ·have e:A2b ((4:Nat):Int) v=A2N:=rfl
  have e2:decide (((4:Nat):Int)=1∨((4:Nat):Int)=2)=false:=by decide
  rw [A6h,A6f,e,e2,A6P]
  by_cases hc:nm=A2N
  ·subst hc
   have hv:A0W v=false∧v=0:=by
    rw [show ltr ((4:Nat):Int)=A2N from rfl,A7I] at h
    rcases h with h | ⟨_,h1,h2⟩
    ·exact absurd h (A9M v)
    ·exact ⟨h1,h2 rfl⟩
   rw [if_pos rfl,if_pos ⟨hv.1,rfl⟩,hv.2];rfl
  ·rw [if_neg hc,if_neg (fun h=>hc h.2.symm)]
end Go.Proofs.YtodcnkbblippnaaGreatDoor
