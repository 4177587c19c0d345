/-
  The statement WritesUptoCardSaid is proved: the law Writes answers true for every setting and every script of at most 1048576 bytes; there is no other condition.
  Part 19 of 33.
-/
import Derived.Test.YtodcnkbblippnaaGreatDoorPart18
namespace Go.Proofs.YtodcnkbblippnaaGreatDoor
open Go.RowKit
attribute [local go_sem ↓] A0p
theorem Tryz.infoStr:(Tryz.prog.info? 9).map (fun i=>(i.zero,i.size,i.bytes))=some (some (.string ⟨#[]⟩),1,16):=by kernel_rfl
theorem B5f:∃ i0,Tryz.prog.info? 9=some i0∧i0.zero=some (.string ⟨#[]⟩)∧i0.size=1∧i0.bytes=16:=by
 have h:=Tryz.infoStr
 cases hx:Tryz.prog.info? 9 with
 | none=>rw [hx] at h;cases h
 | some i=>rw [hx] at h;simp at h;exact ⟨i,rfl,h.1,h.2.1,h.2.2⟩
def A4P (l:List Bs):List Bs:=l.mergeSort fun x y=>decide (x≤y)
theorem A8Q (l:List Bs):(A4P l).Pairwise fun a b=>¬ b<a:=by
 have h:=List.pairwise_mergeSort (le:=fun x y:Bs=>decide (x≤y)) (fun a b c h1 h2=>by simp at h1 h2 ⊢;exact List.le_trans h1 h2) (fun a b=>by simp;exact List.le_total a b) l
 exact h.imp fun hab=>by simpa using hab
theorem A5B (l:List Bs) (x:Bs):x∈A4P l↔x∈l:=List.mem_mergeSort
theorem A6v (l:List Bs):(A4P l).length=l.length:=List.length_mergeSort _
section
variable {w:World} {ab b xb jb B:Nat} {sv ov lv jo:Value} {A:Ar} {P:PD} {Ft FT:Nat→Prop} {a c m:Nat}
theorem A3F {w:World} {e e2 size size2 n n2 base base2:Nat} {v v2:Value} {xs xs2:List Value} (h:w.ownsRow base e size v n xs) (h2:w.ownsRow base2 e2 size2 v2 n2 xs2) (hne:e≠e2) {g:Nat} (hg:v.ownBlock=some g):¬ v2.ownBlock=some g:=fun hg2=>by
 obtain ⟨c,hc⟩:=A0f h hg
 obtain ⟨c2,hc2⟩:=A0f h2 hg2
 exact A0r hc hc2 hne rfl
set_option maxRecDepth 100000 in
set_option maxHeartbeats 16000000 in
theorem A6C (w:World) (h:ArV w ab b xb jb sv ov lv jo A P Ft) (hF:Fit P a c m) (hl:Lim a c m) (hn:∀ n∈A.ix.segs,A1j n) (hnl:∀ n∈A.j.logs,A1j n) (hsl:A.ix.segs.length≤1073741824) (hll:A.j.logs.length≤1073741824) (hL:A2i B w):
 Calls Tryz.prog 100 #[.pointer (some ⟨ab,0,none⟩)] w fun e w'=>∃ v1 v2,e=.returned (.tuple #[v1,v2])∧A3V w' v1 (A.counting P)∧A3V w' v2 (A.others P)∧(∀ g,v1.ownBlock=some g→w.heap.size≤g)∧(∀ g,v2.ownBlock=some g→w.heap.size≤g)∧Chg (fun _=>False) w w':=by
 obtain ⟨i0,hi,hz0,hz1,hz2⟩:=B5f
 have HV:=A0b h
 have NO:Hid (∀ w1 k n,Chg (fun _=>False) w w1→1≤k∧k≤4→A1j n→Calls Tryz.prog 134 #[.int .i64 (k:Nat),.int .i64 n] w1 fun e w'=>e=.returned (.string ⟨(A2b k n).toArray⟩)∧Chg (fun _=>False) w1 w'):=fun w1 k n hc hk hn=>A4H (n:=n) w1 k hk ⟨by have:=hn.1;omega,hn.2.1⟩ hn.2.2 (hL.keep0 hc)
 have NO3:=A0b (NO.out w 3 0 (Chg.refl _ w) (by omega) (A2c (by omega) (by omega)))
 have LG:Hid (∀ w1,Chg (fun _=>False) w w1→Calls Tryz.prog 136 #[.pointer (some ⟨jb,0,none⟩)] w1 fun e w'=>∃ v,e=.returned v∧A5p w' v A.j.logs∧(∀ g,v.ownBlock=some g→w1.heap.size≤g)∧Chg (fun _=>False) w1 w'):=fun w1 hc=>B4v w1 (h.jn.chg0 hc) hll
 have LI:Hid (∀ w1,Chg (fun _=>False) w w1→Calls Tryz.prog 76 #[.pointer (some ⟨b,0,none⟩)] w1 fun e w'=>∃ v,e=.returned v∧A3V w' v P.names∧Chg (fun _=>False) w1 w'∧(∀ g,v.ownBlock=some g→w1.heap.size≤g)):=fun w1 hc=>B4T (A0R.same h.dk h.lt hc) hF hl
 have hpl:P.names.length≤1073741824:=by rw [A2g];exact Nat.le_trans hF.dir hl.a
 have HNN:Hid (A.names = [A0N] ++ A.j.logs.map A0l ++ A.ix.segs.map A1d):=rfl
 have HCO:Hid (A.counting P=P.names.filter fun nm=>decide (nm∈A.names)):=rfl
 have HOT:Hid (A.others P=P.names.filter fun nm=>!decide (nm∈A.names)):=rfl
 have HN1:=A0b hn
 have HN2:=A0b hnl
 obtain ⟨CO,hCO⟩:∃ x,A.counting P=x:=⟨_,rfl⟩
 obtain ⟨OT,hOT⟩:∃ x,A.others P=x:=⟨_,rfl⟩
 obtain ⟨NS,hNS⟩:∃ x,A.names=x:=⟨_,rfl⟩
 rw [hCO,hNS] at HCO
 rw [hOT,hNS] at HOT
 rw [hNS] at HNN
 rw [hCO,hOT]
 have hnsl:NS.length≤4294967296:=by rw [HNN.out];simp;omega
 have hsg:=h.segs
 clear hCO hOT hNS hn hnl hF hl hL h
 generalize hns:P.names=ns at *
 generalize hlgs:A.j.logs=lgs at *
 generalize hss:A.ix.segs=ss at *
 clear hns
 obtain ⟨sa,scap,rfl,sc1,sc2⟩:=hsg.form
 unfold maxLen at sc2
 have HSG:=A0b hsg
 clear hsg
 go_enter Tryz.func100,Tryz.ntmps100
 go_wp2_with (fail)
 refine NO3.out.mono ?_
 rintro e w1 ⟨rfl,hc1⟩
 have e3:A2b ((3:Nat):Int) 0=A0N:=rfl
 rw [e3]
 have hc2:Chg (fun _=>False) w (w1.alloc (.cells #[.string ⟨A0N.toArray⟩] 9)):=hc1.alloc _
 have a2:=((HV.out.chg0 hc2).blk).c2
 have HNAM:Hid (A3V (w1.alloc (.cells #[.string ⟨A0N.toArray⟩] 9)) (.slice (some ⟨w1.heap.size,0,none⟩) 1 1) [A0N]):=
  ⟨rfl,.inr ⟨w1.heap.size,1,_,rfl,Nat.zero_le _,heap_alloc_new w1 _,Nat.le_refl _,by decide,rfl,rfl⟩⟩
 have LG2:=A0b (LG.out _ hc2)
 have HC2:=A0b hc2
 have HS1:Hid (w.heap.size≤w1.heap.size):=hc1.size
 clear hc1 hc2 NO3 LG e3
 go_wp2_with (fail)
 refine LG2.out.mono ?_
 rintro e w2 ⟨v,rfl,hv,hvo,hc3⟩
 obtain ⟨la,lcap,rfl,lc1,lc2⟩:=(A5p.rd hv).form
 unfold maxLen at lc2
 have HLG:=A0b hv
 have HLO:=A0b hvo
 have HC3:Hid (Chg (fun _=>False) w w2):=HC2.out.trans hc3 fun _ h _=>h
 have HNAM2:Hid (A3V w2 (.slice (some ⟨w1.heap.size,0,none⟩) 1 1) [A0N]):=A0a HNAM.out fun g hg=>hc3.block g (A0c HNAM.out hg) (fun h=>h)
 clear hv hvo hc3 LG2 HNAM HC2 a2
 go_wp2
 go_loopw [4,23] (fun v iv wr=>∃ k:Nat,iv=.int .i64 k∧k≤lgs.length∧Hid (A3V wr v ([A0N] ++ (lgs.take k).map A0l)∧(∀ g,v.ownBlock=some g→w.heap.size≤g)∧Chg (fun _=>False) w wr∧A5p wr (.slice la lgs.length lcap) lgs)) (fun _ iv _=>lgs.length - (intOf iv).toNat)
 case atStart=>exact ⟨0,rfl,by omega,by simpa using HNAM2.out,fun g hg=>by simp [Value.ownBlock] at hg;have:=HS1.out;omega,HC3.out,HLG.out⟩
 case round=>
  obtain ⟨k,rfl,hk,hI⟩:=hrel
  obtain ⟨i1,i2,i3,i4⟩:=hI.out
  obtain ⟨ap,cp,rfl,hcap1,hcap2,-⟩:=A0g i1
  unfold maxLen at hcap2
  by_cases hk1:k<lgs.length
  ·obtain ⟨g,o,rfl,d1⟩:=RdI.at (A5p.rd i4) k hk1
   have hmem:=HN2.out _ (List.getElem_mem hk1)
   have htk:lgs.take (k+1)=lgs.take k ++ [lgs[k]'hk1]:=List.take_succ_eq_append_getElem hk1
   obtain ⟨n,hne⟩:∃ n,(lgs[k]'hk1)=n:=⟨_,rfl⟩
   rw [hne] at d1 hmem htk
   have NO1:=A0b (NO.out wr 1 n i3 (by omega) hmem)
   rw [show ((1:Nat):Int)=1 from rfl] at NO1
   have HTK:Hid ([A0N] ++ (lgs.take (k+1)).map A0l=([A0N] ++ (lgs.take k).map A0l) ++ [A0l n]):=by unfold Hid;rw [htk];simp
   have hnm:A2b 1 n=A0l n:=rfl
   rw [hnm] at NO1
   have hcl:([A0N] ++ (lgs.take k).map A0l).length≤4294967296:=by simp;omega
   obtain ⟨cur,hcur⟩:∃ cur,[A0N] ++ (lgs.take k).map A0l=cur:=⟨_,rfl⟩
   rw [hcur] at i1 i2 HTK hcl hcap1
   have HCL:=A0b hcl
   have el:([A0N] ++ (lgs.take k).map A0l).length=cur.length:=by rw [hcur]
   try rw [el]
   obtain ⟨nm,hnme⟩:∃ nm,A0l n=nm:=⟨_,rfl⟩
   rw [hnme] at NO1 HTK
   have I1:=A0b i1
   have I2:=A0b i2
   have I3:=A0b i3
   have I4:=A0b i4
   have hki:(k:Int)<(lgs.length:Int):=by omega
   have hk0:(0:Int)≤(k:Int):=Int.natCast_nonneg _
   have HEL:=A0b el
   clear hI i1 i2 i3 i4 hmem htk hne hcur hnm hnme hcl el
   go_wp2_with (fail)
   refine NO1.out.mono ?_
   rintro e w6 ⟨rfl,hc6⟩
   have C6:=A0b hc6
   have HROW:Hid ((w6.alloc (.cells #[.string ⟨nm.toArray⟩] 9)).ownsRow 0 9 1 (.slice ap cur.length cp) cur.length (A0U cur)):=A0a I1.out fun g hg=>(hc6.alloc _).block g (A0c I1.out hg) (fun h=>h)
   have HSR:=A0b (Src.ofNew (size:=1) (B:=w6.heap.size) Tryz.underlying121 w6 #[.string ⟨nm.toArray⟩] 9 (by simp) 1 1 rfl (A2e [nm]))
   clear hc6 NO1
   go_wp2_with (at_builtin;refine A0o rfl (.tmp 27) (.tmp 30) 121 121 rfl 9 i0 _ 1 16 Tryz.underlying121 hi hz0 hz1 hz2 rfl (by decide) (.slice ap cur.length cp) cur.length (A0U cur) (by rfl) HROW.out _ 1 _ (by rfl) HSR.out (by have:=HCL.out;omega) ?_;intro a8 cap8 w8 hA;have HA:=A0b hA;clear hA)
   go_roundw
   case rel=>
    have hA:=HA.out
    have k7:Chg (fun _=>False) wr (w6.alloc (.cells #[.string ⟨nm.toArray⟩] 9)):=C6.out.alloc _
    have hA2:=hA.chg (S:=fun k=>(Value.slice ap cur.length cp).ownBlock=some k) fun _ h=>h
    have k8:Chg (fun k=>(Value.slice ap cur.length cp).ownBlock=some k) wr w8:=(k7.mono fun _ _ h=>h.elim).trans hA2 fun _ h _=>h
    have e:(cur ++ [nm]).length=cur.length+1:=by simp
    have e2:A0U (cur ++ [nm])=A0U cur ++ A0U [nm]:=A2s _ _
    refine ⟨k+1,by go_num,by omega,?_,?_,?_,?_⟩
    ·rw [HTK.out]
     unfold A3V
     rw [e,e2]
     exact hA.own
    ·intro g hg
     rcases hA.at_ with h | h
     ·rw [h] at hg;exact I2.out g hg
     ·rw [h] at hg;cases hg;have:=I3.out.size;have:=k7.size;have:=C6.out.size;omega
    ·exact I3.out.trans k8 fun y hy hlt=>by have:=I2.out y hy;omega
    ·exact A0a I4.out fun g hg=>k8.block g (A0c I4.out hg) (A3F I4.out I1.out (by decide) hg)
   case measure=>simp [intOf];omega
  ·obtain rfl:k=lgs.length:=by omega
   rw [List.take_length] at i1 i2
   have hki:¬ ((lgs.length:Int)<(lgs.length:Int)):=by omega
   obtain ⟨cur,hcur⟩:∃ cur,[A0N] ++ lgs.map A0l=cur:=⟨_,rfl⟩
   have el:([A0N] ++ (lgs.take lgs.length).map A0l).length=cur.length:=by rw [List.take_length,hcur]
   rw [hcur] at i1 i2
   rw [hcur] at HNN
   try rw [el]
   have I1:=A0b i1
   have I2:=A0b i2
   have I3:=A0b i3
   have a1:=(HV.out.chg0 i3).blk.c1
   have x4:=(HV.out.chg0 i3).ix.c4
   have HCUR:=A0b hcur
   clear hI i1 i2 i3 i4 HN2 HNAM2 HLG HLO HC3 el hcur
   go_wp2
   have hcl:cur.length+ss.length≤4294967296:=by have:=hnsl;rw [HNN.out] at this;simpa using this
   go_loopw [4,41] (fun v iv wr=>∃ k:Nat,iv=.int .i64 k∧k≤ss.length∧Hid (A3V wr v (cur ++ (ss.take k).map A1d)∧(∀ g,v.ownBlock=some g→w.heap.size≤g)∧Chg (fun _=>False) w wr)) (fun _ iv _=>ss.length - (intOf iv).toNat)
   case atStart=>exact ⟨0,rfl,by omega,by simpa using I1.out,I2.out,I3.out⟩
   case round=>
    obtain ⟨k,rfl,hk,hI⟩:=hrel
    obtain ⟨i1,i2,i3⟩:=hI.out
    obtain ⟨ap2,cp2,rfl,hcap3,hcap4,-⟩:=A0g i1
    unfold maxLen at hcap4
    by_cases hk1:k<ss.length
    ·obtain ⟨g,o,rfl,d0⟩:=RdI.at HSG.out k hk1
     have d1:=i3.cellKeep d0
     have hmem:=HN1.out _ (List.getElem_mem hk1)
     have htk:ss.take (k+1)=ss.take k ++ [ss[k]'hk1]:=List.take_succ_eq_append_getElem hk1
     obtain ⟨n,hne⟩:∃ n,(ss[k]'hk1)=n:=⟨_,rfl⟩
     rw [hne] at d0 d1 hmem htk
     have NO1:=A0b (NO.out wr 2 n i3 (by omega) hmem)
     rw [show ((2:Nat):Int)=2 from rfl] at NO1
     have HTK:Hid (cur ++ (ss.take (k+1)).map A1d=(cur ++ (ss.take k).map A1d) ++ [A1d n]):=by unfold Hid;rw [htk];simp
     have hnm:A2b 2 n=A1d n:=rfl
     rw [hnm] at NO1
     have hcl2:(cur ++ (ss.take k).map A1d).length≤4294967296:=by simp;omega
     obtain ⟨cu,hcu⟩:∃ cu,cur ++ (ss.take k).map A1d=cu:=⟨_,rfl⟩
     rw [hcu] at i1 i2 HTK hcl2 hcap3
     have HCL:=A0b hcl2
     have el:(cur ++ (ss.take k).map A1d).length=cu.length:=by rw [hcu]
     try rw [el]
     obtain ⟨nm,hnme⟩:∃ nm,A1d n=nm:=⟨_,rfl⟩
     rw [hnme] at NO1 HTK
     have J1:=A0b i1
     have J2:=A0b i2
     have J3:=A0b i3
     have hki:(k:Int)<(ss.length:Int):=by omega
     have hk0:(0:Int)≤(k:Int):=Int.natCast_nonneg _
     clear hI i1 i2 i3 hmem htk hne hcu hnm hnme hcl2 el d0
     go_wp2_with (fail)
     refine NO1.out.mono ?_
     rintro e w6 ⟨rfl,hc6⟩
     have C6:=A0b hc6
     have HROW:Hid ((w6.alloc (.cells #[.string ⟨nm.toArray⟩] 9)).ownsRow 0 9 1 (.slice ap2 cu.length cp2) cu.length (A0U cu)):=A0a J1.out fun g hg=>(hc6.alloc _).block g (A0c J1.out hg) (fun h=>h)
     have HSR:=A0b (Src.ofNew (size:=1) (B:=w6.heap.size) Tryz.underlying121 w6 #[.string ⟨nm.toArray⟩] 9 (by simp) 1 1 rfl (A2e [nm]))
     clear hc6 NO1
     go_wp2_with (at_builtin;refine A0o rfl (.tmp 45) (.tmp 48) 121 121 rfl 9 i0 _ 1 16 Tryz.underlying121 hi hz0 hz1 hz2 rfl (by decide) (.slice ap2 cu.length cp2) cu.length (A0U cu) (by rfl) HROW.out _ 1 _ (by rfl) HSR.out (by have:=HCL.out;omega) ?_;intro a8 cap8 w8 hA;have HA:=A0b hA;clear hA)
     go_roundw
     case rel=>
      have hA:=HA.out
      have k7:Chg (fun _=>False) wr (w6.alloc (.cells #[.string ⟨nm.toArray⟩] 9)):=C6.out.alloc _
      have hA2:=hA.chg (S:=fun k=>(Value.slice ap2 cu.length cp2).ownBlock=some k) fun _ h=>h
      have k8:Chg (fun k=>(Value.slice ap2 cu.length cp2).ownBlock=some k) wr w8:=(k7.mono fun _ _ h=>h.elim).trans hA2 fun _ h _=>h
      have e:(cu ++ [nm]).length=cu.length+1:=by simp
      have e2:A0U (cu ++ [nm])=A0U cu ++ A0U [nm]:=A2s _ _
      refine ⟨k+1,by go_num,by omega,?_,?_,?_⟩
      ·rw [HTK.out]
       unfold A3V
       rw [e,e2]
       exact hA.own
      ·intro g hg
       rcases hA.at_ with h | h
       ·rw [h] at hg;exact J2.out g hg
       ·rw [h] at hg;cases hg;have:=J3.out.size;have:=k7.size;have:=C6.out.size;omega
      ·exact J3.out.trans k8 fun y hy hlt=>by have:=J2.out y hy;omega
     case measure=>simp [intOf];omega
    ·obtain rfl:k=ss.length:=by omega
     rw [List.take_length,← HNN.out] at i1 i2
     have hki:¬ ((ss.length:Int)<(ss.length:Int)):=by omega
     have el:(cur ++ (ss.take ss.length).map A1d).length=NS.length:=by rw [List.take_length,HNN.out]
     try rw [el]
     have SO:=A0b (A9e wr _ NS i1 (by omega))
     have J2:=A0b i2
     have J3:=A0b i3
     clear hI i1 i2 i3 el I1 I2 I3 a1 x4 HSG HN1 NO
     go_wp2_with (fail)
     refine SO.out.mono ?_
     rintro e w3 ⟨rfl,hs3,hc3⟩
     have C3:Hid (Chg (fun _=>False) w w3):=J3.out.trans hc3 fun y hy hlt=>by have:=J2.out y hy;omega
     have HS3:Hid (RdS w3 (.slice ap2 NS.length cp2) (A4P NS)):=A3V.rd hs3
     have LI3:=A0b (LI.out w3 C3.out)
     have a0:=(HV.out.chg0 C3.out).blk.c0
     clear hs3 hc3 SO LI J3
     go_wp2_with (fail)
     refine LI3.out.mono ?_
     rintro e w4 ⟨v,rfl,hv4,hc4,hvo4⟩
     obtain ⟨na,ncap,rfl,nc1,nc2⟩:=(A3V.rd hv4).form
     unfold maxLen at nc2
     have HN4:=A0b (A3V.rd hv4)
     have C4:Hid (Chg (fun _=>False) w w4):=C3.out.trans hc4 fun _ h _=>h
     have HS4:=A0b (HS3.out.chg hc4 (fun _ _ h=>h))
     have HMEM:Hid (∀ x,decide (x∈A4P NS)=decide (x∈NS)):=fun x=>by
      by_cases h:x∈NS
      ·rw [decide_eq_true h,decide_eq_true ((A5B NS x).2 h)]
      ·rw [decide_eq_false h,decide_eq_false fun h'=>h ((A5B NS x).1 h')]
     have hasc:=A8Q NS
     have hino:=A6v NS
     obtain ⟨SN,hSN⟩:∃ SN,A4P NS=SN:=⟨_,rfl⟩
     rw [hSN] at HS4 HMEM hasc hino
     have HASC:=A0b hasc
     obtain ⟨sn,hsn⟩:∃ sn,NS.length=sn:=⟨_,rfl⟩
     try rw [hsn]
     rw [hsn] at HS4 hino
     have hsnl:sn≤4294967296:=by omega
     have BSR:Hid (∀ wx x,Chg (fun _=>False) w4 wx→Calls Tryz.prog 138 #[.slice ap2 sn cp2,.string ⟨x.toArray⟩] wx fun e w'=>∃ i,e=.returned (.tuple #[.int .i64 i,.bool (decide (x∈NS))])∧∃ q,w'=wx.drewN q):=fun wx x hx=>by
      have:=A8P wx _ SN x (HS4.out.chg hx (fun _ _ h=>h)) (by omega) HASC.out
      rw [HMEM.out x] at this
      exact this
     clear hv4 hc4 hvo4 LI3 C3 HS3 hasc hSN hsn HMEM HS4 HASC HNN a0 J2 HCUR hino
     have hnl3:ns.length≤1073741824:=hpl
     have HHL:Hid (∀ p:Bs→Bool,∀ k,((ns.take k).filter p).length≤1073741824):=fun p k=>Nat.le_trans (List.length_filter_le _ _) (Nat.le_trans (List.length_take_le' _ _) hnl3)
     go_wp2
     go_loopw [9,10,59] (fun v1 v2 iv wr=>∃ k:Nat,iv=.int .i64 k∧k≤ns.length∧Hid (A3V wr v1 ((ns.take k).filter fun nm=>decide (nm∈NS))∧A3V wr v2 ((ns.take k).filter fun nm=>!decide (nm∈NS))∧(∀ g,v1.ownBlock=some g→w4.heap.size≤g)∧(∀ g,v2.ownBlock=some g→w4.heap.size≤g)∧(∀ g,v1.ownBlock=some g→¬ v2.ownBlock=some g)∧Chg (fun _=>False) w4 wr)) (fun _ _ iv _=>ns.length - (intOf iv).toNat)
     case atStart=>exact ⟨0,rfl,by omega,World.ownsRow_nil _ _ _ _,World.ownsRow_nil _ _ _ _,fun g hg=>by simp [Value.ownBlock] at hg,fun g hg=>by simp [Value.ownBlock] at hg,fun g hg=>by simp [Value.ownBlock] at hg,Chg.refl _ _⟩
     case round=>
      obtain ⟨k,rfl,hk,hI⟩:=hrel
      obtain ⟨i1,i2,i3,i4,i5,i6⟩:=hI.out
      obtain ⟨ap,cp,rfl,hcap1,hcap2,-⟩:=A0g i1
      obtain ⟨aq,cq,rfl,hcaq1,hcaq2,-⟩:=A0g i2
      unfold maxLen at hcap2 hcaq2
      by_cases hk1:k<ns.length
      ·obtain ⟨g,o,rfl,d0⟩:=RdS.at HN4.out k hk1
       have d1:=i6.cellKeep d0
       have htk:ns.take (k+1)=ns.take k ++ [ns[k]'hk1]:=List.take_succ_eq_append_getElem hk1
       obtain ⟨nm,hne⟩:∃ nm,(ns[k]'hk1)=nm:=⟨_,rfl⟩
       rw [hne] at d0 d1 htk
       have BS1:=A0b (BSR.out wr nm i6)
       have HT1:Hid ((ns.take (k+1)).filter (fun nm=>decide (nm∈NS))=(ns.take k).filter (fun nm=>decide (nm∈NS)) ++ (if nm∈NS then [nm] else [])):=by
        unfold Hid;rw [htk,List.filter_append];by_cases hx:nm∈NS <;> simp [hx]
       have HT2:Hid ((ns.take (k+1)).filter (fun nm=>!decide (nm∈NS))=(ns.take k).filter (fun nm=>!decide (nm∈NS)) ++ (if nm∈NS then [] else [nm])):=by
        unfold Hid;rw [htk,List.filter_append];by_cases hx:nm∈NS <;> simp [hx]
       have HL1:=A0b (HHL.out (fun nm=>decide (nm∈NS)) k)
       have HL2:=A0b (HHL.out (fun nm=>!decide (nm∈NS)) k)
       obtain ⟨l1,hl1⟩:∃ l1,(ns.take k).filter (fun nm=>decide (nm∈NS))=l1:=⟨_,rfl⟩
       obtain ⟨l2,hl2⟩:∃ l2,(ns.take k).filter (fun nm=>!decide (nm∈NS))=l2:=⟨_,rfl⟩
       rw [hl1] at HT1 HL1 i1 i3 i5
       rw [hl2] at HT2 HL2 i2 i4 i5
       have el1:((ns.take k).filter (fun nm=>decide (nm∈NS))).length=l1.length:=by rw [hl1]
       have el2:((ns.take k).filter (fun nm=>!decide (nm∈NS))).length=l2.length:=by rw [hl2]
       try rw [el1]
       try rw [el2]
       have J1:=A0b i1
       have J2:=A0b i2
       have J3:=A0b i3
       have J4:=A0b i4
       have J5:=A0b i5
       have J6:=A0b i6
       have hki:(k:Int)<(ns.length:Int):=by omega
       have hk0:(0:Int)≤(k:Int):=Int.natCast_nonneg _
       clear hI i1 i2 i3 i4 i5 i6 htk hne d0 hl1 hl2 el1 el2 hcap1 hcaq1
       by_cases hx:nm∈NS
       ·rw [decide_eq_true hx] at BS1
        rw [if_pos hx] at HT1 HT2
        clear hx
        go_wp2_with (fail)
        refine BS1.out.mono ?_
        rintro e w6 ⟨i,rfl,q,rfl⟩
        have HROW:Hid (((wr.drewN q).alloc (.cells #[.string ⟨nm.toArray⟩] 9)).ownsRow 0 9 1 (.slice ap l1.length cp) l1.length (A0U l1)):=A0a J1.out fun g hg=>(((Chg.refl (fun _=>False) wr).drewN q).alloc _).block g (A0c J1.out hg) (fun h=>h)
        have HSR:=A0b (Src.ofNew (size:=1) (B:=(wr.drewN q).heap.size) Tryz.underlying121 (wr.drewN q) #[.string ⟨nm.toArray⟩] 9 (by simp) 1 1 rfl (A2e [nm]))
        have K7:Hid (Chg (fun _=>False) wr ((wr.drewN q).alloc (.cells #[.string ⟨nm.toArray⟩] 9))):=((Chg.refl (fun _=>False) wr).drewN q).alloc _
        clear BS1
        go_wp2_with (at_builtin;refine A0o rfl (.tmp 70) (.tmp 72) 121 121 rfl 9 i0 _ 1 16 Tryz.underlying121 hi hz0 hz1 hz2 rfl (by decide) (.slice ap l1.length cp) l1.length (A0U l1) (by rfl) HROW.out _ 1 _ (by rfl) HSR.out (by have:=HL1.out;omega) ?_;intro a8 cap8 w8 hA;have HA:=A0b hA;clear hA)
        go_roundw
        case rel=>
         have hA:=HA.out
         have hA2:=hA.chg (S:=fun k=>(Value.slice ap l1.length cp).ownBlock=some k) fun _ h=>h
         have k8:Chg (fun k=>(Value.slice ap l1.length cp).ownBlock=some k) wr w8:=(K7.out.mono fun _ _ h=>h.elim).trans hA2 fun _ h _=>h
         have e:(l1 ++ [nm]).length=l1.length+1:=by simp
         have e2:A0U (l1 ++ [nm])=A0U l1 ++ A0U [nm]:=A2s _ _
         have hown:∀ g,(Value.slice a8 (l1.length+1) cap8).ownBlock=some g→(Value.slice ap l1.length cp).ownBlock=some g∨wr.heap.size≤g:=fun g hg=>by
          rcases hA.at_ with h | h
          ·rw [h] at hg;exact .inl hg
          ·rw [h] at hg;cases hg;exact .inr K7.out.size
         refine ⟨k+1,by go_num,by omega,?_,?_,?_,J4.out,?_,?_⟩
         ·rw [HT1.out]
          unfold A3V
          rw [e,e2]
          exact hA.own
         ·rw [HT2.out,List.append_nil]
          exact A0a J2.out fun g hg=>k8.block g (A0c J2.out hg) fun h=>J5.out g h hg
         ·exact fun g hg=>(hown g hg).elim (J3.out g) fun h=>Nat.le_trans J6.out.size h
         ·exact fun g hg hg2=>(hown g hg).elim (fun h=>J5.out g h hg2) fun h=>by have:=A0c J2.out hg2;omega
         ·exact J6.out.trans k8 fun y hy hlt=>by have:=J3.out y hy;omega
        case measure=>simp [intOf];omega
       ·rw [decide_eq_false hx] at BS1
        rw [if_neg hx] at HT1 HT2
        clear hx
        go_wp2_with (fail)
        refine BS1.out.mono ?_
        rintro e w6 ⟨i,rfl,q,rfl⟩
        have HROW:Hid (((wr.drewN q).alloc (.cells #[.string ⟨nm.toArray⟩] 9)).ownsRow 0 9 1 (.slice aq l2.length cq) l2.length (A0U l2)):=A0a J2.out fun g hg=>(((Chg.refl (fun _=>False) wr).drewN q).alloc _).block g (A0c J2.out hg) (fun h=>h)
        have HSR:=A0b (Src.ofNew (size:=1) (B:=(wr.drewN q).heap.size) Tryz.underlying121 (wr.drewN q) #[.string ⟨nm.toArray⟩] 9 (by simp) 1 1 rfl (A2e [nm]))
        have K7:Hid (Chg (fun _=>False) wr ((wr.drewN q).alloc (.cells #[.string ⟨nm.toArray⟩] 9))):=((Chg.refl (fun _=>False) wr).drewN q).alloc _
        clear BS1
        go_wp2_with (at_builtin;refine A0o rfl (.tmp 74) (.tmp 76) 121 121 rfl 9 i0 _ 1 16 Tryz.underlying121 hi hz0 hz1 hz2 rfl (by decide) (.slice aq l2.length cq) l2.length (A0U l2) (by rfl) HROW.out _ 1 _ (by rfl) HSR.out (by have:=HL2.out;omega) ?_;intro a8 cap8 w8 hA;have HA:=A0b hA;clear hA)
        go_roundw
        case rel=>
         have hA:=HA.out
         have hA2:=hA.chg (S:=fun k=>(Value.slice aq l2.length cq).ownBlock=some k) fun _ h=>h
         have k8:Chg (fun k=>(Value.slice aq l2.length cq).ownBlock=some k) wr w8:=(K7.out.mono fun _ _ h=>h.elim).trans hA2 fun _ h _=>h
         have e:(l2 ++ [nm]).length=l2.length+1:=by simp
         have e2:A0U (l2 ++ [nm])=A0U l2 ++ A0U [nm]:=A2s _ _
         have hown:∀ g,(Value.slice a8 (l2.length+1) cap8).ownBlock=some g→(Value.slice aq l2.length cq).ownBlock=some g∨wr.heap.size≤g:=fun g hg=>by
          rcases hA.at_ with h | h
          ·rw [h] at hg;exact .inl hg
          ·rw [h] at hg;cases hg;exact .inr K7.out.size
         refine ⟨k+1,by go_num,by omega,?_,?_,J3.out,?_,?_,?_⟩
         ·rw [HT1.out,List.append_nil]
          exact A0a J1.out fun g hg=>k8.block g (A0c J1.out hg) fun h=>J5.out g hg h
         ·rw [HT2.out]
          unfold A3V
          rw [e,e2]
          exact hA.own
         ·exact fun g hg=>(hown g hg).elim (J4.out g) fun h=>Nat.le_trans J6.out.size h
         ·exact fun g hg hg2=>(hown g hg2).elim (fun h=>J5.out g hg h) fun h=>by have:=A0c J1.out hg;omega
         ·exact J6.out.trans k8 fun y hy hlt=>by have:=J4.out y hy;omega
        case measure=>simp [intOf];omega
      ·obtain rfl:k=ns.length:=by omega
       rw [List.take_length,← HCO.out] at i1 i3
       rw [List.take_length,← HOT.out] at i2 i4
       have el1:((ns.take ns.length).filter (fun nm=>decide (nm∈NS))).length=CO.length:=by rw [List.take_length,← HCO.out]
       have el2:((ns.take ns.length).filter (fun nm=>!decide (nm∈NS))).length=OT.length:=by rw [List.take_length,← HOT.out]
       try rw [el1]
       try rw [el2]
       have J1:=A0b i1
       have J2:=A0b i2
       have J3:=A0b i3
       have J4:=A0b i4
       have J6:=A0b i6
       have hki:¬ ((ns.length:Int)<(ns.length:Int)):=by omega
       clear hI i1 i2 i3 i4 i5 i6 el1 el2 hcap1 hcaq1 HCO HOT
       go_wp2
       go_ret2
       exact ⟨_,_,rfl,J1.out,J2.out,fun g hg=>Nat.le_trans C4.out.size (J3.out g hg),fun g hg=>Nat.le_trans C4.out.size (J4.out g hg),C4.out.trans J6.out fun _ h _=>h⟩
end
end Go.Proofs.YtodcnkbblippnaaGreatDoor
namespace Go.Proofs.YtodcnkbblippnaaGreatDoor
open Go.RowKit
attribute [local go_sem ↓] A0p
section
variable {w:World} {ab b xb jb B:Nat} {sv ov lv jo:Value} {A:Ar} {P:PD} {Ft FT:Nat→Prop} {a c m:Nat}
theorem B4e (h:A1A w b P Ft) (nm:Bs) (hF:Fit P a c m) (hl:Lim a c m):
 Calls Tryz.prog 193 #[.pointer (some ⟨b,0,none⟩),.string ⟨nm.toArray⟩] w fun e w'=>e=.returned (.int .i64 (P.remove (nmB nm)).1)∧A0A w Ft w' (fun w' Ft'=>A1A w' b (P.remove (nmB nm)).2 Ft'):=
 B4X h (nmB nm) (by have:=hF.dir;have:=hF.chg;have:=hl.a;have:=hl.c;omega)
theorem A3Z (nm:Bs) (r:List Bs) (P:PD):PD.removeAll (nm :: r) P=if (P.remove (nmB nm)).1≠0 then P.remove (nmB nm) else PD.removeAll r (P.remove (nmB nm)).2:=rfl
theorem A4C (A:Ar) (P:PD) (h:Fit P a c m):(A.others P).length≤a:=by
 unfold Ar.others
 exact Nat.le_trans (List.length_filter_le _ _) (by rw [A2g];exact h.dir)
set_option maxRecDepth 100000 in
set_option maxHeartbeats 8000000 in
theorem A7R (w:World) (h:AD w ab b A P FT) (hF:Fit P a c m) (hl:Lim a (c+a) m) (hn:∀ n∈A.ix.segs,A1j n) (hnl:∀ n∈A.j.logs,A1j n) (hsl:A.ix.segs.length≤1073741824) (hll:A.j.logs.length≤1073741824) (hL:A2i B w):
 Calls Tryz.prog 150 #[.pointer (some ⟨ab,0,none⟩)] w fun e w'=>e=.returned (.int .i64 (A.sweep P).1)∧A0A w FT w' (fun w' FT'=>AD w' ab b A (A.sweep P).2 FT'):=by
 obtain ⟨xb,jb,sv,ov,lv,jo,Ft,hV,hsub⟩:=h
 have PA:=A0b (A6C w hV hF ⟨hl.a,by have:=hl.c;omega,hl.m⟩ hn hnl hsl hll hL)
 have hol:=A4C A P hF
 have HV:=A0b hV
 have HSUB:=A0b hsub
 have HR:Hid (A.sweep P=PD.removeAll (A.others P) P):=rfl
 have SC:=A0b A3Z
 obtain ⟨R,hR⟩:∃ R,A.sweep P=R:=⟨_,rfl⟩
 rw [hR] at HR ⊢
 have HFT:=A0b hF
 have HLM:=A0b hl
 generalize A.others P=os at *
 clear hR hV hsub hF hl hn hnl hsl hll hL
 go_enter Tryz.func150,Tryz.ntmps150
 go_wp2_with (fail)
 refine PA.out.mono ?_
 rintro e w1 ⟨v1,v2,rfl,-,h2,-,ho2,hc1⟩
 obtain ⟨oa,ocap,rfl,oc1,oc2⟩:=(A3V.rd h2).form
 unfold maxLen at oc2
 have HO2:=A0b (A3V.rd h2)
 have HOO:=A0b ho2
 have HC1:=A0b hc1
 have HV1:=A0b (HV.out.chg0 hc1)
 clear h2 ho2 hc1 PA
 go_wp2
 go_loopw [15] (fun iv wr=>∃ (k:Nat),iv=.int .i64 k∧k≤os.length∧Hid (∃ Pk,A0A w1 Ft wr (fun w' Ft'=>ArV w' ab b xb jb sv ov lv jo A Pk Ft')∧Fit Pk a (c+k) m∧R=PD.removeAll (os.drop k) Pk)) (fun iv _=>os.length - (intOf iv).toNat)
 case atStart=>exact ⟨0,rfl,by omega,P,⟨Chg.refl _ _,Ft,HV1.out,HV1.out.lt,fun k hk=>.inl hk⟩,HFT.out,HR.out⟩
 case round=>
  obtain ⟨k,rfl,hk,hI⟩:=hrel
  obtain ⟨Pk,hi,hf,hx⟩:=hI.out
  obtain ⟨c1,Ft1,hv,lt1,s1⟩:=hi
  by_cases hk1:k<os.length
  ·obtain ⟨g,o,rfl,d0⟩:=RdS.at HO2.out k hk1
   have d1:=c1.cellKeepS d0 (fun h=>by have:=HV.out.lt _ h;have:=HOO.out g rfl;have h':g<w.heap.size:=HV.out.lt _ h;omega)
   have hdr:=List.drop_eq_getElem_cons hk1
   obtain ⟨nm,hne⟩:∃ nm,(os[k]'hk1)=nm:=⟨_,rfl⟩
   rw [hne] at d0 d1 hdr
   rw [hdr,SC.out] at hx
   have e0:=hv.blk.c0
   have hlk:Lim a (c+k) m:=⟨HLM.out.a,by have:=HLM.out.c;omega,HLM.out.m⟩
   have SY:=A0b (B4e hv.dk nm hf hlk)
   have HF2:Hid (Fit (Pk.remove (nmB nm)).2 a (c+(k+1)) m):=by have:=hf.remove (nmB nm);exact this
   obtain ⟨Y,hY⟩:∃ Y,Pk.remove (nmB nm)=Y:=⟨_,rfl⟩
   rw [hY] at SY hx HF2
   have AFT:Hid (∀ w6,A0A wr Ft1 w6 (fun w' Ft'=>A1A w' b Y.2 Ft')→A0A w1 Ft w6 (fun w' Ft'=>ArV w' ab b xb jb sv ov lv jo A Y.2 Ft')):=fun w6 h6=>A0A.step c1 s1 (hv.disk h6)
   have HXX:=A0b hx
   have hki:(k:Int)<(os.length:Int):=by omega
   have hk0:(0:Int)≤(k:Int):=Int.natCast_nonneg _
   obtain ⟨Y1,Y2⟩:=Y
   dsimp only at SY AFT HXX HF2
   clear hI c1 hv lt1 s1 hdr hne hY hx hf hlk d0
   by_cases hy:Y1=0
   case neg=>
    have hX1:R=(Y1,Y2):=by rw [HXX.out,if_pos hy]
    subst hX1
    have hyb:(Y1 != 0)=true:=by simpa using hy
    go_wp2_with (go_at_call 193;refine SY.out.mono ?_;rintro e w6 ⟨rfl,hc6⟩;have HC6:=A0b (AFT.out w6 hc6);clear hc6)
    go_ret
    exact ⟨rfl,(HV1.out.diskInto HSUB.out HC6.out).before HC1.out⟩
   case pos=>
    subst hy
    have HX2:Hid (R=PD.removeAll (os.drop (k+1)) Y2):=by unfold Hid;rw [HXX.out,if_neg (by simp)]
    go_wp2_with (go_at_call 193;refine SY.out.mono ?_;rintro e w6 ⟨rfl,hc6⟩;have HC6:=A0b (AFT.out w6 hc6);clear hc6)
    go_roundw
    case rel=>exact ⟨k+1,by go_num,by omega,Y2,HC6.out,HF2.out,HX2.out⟩
    case measure=>simp [intOf];omega
  ·obtain rfl:k=os.length:=by omega
   rw [List.drop_length] at hx
   have hX1:R=(0,Pk):=hx
   subst hX1
   have hki:¬ ((os.length:Int)<(os.length:Int)):=by omega
   have HI:Hid (A0A w1 Ft wr (fun w' Ft'=>ArV w' ab b xb jb sv ov lv jo A Pk Ft')):=⟨c1,Ft1,hv,lt1,s1⟩
   clear hI hx hv c1 s1 lt1 HR SC hf
   go_wp2
   go_ret
   exact ⟨rfl,(HV1.out.diskInto HSUB.out HI.out).before HC1.out⟩
set_option maxRecDepth 100000 in
set_option maxHeartbeats 2000000 in
theorem B3V {nm:Bs} {s:Nat} {f0:Int} {ss:List Int} (w:World) (h:A0S w xb 162 b nm s f0 sv) (hs:RdI w sv ss) (kv:Value) (l:List Int) (hk:RdI w kv l) (first:Int):
 Calls Tryz.prog 198 #[.pointer (some ⟨xb,0,none⟩),.int .i64 first,kv] w fun e w'=>e=.returned (.bool (decide (f0=first∧ss=l)))∧∃ q,w'=w.drewN q:=by
 have c3:=h.c3
 have c4:=h.c4
 have EQ:=A0b (A8m w sv kv ss l hs hk)
 obtain ⟨ka,kcap,rfl,k1,k2⟩:=hk.form
 obtain ⟨sa,scap,rfl,s1,s2⟩:=hs.form
 clear h hs hk
 by_cases hf:f0=first
 ·subst hf
  have e:decide (f0=f0∧ss=l)=decide (ss=l):=by simp
  rw [e]
  obtain ⟨d,hd⟩:∃ d,decide (ss=l)=d:=⟨_,rfl⟩
  rw [hd] at EQ ⊢
  clear e hd
  go_enter Tryz.func198,Tryz.ntmps198
  go_wp2_with (go_at_call 241;refine EQ.out.mono ?_;rintro e w2 ⟨rfl,q,rfl⟩)
  go_ret
  exact ⟨rfl,q,rfl⟩
 ·have e:decide (f0=first∧ss=l)=false:=decide_eq_false fun h=>hf h.1
  rw [e]
  have hb:(f0 == first)=false:=by simpa using hf
  go_enter Tryz.func198,Tryz.ntmps198
  go_wp2
  go_ret
  exact ⟨rfl,0,rfl⟩
theorem ArV.ixTo {w':World} {P':PD} {f':Int} {sv':Value} {segs':List Int} (h:ArV w ab b xb jb sv ov lv jo A P Ft) (hx:A0S w' xb 162 b A0N (A1m A0N) f' sv') (hr:RdI w' sv' segs') (hI:A9b w Ft xb w' b P')
 (hsv:∀ g,sv'.ownBlock=some g→sv.ownBlock=some g∨(g<w.heap.size∧¬ Ft g∧¬ A8Z ab xb jb sv ov lv jo g)):
 ∃ Ft',ArV w' ab b xb jb sv' ov lv jo { A with ix:=⟨f',segs'⟩ } P' Ft'∧Chg (fun k=>Ft k∨k=xb) w w'∧∀ k,Ft' k→Ft k∨w.heap.size≤k:=by
 obtain ⟨hc,Ft',h2,h3,h4⟩:=hI
 have key:∀ k,A8Z ab xb jb sv ov lv jo k→k≠xb→w'.heap[k]?=w.heap[k]?:=fun k hk hne=>hc.block k (h.ltA hk) fun hx=>hx.elim (h.sepD k hk) hne
 have sS:∀ g,sv'.ownBlock=some g→g≠ab∧g≠xb∧¬ A3M jb lv jo g:=fun g hg=>by
  rcases hsv g hg with hg | ⟨_,_,hg⟩
  ·exact h.sepS g hg
  ·exact ⟨fun e=>hg (.inl e),fun e=>hg (.inr (.inl e)),fun e=>hg (.inr (.inr (.inr (.inr e))))⟩
 refine ⟨Ft',⟨(key ab (.inl rfl) h.ne).trans h.blk,hx,hr,h.loose.frame fun g hg=>key g (.inr (.inr (.inr (.inl hg)))) (h.sepO g hg).2.1,h.jn.frame fun k hk=>key k (.inr (.inr (.inr (.inr hk)))) (h.sepJ k hk).2,h2,h3,?_,sS,h.sepO,h.sepJ⟩,hc,h4⟩
 intro k hk hx
 rcases h4 k hx with hf | hf
 ·rcases hk with hk | hk | hk | hk | hk
  ·exact h.sepD k (.inl hk) hf
  ·exact h.sepD k (.inr (.inl hk)) hf
  ·rcases hsv k hk with hk | ⟨_,hk,_⟩
   ·exact h.sepD k (.inr (.inr (.inl hk))) hf
   ·exact hk hf
  ·exact h.sepD k (.inr (.inr (.inr (.inl hk)))) hf
  ·exact h.sepD k (.inr (.inr (.inr (.inr hk)))) hf
 ·have:k<w.heap.size:=by
   rcases hk with hk | hk | hk | hk | hk
   ·exact h.ltA (.inl hk)
   ·exact h.ltA (.inr (.inl hk))
   ·rcases hsv k hk with hk | ⟨hk,_⟩
    ·exact h.ltA (.inr (.inr (.inl hk)))
    ·exact hk
   ·exact h.ltA (.inr (.inr (.inr (.inl hk))))
   ·exact h.ltA (.inr (.inr (.inr (.inr hk))))
  omega
theorem ArV.jnTo {w':World} {lv' jo':Value} {J':Jn} (h:ArV w ab b xb jb sv ov lv jo A P Ft) (hj:JnV w' jb b lv' jo' J') (hc:Chg (One jb) w w') (hn1:lv'.ownBlock=none) (hn2:jo'=.pointer none):ArV w' ab b xb jb sv ov lv' jo' { A with j:=J' } P Ft:=by
 have key:∀ k,k≠jb→k<w.heap.size→w'.heap[k]?=w.heap[k]?:=fun k hk hl=>hc.block k hl hk
 have hjb:∀ k,A3M jb lv' jo' k→k=jb:=fun k hk=>by
  rcases hk with h | h | h
  ·exact h
  ·rw [hn1] at h;cases h
  ·rw [hn2] at h;cases h
 have jj:A3M jb lv jo jb:=.inl rfl
 refine ⟨(key ab (fun e=>(h.sepJ jb jj).1 e.symm) h.blk.lt).trans h.blk,(key xb (fun e=>(h.sepJ jb jj).2 e.symm) h.ix.lt).trans h.ix,h.segs.frame fun g hg=>key g (fun e=>(h.sepS g hg).2.2 (e ▸ jj)) (h.segs.lt hg),h.loose.frame fun g hg=>key g (fun e=>(h.sepO g hg).2.2 (e ▸ jj)) (h.loose.lt hg),hj,
  A0R.frame h.dk fun k hk=>key k (fun e=>by subst e;exact h.sepD _ (.inr (.inr (.inr (.inr jj)))) hk) (h.lt k hk),fun k hk=>Nat.lt_of_lt_of_le (h.lt k hk) hc.size,?_,fun g hg=>?_,fun g hg=>?_,fun k hk=>?_⟩
 ·intro k hk
  rcases hk with hk | hk | hk | hk | hk
  ·exact h.sepD k (.inl hk)
  ·exact h.sepD k (.inr (.inl hk))
  ·exact h.sepD k (.inr (.inr (.inl hk)))
  ·exact h.sepD k (.inr (.inr (.inr (.inl hk))))
  ·rw [hjb k hk];exact h.sepD jb (.inr (.inr (.inr (.inr jj))))
 ·exact ⟨(h.sepS g hg).1,(h.sepS g hg).2.1,fun hx=>(h.sepS g hg).2.2 (by rw [hjb g hx];exact jj)⟩
 ·exact ⟨(h.sepO g hg).1,(h.sepO g hg).2.1,fun hx=>(h.sepO g hg).2.2 (by rw [hjb g hx];exact jj)⟩
 ·rw [hjb k hk];exact h.sepJ jb jj
set_option maxRecDepth 100000 in
set_option maxHeartbeats 8000000 in
theorem B0n (w:World) (h:AD w ab b A P FT) (kv:Value) (l:List Int) (hk:RdI w kv l) (hks:∀ g,kv.ownBlock=some g→¬ FT g) (hr:A0P (A.j.last+1)) (hsr:∀ x∈l,A0P x) (hsl:l.length≤134217728) (hF:Fit P a c m) (hl:Lim (a+2) (c+2) (m+12+8*l.length)) (hL:A2i B w):
 Calls Tryz.prog 152 #[.pointer (some ⟨ab,0,none⟩),kv] w fun e w'=>e=.returned (.int .i64 (A.turn P l).1)∧A0A w (fun k=>FT k∨kv.ownBlock=some k) w' (fun w' FT'=>AD w' ab b (A.turn P l).2.1 (A.turn P l).2.2 FT'):=by
 obtain ⟨xb,jb,sv,ov,lv,jo,Ft,hV,hsub⟩:=h
 have HE:Hid (A.turn P l=if A.ix.first=A.j.last+1∧A.ix.segs=l then (0,A,P) else
  if (P.turn (A.j.last+1) l).1≠0 then ((P.turn (A.j.last+1) l).1,A,(P.turn (A.j.last+1) l).2) else
  (0,{ A with ix:=⟨A.j.last+1,l⟩,j:=⟨[],A.j.last,0,none⟩ },(P.turn (A.j.last+1) l).2)):=rfl
 have NX:Hid (∀ w1,Chg (fun _=>False) w w1→_):=fun w1 hc=>B0d w1 (hV.jn.chg0 hc) hr
 have IS:Hid (∀ w1,Chg (fun _=>False) w w1→_):=fun w1 hc=>B3V w1 (hV.ix.keep hc (fun h=>h)) (hV.segs.chg hc (fun _ _ h=>h)) kv l (hk.chg hc (fun _ _ h=>h)) (A.j.last+1)
 have TN:Hid (∀ w1,Chg (fun _=>False) w w1→_):=fun w1 hc=>B3z w1 (A.j.last+1) A.ix.first kv sv l (hV.ix.keep hc (fun h=>h)) (A0R.same hV.dk hV.lt hc) (fun k hk=>Nat.lt_of_lt_of_le (hV.lt k hk) hc.size) (hV.sepD xb (.inr (.inl rfl))) hF hl (hL.keep0 hc) (hk.chg hc (fun _ _ h=>h)) hr hsr hsl
 obtain ⟨ka,kcap,rfl,k1,k2⟩:=hk.form
 have HV:=A0b hV
 have HSUB:=A0b hsub
 have HK:=A0b hk
 have HKS:=A0b hks
 obtain ⟨R,hR⟩:∃ R,A.turn P l=R:=⟨_,rfl⟩
 rw [hR] at HE ⊢
 obtain ⟨T,hT⟩:∃ T,P.turn (A.j.last+1) l=T:=⟨_,rfl⟩
 rw [hT] at HE TN
 obtain ⟨L,hLL⟩:∃ L,A.j.last+1=L:=⟨_,rfl⟩
 rw [hLL] at HE NX IS TN
 have HLL:=A0b hLL
 have HB:=A0b hV.blk
 have d1:=hV.blk.drew.c1
 have d2:=hV.blk.drew.c2
 have NXD:=A0b (NX.out w.drew (Chg.refl _ w).drew)
 clear hR hT hLL hV hsub hk hks hF hl hsr hsl hL
 by_cases hsame:A.ix.first=L∧A.ix.segs=l
 case pos=>
  have hR1:R=(0,A,P):=by rw [HE.out,if_pos hsame]
  subst hR1
  rw [decide_eq_true hsame] at IS
  have ISD:=A0b (IS.out w.drew (Chg.refl _ w).drew)
  clear HE TN IS hsame NX
  go_enter Tryz.func152,Tryz.ntmps152
  go_wp2
  refine A0e (fun w'=>w'.cell? ⟨ab,1,none⟩=some (.pointer (some ⟨xb,0,none⟩))∧w'.cell? ⟨ab,2,none⟩=some (.pointer (some ⟨jb,0,none⟩))) 10
   [(0,true),(1,true),(2,true),(3,true),(4,true),(5,true),(6,true),(7,true),(9,true),(8,false)] (by kernel_rfl) (by kernel_rfl) (fun _ _ _ _ _ h=>h) ⟨d1,d2⟩ ?_
  iterate 9 (refine A0d (v:=?_) rfl (by rfl) ?_ ?_;rotate_left;(· (intro w' hS;(try dsimp only at hS);go_simp;try with_reducible rfl));(try simp only [Act.put,List.setIfInBounds_toArray,List.set_cons_zero,List.set_cons_succ,List.getElem_toArray,List.getElem_cons_zero,List.getElem_cons_succ]))
  refine A0i rfl (by rfl) (fun K hK=>?_)
  go_simp
  refine NXD.out.mono ?_
  rintro e w3 ⟨rfl,rfl⟩
  refine hK _ _ ⟨d1,d2⟩ (fun hS=>?_)
  clear hK K hS
  (try simp only [Act.put,List.setIfInBounds_toArray,List.set_cons_zero,List.set_cons_succ,List.getElem_toArray,List.getElem_cons_zero,List.getElem_cons_succ])
  refine A0k ?_
  simp only [List.drop_succ_cons,List.drop_zero]
  go_wp2_with (go_at_call 198;refine ISD.out.mono ?_;rintro e w4 ⟨rfl,q,rfl⟩)
  go_ret
  have kq:=(Chg.refl (fun _=>False) w).drewN (1+q)
  exact ⟨rfl,ArV.into (FT:=fun k=>FT k∨(Value.slice ka l.length kcap).ownBlock=some k) (HV.out.chg0 kq) kq (fun _ _ h=>h.elim) (fun k hk=>.inl (.inl (HSUB.out k (.inl hk)))) fun k hk=>.inl (.inl (HSUB.out k (.inr hk)))⟩
 case neg=>
  rw [decide_eq_false hsame] at IS
  have ISD:=A0b (IS.out w.drew (Chg.refl _ w).drew)
  have HE2:Hid (R=if T.1≠0 then (T.1,A,T.2) else (0,{ A with ix:=⟨L,l⟩,j:=⟨[],A.j.last,0,none⟩ },T.2)):=by unfold Hid;rw [HE.out,if_neg hsame]
  clear HE IS hsame
  go_enter Tryz.func152,Tryz.ntmps152
  go_wp2
  refine A0e (fun w'=>w'.cell? ⟨ab,1,none⟩=some (.pointer (some ⟨xb,0,none⟩))∧w'.cell? ⟨ab,2,none⟩=some (.pointer (some ⟨jb,0,none⟩))) 10
   [(0,true),(1,true),(2,true),(3,true),(4,true),(5,true),(6,true),(7,true),(9,true),(8,false)] (by kernel_rfl) (by kernel_rfl) (fun _ _ _ _ _ h=>h) ⟨d1,d2⟩ ?_
  iterate 9 (refine A0d (v:=?_) rfl (by rfl) ?_ ?_;rotate_left;(· (intro w' hS;(try dsimp only at hS);go_simp;try with_reducible rfl));(try simp only [Act.put,List.setIfInBounds_toArray,List.set_cons_zero,List.set_cons_succ,List.getElem_toArray,List.getElem_cons_zero,List.getElem_cons_succ]))
  refine A0i rfl (by rfl) (fun K hK=>?_)
  go_simp
  refine NXD.out.mono ?_
  rintro e w3 ⟨rfl,rfl⟩
  refine hK _ _ ⟨d1,d2⟩ (fun hS=>?_)
  clear hK K hS
  (try simp only [Act.put,List.setIfInBounds_toArray,List.set_cons_zero,List.set_cons_succ,List.getElem_toArray,List.getElem_cons_zero,List.getElem_cons_succ])
  refine A0k ?_
  simp only [List.drop_succ_cons,List.drop_zero]
  go_wp2_with (fail)
  refine ISD.out.mono ?_
  rintro e w4 ⟨rfl,q,rfl⟩
  have k4:Chg (fun _=>False) w (w.drewN (1+q)):=(Chg.refl (fun _=>False) w).drewN (1+q)
  have V4:=HV.out.chg0 k4
  have x1:=V4.blk.drew.c1
  have x2:=V4.blk.drew.c2
  have V5:=A0b (HV.out.chg0 k4.drew)
  have K5:=A0b k4.drew
  have TN5:=A0b (TN.out _ k4.drew)
  have NX5:=A0b (NX.out _ k4.drew)
  clear NXD ISD TN NX k4 V4 d1 d2
  go_wp2
  generalize w.drewN (1+q)=w4 at V5 K5 TN5 NX5 x1 x2 ⊢
  obtain ⟨T1,T2⟩:=T
  dsimp only at TN5 HE2
  have hab:Hid (ab≠xb∧¬ Ft ab):=⟨V5.out.ne,V5.out.sepD ab (.inl rfl)⟩
  by_cases ht:T1=0
  case neg=>
   have hR1:R=(T1,A,T2):=by rw [HE2.out,if_pos ht]
   subst hR1
   have htb:(T1 != 0)=true:=by simpa using ht
   refine A0e (fun w'=>w'.cell? ⟨ab,1,none⟩=some (.pointer (some ⟨xb,0,none⟩))∧w'.cell? ⟨ab,2,none⟩=some (.pointer (some ⟨jb,0,none⟩))) 11
    [(0,true),(1,true),(2,true),(3,true),(4,true),(5,true),(6,true),(7,true),(9,true),(8,false),(10,false)] (by kernel_rfl) (by kernel_rfl) (fun _ _ _ _ _ h=>h) ⟨x1,x2⟩ ?_
   iterate 9 (refine A0d (v:=?_) rfl (by rfl) ?_ ?_;rotate_left;(· (intro w' hS;(try dsimp only at hS);go_simp;try with_reducible rfl));(try simp only [Act.put,List.setIfInBounds_toArray,List.set_cons_zero,List.set_cons_succ,List.getElem_toArray,List.getElem_cons_zero,List.getElem_cons_succ]))
   refine A0i rfl (by rfl) (fun K hK=>?_)
   go_simp
   refine NX5.out.mono ?_
   rintro e w3 ⟨rfl,rfl⟩
   refine hK _ _ ⟨x1,x2⟩ (fun hS=>?_)
   clear hK K hS
   (try simp only [Act.put,List.setIfInBounds_toArray,List.set_cons_zero,List.set_cons_succ,List.getElem_toArray,List.getElem_cons_zero,List.getElem_cons_succ])
   refine A0i rfl (by rfl) (fun K hK=>?_)
   go_simp
   refine TN5.out.mono ?_
   rintro e w6 ⟨rfl,hx,hI⟩
   have b6:A1s w6 ab b xb jb A.last ov:=V5.out.blk.keep hI.1 fun h=>h.elim hab.out.2 hab.out.1
   refine hK _ _ ⟨b6.c1,b6.c2⟩ (fun hS=>?_)
   rw [if_neg ht,if_neg ht] at hx
   have H6:=A0b (V5.out.ixTo hx (V5.out.segs.frame fun g hg=>hI.1.block g (V5.out.segs.lt hg) fun h=>h.elim (V5.out.sepD g (.inr (.inr (.inl hg)))) (V5.out.sepS g hg).2.1) hI fun g hg=>.inl hg)
   clear hK K hS hx hI b6 TN5
   (try simp only [Act.put,List.setIfInBounds_toArray,List.set_cons_zero,List.set_cons_succ,List.getElem_toArray,List.getElem_cons_zero,List.getElem_cons_succ])
   refine A0k ?_
   simp only [List.drop_succ_cons,List.drop_zero]
   go_wp2
   go_ret
   obtain ⟨Ft',h1,h2,h3⟩:=H6.out
   have hc6:Chg (fun k=>Ft k∨k=xb) w w6:=(K5.out.mono (S':=fun k=>Ft k∨k=xb) fun _ _ h=>h.elim).trans h2 fun _ h _=>h
   refine ⟨rfl,ArV.into (FT:=fun k=>FT k∨(Value.slice ka l.length kcap).ownBlock=some k) h1 hc6 ?_ ?_ ?_⟩
   ·rintro k _ (h | rfl)
    ·exact .inl (HSUB.out k (.inl h))
    ·exact .inl (HSUB.out _ (.inr (.inr (.inl rfl))))
   ·exact fun k hk=>(h3 k hk).imp (fun h=>.inl (HSUB.out k (.inl h))) fun h=>Nat.le_trans K5.out.size h
   ·exact fun k hk=>.inl (.inl (HSUB.out k (.inr hk)))
  case pos=>
   subst ht
   have hR1:R=(0,{ A with ix:=⟨L,l⟩,j:=⟨[],A.j.last,0,none⟩ },T2):=by rw [HE2.out,if_neg (by simp)]
   subst hR1
   have KSEP:Hid (∀ g,(Value.slice ka l.length kcap).ownBlock=some g→g<w4.drew.heap.size∧¬ Ft g∧¬ A8Z ab xb jb sv ov lv jo g):=fun g hg=>⟨Nat.lt_of_lt_of_le (HK.out.lt hg) K5.out.size,fun h=>HKS.out g hg (HSUB.out g (.inl h)),fun h=>HKS.out g hg (HSUB.out g (.inr h))⟩
   refine A0e (fun w'=>w'.cell? ⟨ab,1,none⟩=some (.pointer (some ⟨xb,0,none⟩))∧w'.cell? ⟨ab,2,none⟩=some (.pointer (some ⟨jb,0,none⟩))) 11
    [(0,true),(1,true),(2,true),(3,true),(4,true),(5,true),(6,true),(7,true),(9,true),(8,false),(10,false)] (by kernel_rfl) (by kernel_rfl) (fun _ _ _ _ _ h=>h) ⟨x1,x2⟩ ?_
   iterate 9 (refine A0d (v:=?_) rfl (by rfl) ?_ ?_;rotate_left;(· (intro w' hS;(try dsimp only at hS);go_simp;try with_reducible rfl));(try simp only [Act.put,List.setIfInBounds_toArray,List.set_cons_zero,List.set_cons_succ,List.getElem_toArray,List.getElem_cons_zero,List.getElem_cons_succ]))
   refine A0i rfl (by rfl) (fun K hK=>?_)
   go_simp
   refine NX5.out.mono ?_
   rintro e w3 ⟨rfl,rfl⟩
   refine hK _ _ ⟨x1,x2⟩ (fun hS=>?_)
   clear hK K hS
   (try simp only [Act.put,List.setIfInBounds_toArray,List.set_cons_zero,List.set_cons_succ,List.getElem_toArray,List.getElem_cons_zero,List.getElem_cons_succ])
   refine A0i rfl (by rfl) (fun K hK=>?_)
   go_simp
   refine TN5.out.mono ?_
   rintro e w6 ⟨rfl,hx,hI⟩
   have b6:A1s w6 ab b xb jb A.last ov:=V5.out.blk.keep hI.1 fun h=>h.elim hab.out.2 hab.out.1
   refine hK _ _ ⟨b6.c1,b6.c2⟩ (fun hS=>?_)
   rw [if_pos rfl,if_pos rfl] at hx
   have hk6:RdI w6 (.slice ka l.length kcap) l:=(HK.out.chg K5.out (fun _ _ h=>h)).frame fun g hg=>hI.1.block g (KSEP.out g hg).1 fun h=>h.elim (KSEP.out g hg).2.1 fun e=>(KSEP.out g hg).2.2 (.inr (.inl e))
   have H6:=A0b (V5.out.ixTo hx hk6 hI fun g hg=>.inr (KSEP.out g hg))
   have d2:=b6.c2
   clear hK K hS hx hI b6 TN5 hk6
   (try simp only [Act.put,List.setIfInBounds_toArray,List.set_cons_zero,List.set_cons_succ,List.getElem_toArray,List.getElem_cons_zero,List.getElem_cons_succ])
   refine A0k ?_
   simp only [List.drop_succ_cons,List.drop_zero]
   obtain ⟨Ft',h1,h2,h3⟩:=H6.out
   have LV:=A0b (B2o w6 h1.jn)
   have V6:=A0b h1
   have C6:Hid (Chg (fun k=>Ft k∨k=xb) w w6):=(K5.out.mono (S':=fun k=>Ft k∨k=xb) fun _ _ h=>h.elim).trans h2 fun _ h _=>h
   have S6:Hid (∀ k,Ft' k→Ft k∨w.heap.size≤k):=fun k hk=>(h3 k hk).imp id fun h=>Nat.le_trans K5.out.size h
   clear H6 h1 h2 h3
   go_wp2_with (go_at_call 201;refine LV.out.mono ?_;rintro e w7 ⟨rfl,hj,hcj⟩;have HJ:=A0b hj;have HCJ:=A0b hcj;clear hj hcj)
   go_ret
   have hV7:=V6.out.jnTo HJ.out HCJ.out (by simp [Value.ownBlock]) rfl
   refine ⟨rfl,ArV.into (FT:=fun k=>FT k∨(Value.slice ka l.length kcap).ownBlock=some k) (S:=fun k=>(Ft k∨k=xb)∨k=jb) hV7 ((C6.out.mono fun _ _ h=>.inl h).trans HCJ.out fun _ h _=>.inr h) ?_ ?_ ?_⟩
   ·rintro k _ ((h | rfl) | rfl)
    ·exact .inl (HSUB.out k (.inl h))
    ·exact .inl (HSUB.out _ (.inr (.inr (.inl rfl))))
    ·exact .inl (HSUB.out _ (.inr (.inr (.inr (.inr (.inr (.inl rfl)))))))
   ·exact fun k hk=>(S6.out k hk).imp (fun h=>.inl (HSUB.out k (.inl h))) id
   ·rintro k (h | h | h | h | h)
    ·exact .inl (.inl (HSUB.out k (.inr (.inl h))))
    ·exact .inl (.inl (HSUB.out k (.inr (.inr (.inl h)))))
    ·exact .inl (.inr h)
    ·exact .inl (.inl (HSUB.out k (.inr (.inr (.inr (.inr (.inl h)))))))
    ·rcases h with h | h | h
     ·exact .inl (.inl (HSUB.out k (.inr (.inr (.inr (.inr (.inr (.inl h))))))))
     ·simp [Value.ownBlock] at h
     ·cases h
end
end Go.Proofs.YtodcnkbblippnaaGreatDoor
