/-
  The statement WritesUptoCardSaid is proved: the law Writes answers true for every setting and every script of at most 1048576 bytes; there is no other condition.
  Part 23 of 33.
-/
import Derived.Test.YtodcnkbblippnaaGreatDoorPart22
namespace Go.Proofs.YtodcnkbblippnaaGreatDoor
open Go.RowKit
attribute [local go_sem ↓] A0p
theorem Tryz.infoPutSl:(Tryz.prog.info? 97).map (fun i=>(i.zero,i.size,i.bytes))=some (some (.slice none 0 0),1,24):=by kernel_rfl
theorem B2c:∃ i0,Tryz.prog.info? 97=some i0∧i0.zero=some (.slice none 0 0)∧i0.size=1∧i0.bytes=24:=by
 have h:=Tryz.infoPutSl
 cases hx:Tryz.prog.info? 97 with
 | none=>rw [hx] at h;cases h
 | some i=>rw [hx] at h;simp at h;exact ⟨i,rfl,h.1,h.2.1,h.2.2⟩
section
variable {N:Nat}
set_option maxRecDepth 100000 in
set_option maxHeartbeats 16000000 in
theorem A7b (hS:A4v N) (hN:N≤134217728) (w:World) (v:Value) (len:Int) (l:List Pu) (hl:l.length≤N) (h:A1r w v l) (hT:∀ p∈l,A0P p.2.1) (hlen:1≤len∧len≤4611686018427387904):
 Calls Tryz.prog 109 #[v,.int .i64 len] w fun e w'=>∃ v' vs,e=.returned v'∧WnB w' w.heap.size v' vs (A2I len l)∧Chg (fun _=>False) w w':=by
 obtain ⟨i0,hi,hz0,hz1,hz2⟩:=B2c
 obtain ⟨j0,hj,hy0,hy1,hy2⟩:=info_parts A2a
 have k0:Chg (fun _=>False) w (w.alloc (.cells #[.int .i64 len] 3)):=(Chg.refl _ w).alloc _
 have hb0:(w.alloc (.cells #[.int .i64 len] 3)).heap[w.heap.size]?=some (.cells #[.int .i64 len] 3 (0,0)):=heap_alloc_new w _
 have CL:=A0b (A8z _ v l (A0a h fun g hg=>k0.block g (A0c h hg) (fun h=>h)) (by omega))
 have K0:=A0b k0
 have HB0:=A0b hb0
 have SZ0:Hid ((w.alloc (.cells #[.int .i64 len] 3)).heap.size=w.heap.size+1):=by unfold Hid;simp
 have SRT:Hid (∀ wx vx,A1r wx vx l→wx.cell? ⟨w.heap.size,0,none⟩=some (.int .i64 len)→(∀ g,vx.ownBlock=some g→w.heap.size≠g)→_):=fun wx vx h1 h2 h3=>hS wx vx w.heap.size len l hl h1 hT hlen h2 h3
 have HWK:Hid (A2I len l=A5r len (A2m (A1U len) l) true (0,0,0) []):=rfl
 have hsm:∀ p∈A2m (A1U len) l,A0P p.2.1:=fun p hp=>hT p (((A4L len).sort_steq l).symm.mem (A4L len) hp)
 have hsl:(A2m (A1U len) l).length=l.length:=A4y l
 obtain ⟨R,hR⟩:∃ R,A2I len l=R:=⟨_,rfl⟩
 rw [hR] at HWK ⊢
 obtain ⟨SL,hSL⟩:∃ SL,A2m (A1U len) l=SL:=⟨_,rfl⟩
 rw [hSL] at HWK hsm hsl SRT
 have HSM:=A0b hsm
 have HLEN:=A0b hlen
 have hsn:SL.length≤134217728:=by omega
 have HSL:=A0b hsl
 clear hR hSL h hT k0 hb0 hsm hS hl hlen hsl
 go_enter Tryz.func109,Tryz.ntmps109
 go_wp2_with (fail)
 refine CL.out.mono ?_
 rintro e w1 ⟨v1,rfl,hv1,ho1,hc1⟩
 have c1:w1.cell? ⟨w.heap.size,0,none⟩=some (.int .i64 len):=hc1.cellKeep (by simp only [World.cell?,HB0.out];rfl)
 have SR1:=A0b (SRT.out w1 v1 hv1 c1 (fun g hg=>by have:=ho1 g hg;have:=SZ0.out;omega))
 have K1:Hid (Chg (fun _=>False) w w1):=K0.out.trans hc1 fun _ h _=>h
 have HO1:Hid (∀ g,v1.ownBlock=some g→w.heap.size<g):=fun g hg=>by have:=ho1 g hg;have:=SZ0.out;omega
 have C1:=A0b c1
 clear hv1 ho1 hc1 c1 CL SRT
 go_wp2_with (fail)
 refine SR1.out.mono ?_
 rintro e w2 ⟨rfl,hv2,hc2⟩
 have e2:SL.length=l.length:=HSL.out
 obtain ⟨sa,scap,rfl,s1,s2,s3,-⟩:=A0g hv2
 unfold maxLen at s2
 have c2:w2.cell? ⟨w.heap.size,0,none⟩=some (.int .i64 len):=hc2.cellKeepS C1.out (fun h=>Nat.lt_irrefl _ (HO1.out _ h))
 have K2:Hid (Chg (fun _=>False) w w2):=K1.out.trans hc2 fun x hx hlt=>by have:=HO1.out x hx;omega
 have HV2:=A0b hv2
 have C2:=A0b c2
 have B2:Hid (w.heap.size<w2.heap.size):=World.block_lt_of_cell? w2 _ c2
 have HS3:=A0b s3
 clear hv2 hc2 SR1 C1 c2 e2 s3
 have CEL:Hid (∀ wx,Chg (fun _=>False) w2 wx→∀ i (hi:i<SL.length),∃ g,sa=some ⟨g,0,none⟩∧wx.cell? ⟨g,i*3,none⟩=some (.int .i64 (SL[i]'hi).1)∧wx.cell? ⟨g,i*3+1,none⟩=some (.int .i64 (SL[i]'hi).2.1)∧wx.cell? ⟨g,i*3+2,none⟩=some (.int .i64 (SL[i]'hi).2.2)):=fun wx hx i hi=>by
  obtain ⟨g,rfl⟩:=HS3.out (by omega)
  obtain ⟨q1,q2,q3⟩:=A2y SL i hi
  exact ⟨g,rfl,hx.cellKeep (A0j HV2.out rfl q1),hx.cellKeep (A0j HV2.out rfl q2),hx.cellKeep (A0j HV2.out rfl q3)⟩
 go_wp2
 go_loopw [6,18] (fun v6 iv wr=>∃ (i:Nat) (ws:List (List Pu)) (vs:List Value),iv=.int .i64 i∧i≤SL.length∧Hid (WnB wr w2.heap.size v6 vs ws∧Chg (fun _=>False) w2 wr∧ws.length≤i∧(∀ x∈ws,x.length≤i)∧(0<i→∃ ws0 l0,ws=ws0 ++ [l0]∧l0≠[])∧R=A5r len (SL.drop i) (decide (i=0)) (if i=0 then (0,0,0) else SL.getD (i - 1) (0,0,0)) ws)) (fun _ iv _=>SL.length - (intOf iv).toNat)
 case atStart=>exact ⟨0,[],[],rfl,by omega,WnB.nil _ _,Chg.refl _ _,Nat.le_refl _,fun x hx=>by simp at hx,fun h=>absurd h (Nat.lt_irrefl 0),by simpa using HWK.out⟩
 case round=>
  obtain ⟨i,ws,vs,rfl,hii,hI⟩:=hrel
  by_cases hi1:i<SL.length
  case neg=>
   obtain rfl:i=SL.length:=by omega
   obtain ⟨i1,i2,i3,i4,i5,i6⟩:=hI.out
   rw [List.drop_length] at i6
   have hR1:R=ws:=i6
   subst hR1
   have I1:=A0b i1
   have I2:=A0b i2
   have hki:¬ ((SL.length:Int)<(SL.length:Int)):=by omega
   clear i1 i2 i3 i4 i5 i6 hI
   obtain ⟨ap,cp,rfl,hcap1,hcap2,-⟩:=A0g I1.out.row
   go_wp2
   go_ret
   exact ⟨_,rfl,⟨vs,I1.out.row,I1.out.ls,fun g hg=>Nat.le_of_lt (Nat.lt_of_lt_of_le B2.out (I1.out.lo g hg)),fun x hx g hg=>Nat.le_of_lt (Nat.lt_of_lt_of_le B2.out (I1.out.li x hx g hg)),I1.out.dis⟩,K2.out.trans I2.out fun _ h _=>h⟩
  case pos=>
   obtain ⟨i1,i2,i3,i4,i5,i6⟩:=hI.out
   obtain ⟨g,rfl,p1,p2,p3⟩:=CEL.out wr i2 i hi1
   rw [B0X len SL i hi1] at i6
   have hpt:=HSM.out _ (List.getElem_mem hi1)
   obtain ⟨p,hp⟩:∃ p,(SL[i]'hi1)=p:=⟨_,rfl⟩
   rw [hp] at p1 p2 p3 i6 hpt
   obtain ⟨pa,pb,pc⟩:=p
   dsimp only at p1 p2 p3 hpt
   have hpk:A0V (wr.alloc (.cells #[.int .i64 pa,.int .i64 pb,.int .i64 pc] 113)) wr.heap.size pa pb pc:=heap_alloc_new wr _
   have kp:Chg (fun _=>False) wr (wr.alloc (.cells #[.int .i64 pa,.int .i64 pb,.int .i64 pc] 113)):=(Chg.refl _ wr).alloc _
   have hki:(i:Int)<(SL.length:Int):=by omega
   have hk0:(0:Int)≤(i:Int):=Int.natCast_nonneg _
   have I1:=A0b i1
   have I2:=A0b i2
   have I3:=A0b i3
   have I4:=A0b i4
   have I5:=A0b i5
   have PKB:Hid (w2.heap.size≤wr.heap.size):=i2.size
   have HPK:=A0b hpk
   have KP:=A0b kp
   have HBY:Hid (∀ k:Nat,k≤i→(k+1)*24≤140737488355328):=fun k hk=>by omega
   have FINN:Hid (∀ ws',A1u len ws (decide (i=0)) (if i=0 then (0,0,0) else SL.getD (i - 1) (0,0,0)) (pa,pb,pc)=ws'→R=A5r len (SL.drop (i+1)) (decide (i+1=0)) (if i+1=0 then (0,0,0) else SL.getD (i+1 - 1) (0,0,0)) ws'):=fun ws' h=>by
    have hsi:SL.getD i (0,0,0)=(pa,pb,pc):=by rw [List.getD_eq_getElem?_getD,List.getElem?_eq_getElem hi1,hp];rfl
    rw [if_neg (Nat.succ_ne_zero i),Nat.add_sub_cancel,hsi,i6,h]
    simp
   obtain ⟨ap6,cp6,e6,hc61,hc62,hg6,-⟩:=A0g i1.row
   have HG6:=A0b hg6
   clear hg6
   unfold maxLen at hc62
   obtain ⟨pk,hpke⟩:∃ pk,wr.heap.size=pk:=⟨_,rfl⟩
   rw [hpke] at HPK PKB
   have HPKE:=A0b hpke
   by_cases hi0:i=0
   case pos=>
    subst e6
    have hz:((i:Int) == 0)=true:=by simp [hi0]
    have HST:Hid (A1u len ws (decide (i=0)) (if i=0 then (0,0,0) else SL.getD (i - 1) (0,0,0)) (pa,pb,pc)=A2P ws [] (pa,pb,pc)):=A5K len ws _ _ _ (.inl (by simp [hi0]))
    clear hI i1 i2 i3 i4 i5 i6 hpk kp hp hpke hi0
    go_wp2
    rw [HPKE.out]
    go_quiet (fail)
    have HWY:=A0b (I1.out.keep0 (KP.out.drewN nq))
    have PBY:=A0b (HPK.out.keep ((Chg.refl (fun _=>False) _).drewN nq) (fun h=>h))
    have KY:=A0b (I2.out.trans (KP.out.drewN nq) fun _ h _=>h)
    generalize ((wr.alloc (.cells #[.int .i64 pa,.int .i64 pb,.int .i64 pc] 113)).drewN nq)=wY at HWY PBY KY ⊢
    have HROWp:Hid ((wY.alloc (.cells #[.slice none 0 0] 97)).ownsRow 0 97 1 (.slice ap6 ws.length cp6) ws.length vs):=A0a HWY.out.row fun g hg=>((Chg.refl (fun _=>False) wY).alloc _).block g (A0c HWY.out.row hg) (fun h=>h)
    have HSRp:=A0b (Src.ofNew (size:=1) (B:=wY.heap.size) Tryz.underlying174 wY #[.slice none 0 0] 97 (by simp) 1 1 rfl (by simp [Value.oneCell']))
    have KYa:=A0b (KY.out.alloc (.cells #[.slice none 0 0] 97))
    have HWYa:=A0b (HWY.out.keep0 ((Chg.refl (fun _=>False) wY).alloc (.cells #[.slice none 0 0] 97)))
    have PBYa:=A0b (PBY.out.keep ((Chg.refl (fun _=>False) wY).alloc (.cells #[.slice none 0 0] 97)) (fun h=>h))
    have HBYT:Hid ((ws.length+1)*24≤140737488355328):=by have h1:=I3.out;unfold Hid;omega
    have HNK:Hid (∀ g,(Value.slice ap6 ws.length cp6).ownBlock=some g→pk≠g):=fun g hg e=>by
     subst e
     have:=A0c I1.out.row hg
     have h2:=HPKE.out
     omega
    have ew0:IntKind.i64.wrap (ws.length:Int)=(ws.length:Int):=by have:=I3.out;simp [IntKind.wrap,IntKind.bits,IntKind.signed];omega
    have ew1:IntKind.i64.wrap ((ws.length:Int)+1 - 1)=(ws.length:Int):=by rw [Int.add_sub_cancel];exact ew0
    have ew2:wrap64 ((ws.length:Int)+1 - 1)=(ws.length:Int):=by have:=I3.out;unfold wrap64;omega
    have hn0:(0:Int)≤(ws.length:Int):=Int.natCast_nonneg _
    have hn1:(ws.length:Int)<(ws.length:Int)+1:=by omega
    go_wp2_with (at_builtin;refine A0o rfl (.tmp 42) (.tmp 43) 174 174 rfl 97 i0 _ 1 24 Tryz.underlying174 hi hz0 hz1 hz2 rfl (by decide) (.slice ap6 ws.length cp6) ws.length vs (by rfl) HROWp.out _ 1 _ (by rfl) HSRp.out HBYT.out ?_;intro a8 cap8 w8 hA;have HA:=A0b hA;clear hA;obtain ⟨a8',c8',e8,r1,r2,r3,-⟩:=A0g HA.out.own;cases e8;obtain ⟨g0,rfl⟩:=r3 (Nat.succ_pos _);clear r3;have oc8:w8.cell? ⟨g0,ws.length,none⟩=some (.slice none 0 0):=A0j HA.out.own rfl (by rw [← HWY.out.len,List.getElem?_append_right (Nat.le_refl _)];simp))
    go_quiet (fail)
    have hcA:=HA.out.chg (S:=fun k=>(Value.slice ap6 ws.length cp6).ownBlock=some k) fun _ h=>h
    have HW0:=A0b ((HWYa.out.push HA.out KYa.out.size).keep0 ((Chg.refl (fun _=>False) w8).drewN nq))
    have PBX:=A0b ((PBYa.out.keep hcA (fun h=>HNK.out _ h rfl)).keep ((Chg.refl (fun _=>False) w8).drewN nq) (fun h=>h))
    have KX:=A0b ((KYa.out.trans (S':=fun k=>(Value.slice ap6 ws.length cp6).ownBlock=some k) hcA fun y hy hlt=>absurd hlt (Nat.not_lt.2 (I1.out.lo y hy))).trans ((Chg.refl (fun _=>False) w8).drewN nq) fun _ h _=>h)
    generalize w8.drewN nq=wX at HW0 PBX KX ⊢
    obtain ⟨lst,hlst⟩:∃ lst:List Pu,lst = []:=⟨_,rfl⟩
    obtain ⟨la,hla⟩:∃ la:Option Addr,la=none:=⟨_,rfl⟩
    obtain ⟨lcap,hlcap⟩:∃ lcap:Nat,lcap=0:=⟨_,rfl⟩
    have HW:Hid (WnB wX w2.heap.size (.slice (some ⟨g0,0,none⟩) (ws.length+1) cap8) (vs ++ [.slice la lst.length lcap]) (ws ++ [lst])):=by subst hlst hla hlcap;exact HW0.out
    have HPUT:Hid (A1u len ws (decide (i=0)) (if i=0 then (0,0,0) else SL.getD (i - 1) (0,0,0)) (pa,pb,pc)=ws ++ [lst ++ [(pa,pb,pc)]]):=by unfold Hid;rw [HST.out];subst hlst;simp [A2P]
    have HIN:Hid (∀ x∈ws ++ [lst],x.length≤i):=fun x hx=>by
     rcases List.mem_append.1 hx with hx | hx
     ·exact I4.out x hx
     ·rw [List.mem_singleton.1 hx,hlst];exact Nat.zero_le _
    have HWL:Hid (ws.length+1≤i+1):=Nat.succ_le_succ I3.out
    have HLL:Hid (lst.length≤i):=by rw [hlst];exact Nat.zero_le _
    have HPKN:Hid (¬ (Value.slice la lst.length lcap).ownBlock=some pk):=by rw [hla];simp [Hid,Value.ownBlock]
    clear hlst hla hlcap oc8 hcA HW0 HA HWYa KYa PBYa HROWp HSRp HBYT HNK HST ew0 ew1 ew2 hn0 hn1
    have OCX:Hid (wX.cell? ⟨g0,ws.length,none⟩=some (.slice la lst.length lcap)):=by
     have hln:vs.length=ws.length:=by have:=HW.out.len;simpa using this
     rw [← hln]
     exact A0j HW.out.row rfl (by rw [List.getElem?_append_right (Nat.le_refl _)];simp)
    have oc:=OCX.out
    have LS:Hid (A1r wX (.slice la lst.length lcap) lst):=by
     have hln:vs.length=ws.length:=by have:=HW.out.len;simpa using this
     have h1:=HW.out.ls vs.length (by simp) (by simp;omega)
     have e1:(vs ++ [Value.slice la lst.length lcap])[vs.length]'(by simp)=.slice la lst.length lcap:=by simp
     have e2:(ws ++ [lst])[vs.length]'(by simp;omega)=lst:=by rw [List.getElem_append_right (by omega)];simp [hln]
     rw [e1,e2] at h1
     exact h1
    obtain ⟨la',lcap',eLA,la1,la2,-⟩:=A0g LS.out
    cases eLA
    unfold maxLen at la2
    have f0:=PBX.out.drew.c0
    have f1:=PBX.out.drew.c1
    have f2:=PBX.out.drew.c2
    have ocd:wX.drew.cell? ⟨g0,ws.length,none⟩=some (.slice la lst.length lcap):=oc
    go_wp2
    refine A0e (fun w'=>w'.cell? ⟨g0,ws.length,none⟩=some (.slice la lst.length lcap)∧w'.cell? ⟨pk,0,none⟩=some (.int .i64 pa)∧w'.cell? ⟨pk,1,none⟩=some (.int .i64 pb)∧w'.cell? ⟨pk,2,none⟩=some (.int .i64 pc)) 7
     [(0,true),(1,true),(2,true),(3,true),(4,true),(5,false),(6,false)] (by kernel_rfl) (by kernel_rfl) (fun _ _ _ _ _ h=>h) ⟨ocd,f0,f1,f2⟩ ?_
    iterate 5 (refine A0d (v:=?_) rfl (by rfl) ?_ ?_;rotate_left;(· (intro w' hS;(try dsimp only at hS);go_simp;try with_reducible rfl));(try simp only [Act.put,List.setIfInBounds_toArray,List.set_cons_zero,List.set_cons_succ,List.getElem_toArray,List.getElem_cons_zero,List.getElem_cons_succ]))
    refine A0i rfl (by rfl) (fun K hK=>?_)
    go_simp
    have ka:Chg (fun _=>False) wX (wX.alloc (.cells #[.int .i64 pa,.int .i64 pb,.int .i64 pc] 113)).drew:=((Chg.refl _ _).alloc _).drew
    have PB7:=PBX.out.keep ka (fun h=>h)
    have LS7:Hid (A1r (wX.alloc (.cells #[.int .i64 pa,.int .i64 pb,.int .i64 pc] 113)).drew (.slice la lst.length lcap) lst):=A0a LS.out fun g hg=>ka.block g (A0c LS.out hg) (fun h=>h)
    have HW7:=A0b (HW.out.keep0 ka)
    have HSRC:Hid (Src Tryz.prog 3 97 (.slice (some ⟨wX.heap.size,0,none⟩) 1 1) 1 #[.int .i64 pa,.int .i64 pb,.int .i64 pc].toList (wX.alloc (.cells #[.int .i64 pa,.int .i64 pb,.int .i64 pc] 113)).drew):=by
     have hb:(wX.alloc (.cells #[.int .i64 pa,.int .i64 pb,.int .i64 pc] 113)).drew.heap[wX.heap.size]?=some (.cells #[.int .i64 pa,.int .i64 pb,.int .i64 pc] 113 (0,0)):=heap_alloc_new wX _
     exact Src.ofBlock Tryz.underlying97 hb 1 1 rfl (A0G [(pa,pb,pc)])
    refine hK _ _ ⟨ka.cellKeep oc,PB7.c0,PB7.c1,PB7.c2⟩ (fun hS=>?_)
    have PB7h:=A0b PB7
    have KA:=A0b ka
    clear hK K hS PB7 ka oc f0 f1 f2 ocd
    (try simp only [Act.put,List.setIfInBounds_toArray,List.set_cons_zero,List.set_cons_succ,List.getElem_toArray,List.getElem_cons_zero,List.getElem_cons_succ])
    refine A0i rfl (by rfl) (fun K hK=>?_)
    refine A3q (.tmp 78) (.tmp 80) 97 97 rfl 113 j0 _ 3 24 Tryz.underlying97 hj hy0 hy1 hy2 rfl (by decide) (.slice la lst.length lcap) lst.length (A0x lst) (by rfl) LS7.out _ 1 _ (by rfl) HSRC.out (HBY.out _ HLL.out) ?_
    intro a8 cap8 w8 hA
    have hA2:=hA.chg (S:=fun k=>(Value.slice la lst.length lcap).ownBlock=some k) fun _ h=>h
    have hlv8:A1r w8 (.slice a8 (lst.length+1) cap8) (lst ++ [(pa,pb,pc)]):=by
     have e:(lst ++ [(pa,pb,pc)]).length=lst.length+1:=by simp
     unfold A1r
     rw [A0Y,e]
     exact hA.own
    have ho8:∀ g,(Value.slice a8 (lst.length+1) cap8).ownBlock=some g→(Value.slice la lst.length lcap).ownBlock=some g∨(wX.alloc (.cells #[.int .i64 pa,.int .i64 pb,.int .i64 pc] 113)).drew.heap.size≤g:=fun g hg=>by
     rcases hA.at_ with h | h
     ·rw [h] at hg;exact .inl hg
     ·rw [h] at hg;cases hg;exact .inr (Nat.le_refl _)
    have hB8:w2.heap.size≤(wX.alloc (.cells #[.int .i64 pa,.int .i64 pb,.int .i64 pc] 113)).drew.heap.size:=Nat.le_trans KX.out.size KA.out.size
    have hln8:vs.length=ws.length:=by have:=HW.out.len;simpa using this
    have HFIN:=HW7.out.setOut hA2 hlv8 ho8 hB8
    rw [hln8] at HFIN
    have HFIN:=A0b HFIN
    have hlvin:Value.slice la lst.length lcap∈vs ++ [Value.slice la lst.length lcap]:=by simp
    have PB8:=PB7h.out.keep hA2 HPKN.out
    have hoc8:w8.cell? ⟨g0,ws.length,none⟩=some (.slice la lst.length lcap):=hA2.cellKeepS (KA.out.cellKeep OCX.out) (fun h=>HW7.out.ne hlvin h rfl)
    have hofz8:w8.frozen? ⟨g0,ws.length,none⟩=false:=by
     have hb:=hA2.block g0 (A0c HW7.out.row rfl) (fun h=>HW7.out.ne hlvin h rfl)
     have:=A0t HW7.out.row (g:=g0) rfl ws.length
     unfold World.frozen? at this ⊢
     rw [hb];exact this
    refine hK _ _ ⟨hoc8,PB8.c0,PB8.c1,PB8.c2⟩ (fun hS=>?_)
    have C8:Hid (Chg (fun _=>False) w2 (w8.setCell ⟨g0,ws.length,none⟩ (.slice a8 (lst.length+1) cap8))):=((KX.out.trans KA.out fun _ h _=>h).trans (S':=fun k=>(Value.slice la lst.length lcap).ownBlock=some k) hA2 fun y hy hlt=>by have:=HW7.out.li _ hlvin _ hy;omega).setCell (p:=⟨g0,ws.length,none⟩) (fun h=>by have:=HW7.out.lo g0 rfl;have h':g0<w2.heap.size:=h;omega) _
    have FINR:=A0b (FINN.out _ HPUT.out)
    clear hK K hS hA hA2 hlv8 ho8 hB8 PB8 HSRC LS7 hln8 FINN HPUT
    (try simp only [Act.put,List.setIfInBounds_toArray,List.set_cons_zero,List.set_cons_succ,List.getElem_toArray,List.getElem_cons_zero,List.getElem_cons_succ])
    refine A0k ?_
    simp only [List.drop_succ_cons,List.drop_zero]
    go_wp2
    go_roundw
    case rel=>
     exact ⟨i+1,ws ++ [lst ++ [(pa,pb,pc)]],vs ++ [.slice a8 (lst.length+1) cap8],by go_num,hi1,HFIN.out,C8.out,(by rw [List.length_append];exact HWL.out),(fun x hx=>(List.mem_append.1 hx).elim (fun hx=>Nat.le_succ_of_le (HIN.out x (List.mem_append.2 (.inl hx)))) (fun hx=>by rw [List.mem_singleton.1 hx,List.length_append];exact Nat.succ_le_succ HLL.out)),fun _=>⟨ws,_,rfl,by simp⟩,FINR.out⟩
    case measure=>simp [intOf];omega
   case neg=>
    obtain ⟨P,hPi⟩:∃ P,P=i - 1:=⟨_,rfl⟩
    have hP1:P<SL.length:=by omega
    obtain ⟨gq,hgq,q1,q2,q3⟩:=CEL.out wr i2 P hP1
    cases hgq
    have hqt:=HSM.out _ (List.getElem_mem hP1)
    have hsq:SL.getD P (0,0,0)=SL[P]'hP1:=by rw [List.getD_eq_getElem?_getD,List.getElem?_eq_getElem hP1];rfl
    obtain ⟨q,hq⟩:∃ q,(SL[P]'hP1)=q:=⟨_,rfl⟩
    rw [hq] at q2 hqt hsq
    obtain ⟨qa,qb,qc⟩:=q
    dsimp only at q2 hqt
    have WO1:=A0b (fun wx=>A3A wx pb len hpt HLEN.out)
    have WO2:=A0b (fun wx=>A3A wx qb len hqt HLEN.out)
    have HSTN:Hid (A1K pb len≠A1K qb len→A1u len ws (decide (i=0)) (if i=0 then (0,0,0) else SL.getD (i - 1) (0,0,0)) (pa,pb,pc)=A2P ws [] (pa,pb,pc)):=fun h=>by
     rw [if_neg hi0,← hPi,hsq];exact A5K len ws _ _ _ (.inr h)
    have HSTO:Hid (∀ ws0 l0,ws=ws0 ++ [l0]→A1K pb len=A1K qb len→A1u len ws (decide (i=0)) (if i=0 then (0,0,0) else SL.getD (i - 1) (0,0,0)) (pa,pb,pc)=A2P ws0 l0 (pa,pb,pc)):=fun ws0 l0 e h=>by
     rw [if_neg hi0,← hPi,hsq,decide_eq_false hi0,e];exact A8S len ws0 l0 _ _ h
    have hz:((i:Int) == 0)=false:=by simpa using hi0
    obtain ⟨WA,hWA⟩:∃ WA,A1K pb len=WA:=⟨_,rfl⟩
    obtain ⟨WB,hWB⟩:∃ WB,A1K qb len=WB:=⟨_,rfl⟩
    rw [hWA] at WO1 HSTN HSTO
    rw [hWB] at WO2 HSTN HSTO
    have eP0:IntKind.i64.wrap ((i:Int) - 1)=(P:Int):=by simp [IntKind.wrap,IntKind.bits,IntKind.signed];omega
    have eP1:wrap64 ((i:Int) - 1)=(P:Int):=by unfold wrap64;omega
    have hP0:(0:Int)≤(P:Int):=Int.natCast_nonneg _
    have hPn:(P:Int)<(SL.length:Int):=by omega
    have Q2:=A0b (KP.out.cellKeep q2)
    have IPOS:Hid (0<i):=by unfold Hid;omega
    have HLE:=A0b (KP.out.cellKeep (i2.cellKeep C2.out))
    clear hI i1 i2 i3 i4 i5 i6 hpk kp hp hpke hi0 hPi hqt hsq hq q1 q2 q3 hWA hWB
    by_cases hww:WA=WB
    case neg=>
     subst e6
     have hnb:(WA != WB)=true:=by simpa using hww
     have HST:=A0b (HSTN.out hww)
     clear hww HSTN HSTO
     go_wp2
     rw [HPKE.out]
     generalize wr.alloc (.cells #[.int .i64 pa,.int .i64 pb,.int .i64 pc] 113)=wA at HPK KP Q2 HLE ⊢
     have HWY:=A0b (I1.out.keep0 KP.out.drew)
     have PBY:=A0b HPK.out.drew
     have KY:=A0b (I2.out.trans KP.out.drew fun _ h _=>h)
     have z1:=PBY.out.c1
     have z2:wA.drew.cell? ⟨g,P*3+1,none⟩=some (.int .i64 qb):=Q2.out
     have z3:wA.drew.cell? ⟨w.heap.size,0,none⟩=some (.int .i64 len):=HLE.out
     refine A0e (fun w'=>w'.cell? ⟨pk,1,none⟩=some (.int .i64 pb)∧w'.cell? ⟨g,P*3+1,none⟩=some (.int .i64 qb)∧w'.cell? ⟨w.heap.size,0,none⟩=some (.int .i64 len)) 18
      [(0,true),(1,true),(2,true),(3,true),(4,true),(5,true),(6,true),(8,true),(9,true),(10,true),(11,true),(12,true),(13,true),(14,true),(15,true),(7,false),(16,false),(17,true)] (by kernel_rfl) (by kernel_rfl) (fun _ _ _ _ _ h=>h) ⟨z1,z2,z3⟩ ?_
     iterate 15 (refine A0d (v:=?_) rfl (by rfl) ?_ ?_;rotate_left;(· (intro w' hS;(try dsimp only at hS);go_simp;try with_reducible rfl));(try simp only [Act.put,List.setIfInBounds_toArray,List.set_cons_zero,List.set_cons_succ,List.getElem_toArray,List.getElem_cons_zero,List.getElem_cons_succ]))
     refine A0i rfl (by rfl) (fun K hK=>?_)
     go_simp
     refine (WO1.out _).mono ?_
     rintro e w3 ⟨rfl,rfl⟩
     refine hK _ _ ⟨z1,z2,z3⟩ (fun hS=>?_)
     clear hK K hS
     (try simp only [Act.put,List.setIfInBounds_toArray,List.set_cons_zero,List.set_cons_succ,List.getElem_toArray,List.getElem_cons_zero,List.getElem_cons_succ])
     refine A0i rfl (by rfl) (fun K hK=>?_)
     go_simp
     refine (WO2.out _).mono ?_
     rintro e w3 ⟨rfl,rfl⟩
     refine hK _ _ ⟨z1,z2,z3⟩ (fun hS=>?_)
     clear hK K hS WO1 WO2
     (try simp only [Act.put,List.setIfInBounds_toArray,List.set_cons_zero,List.set_cons_succ,List.getElem_toArray,List.getElem_cons_zero,List.getElem_cons_succ])
     (refine A0d (v:=?_) rfl (by rfl) ?_ ?_;rotate_left;(· (intro w' hS;(try dsimp only at hS);go_simp;try with_reducible rfl));(try simp only [Act.put,List.setIfInBounds_toArray,List.set_cons_zero,List.set_cons_succ,List.getElem_toArray,List.getElem_cons_zero,List.getElem_cons_succ]))
     refine A0k ?_
     simp only [List.drop_succ_cons,List.drop_zero]
     generalize wA.drew=wY at HWY PBY KY z1 z2 z3 ⊢
     clear z1 z2 z3
     have HROWp:Hid ((wY.alloc (.cells #[.slice none 0 0] 97)).ownsRow 0 97 1 (.slice ap6 ws.length cp6) ws.length vs):=A0a HWY.out.row fun g hg=>((Chg.refl (fun _=>False) wY).alloc _).block g (A0c HWY.out.row hg) (fun h=>h)
     have HSRp:=A0b (Src.ofNew (size:=1) (B:=wY.heap.size) Tryz.underlying174 wY #[.slice none 0 0] 97 (by simp) 1 1 rfl (by simp [Value.oneCell']))
     have KYa:=A0b (KY.out.alloc (.cells #[.slice none 0 0] 97))
     have HWYa:=A0b (HWY.out.keep0 ((Chg.refl (fun _=>False) wY).alloc (.cells #[.slice none 0 0] 97)))
     have PBYa:=A0b (PBY.out.keep ((Chg.refl (fun _=>False) wY).alloc (.cells #[.slice none 0 0] 97)) (fun h=>h))
     have HBYT:Hid ((ws.length+1)*24≤140737488355328):=by have h1:=I3.out;unfold Hid;omega
     have HNK:Hid (∀ g,(Value.slice ap6 ws.length cp6).ownBlock=some g→pk≠g):=fun g hg e=>by
      subst e
      have:=A0c I1.out.row hg
      have h2:=HPKE.out
      omega
     have ew0:IntKind.i64.wrap (ws.length:Int)=(ws.length:Int):=by have:=I3.out;simp [IntKind.wrap,IntKind.bits,IntKind.signed];omega
     have ew1:IntKind.i64.wrap ((ws.length:Int)+1 - 1)=(ws.length:Int):=by rw [Int.add_sub_cancel];exact ew0
     have ew2:wrap64 ((ws.length:Int)+1 - 1)=(ws.length:Int):=by have:=I3.out;unfold wrap64;omega
     have hn0:(0:Int)≤(ws.length:Int):=Int.natCast_nonneg _
     have hn1:(ws.length:Int)<(ws.length:Int)+1:=by omega
     go_wp2_with (at_builtin;refine A0o rfl (.tmp 42) (.tmp 43) 174 174 rfl 97 i0 _ 1 24 Tryz.underlying174 hi hz0 hz1 hz2 rfl (by decide) (.slice ap6 ws.length cp6) ws.length vs (by rfl) HROWp.out _ 1 _ (by rfl) HSRp.out HBYT.out ?_;intro a8 cap8 w8 hA;have HA:=A0b hA;clear hA;obtain ⟨a8',c8',e8,r1,r2,r3,-⟩:=A0g HA.out.own;cases e8;obtain ⟨g0,rfl⟩:=r3 (Nat.succ_pos _);clear r3;have oc8:w8.cell? ⟨g0,ws.length,none⟩=some (.slice none 0 0):=A0j HA.out.own rfl (by rw [← HWY.out.len,List.getElem?_append_right (Nat.le_refl _)];simp))
     go_quiet (fail)
     have hcA:=HA.out.chg (S:=fun k=>(Value.slice ap6 ws.length cp6).ownBlock=some k) fun _ h=>h
     have HW0:=A0b ((HWYa.out.push HA.out KYa.out.size).keep0 ((Chg.refl (fun _=>False) w8).drewN nq))
     have PBX:=A0b ((PBYa.out.keep hcA (fun h=>HNK.out _ h rfl)).keep ((Chg.refl (fun _=>False) w8).drewN nq) (fun h=>h))
     have KX:=A0b ((KYa.out.trans (S':=fun k=>(Value.slice ap6 ws.length cp6).ownBlock=some k) hcA fun y hy hlt=>absurd hlt (Nat.not_lt.2 (I1.out.lo y hy))).trans ((Chg.refl (fun _=>False) w8).drewN nq) fun _ h _=>h)
     generalize w8.drewN nq=wX at HW0 PBX KX ⊢
     obtain ⟨lst,hlst⟩:∃ lst:List Pu,lst = []:=⟨_,rfl⟩
     obtain ⟨la,hla⟩:∃ la:Option Addr,la=none:=⟨_,rfl⟩
     obtain ⟨lcap,hlcap⟩:∃ lcap:Nat,lcap=0:=⟨_,rfl⟩
     have HW:Hid (WnB wX w2.heap.size (.slice (some ⟨g0,0,none⟩) (ws.length+1) cap8) (vs ++ [.slice la lst.length lcap]) (ws ++ [lst])):=by subst hlst hla hlcap;exact HW0.out
     have HPUT:Hid (A1u len ws (decide (i=0)) (if i=0 then (0,0,0) else SL.getD (i - 1) (0,0,0)) (pa,pb,pc)=ws ++ [lst ++ [(pa,pb,pc)]]):=by unfold Hid;rw [HST.out];subst hlst;simp [A2P]
     have HIN:Hid (∀ x∈ws ++ [lst],x.length≤i):=fun x hx=>by
      rcases List.mem_append.1 hx with hx | hx
      ·exact I4.out x hx
      ·rw [List.mem_singleton.1 hx,hlst];exact Nat.zero_le _
     have HWL:Hid (ws.length+1≤i+1):=Nat.succ_le_succ I3.out
     have HLL:Hid (lst.length≤i):=by rw [hlst];exact Nat.zero_le _
     have HPKN:Hid (¬ (Value.slice la lst.length lcap).ownBlock=some pk):=by rw [hla];simp [Hid,Value.ownBlock]
     clear hlst hla hlcap oc8 hcA HW0 HA HWYa KYa PBYa HROWp HSRp HBYT HNK HST ew0 ew1 ew2 hn0 hn1
     have OCX:Hid (wX.cell? ⟨g0,ws.length,none⟩=some (.slice la lst.length lcap)):=by
      have hln:vs.length=ws.length:=by have:=HW.out.len;simpa using this
      rw [← hln]
      exact A0j HW.out.row rfl (by rw [List.getElem?_append_right (Nat.le_refl _)];simp)
     have oc:=OCX.out
     have LS:Hid (A1r wX (.slice la lst.length lcap) lst):=by
      have hln:vs.length=ws.length:=by have:=HW.out.len;simpa using this
      have h1:=HW.out.ls vs.length (by simp) (by simp;omega)
      have e1:(vs ++ [Value.slice la lst.length lcap])[vs.length]'(by simp)=.slice la lst.length lcap:=by simp
      have e2:(ws ++ [lst])[vs.length]'(by simp;omega)=lst:=by rw [List.getElem_append_right (by omega)];simp [hln]
      rw [e1,e2] at h1
      exact h1
     obtain ⟨la',lcap',eLA,la1,la2,-⟩:=A0g LS.out
     cases eLA
     unfold maxLen at la2
     have f0:=PBX.out.drew.c0
     have f1:=PBX.out.drew.c1
     have f2:=PBX.out.drew.c2
     have ocd:wX.drew.cell? ⟨g0,ws.length,none⟩=some (.slice la lst.length lcap):=oc
     go_wp2
     refine A0e (fun w'=>w'.cell? ⟨g0,ws.length,none⟩=some (.slice la lst.length lcap)∧w'.cell? ⟨pk,0,none⟩=some (.int .i64 pa)∧w'.cell? ⟨pk,1,none⟩=some (.int .i64 pb)∧w'.cell? ⟨pk,2,none⟩=some (.int .i64 pc)) 7
      [(0,true),(1,true),(2,true),(3,true),(4,true),(5,false),(6,false)] (by kernel_rfl) (by kernel_rfl) (fun _ _ _ _ _ h=>h) ⟨ocd,f0,f1,f2⟩ ?_
     iterate 5 (refine A0d (v:=?_) rfl (by rfl) ?_ ?_;rotate_left;(· (intro w' hS;(try dsimp only at hS);go_simp;try with_reducible rfl));(try simp only [Act.put,List.setIfInBounds_toArray,List.set_cons_zero,List.set_cons_succ,List.getElem_toArray,List.getElem_cons_zero,List.getElem_cons_succ]))
     refine A0i rfl (by rfl) (fun K hK=>?_)
     go_simp
     have ka:Chg (fun _=>False) wX (wX.alloc (.cells #[.int .i64 pa,.int .i64 pb,.int .i64 pc] 113)).drew:=((Chg.refl _ _).alloc _).drew
     have PB7:=PBX.out.keep ka (fun h=>h)
     have LS7:Hid (A1r (wX.alloc (.cells #[.int .i64 pa,.int .i64 pb,.int .i64 pc] 113)).drew (.slice la lst.length lcap) lst):=A0a LS.out fun g hg=>ka.block g (A0c LS.out hg) (fun h=>h)
     have HW7:=A0b (HW.out.keep0 ka)
     have HSRC:Hid (Src Tryz.prog 3 97 (.slice (some ⟨wX.heap.size,0,none⟩) 1 1) 1 #[.int .i64 pa,.int .i64 pb,.int .i64 pc].toList (wX.alloc (.cells #[.int .i64 pa,.int .i64 pb,.int .i64 pc] 113)).drew):=by
      have hb:(wX.alloc (.cells #[.int .i64 pa,.int .i64 pb,.int .i64 pc] 113)).drew.heap[wX.heap.size]?=some (.cells #[.int .i64 pa,.int .i64 pb,.int .i64 pc] 113 (0,0)):=heap_alloc_new wX _
      exact Src.ofBlock Tryz.underlying97 hb 1 1 rfl (A0G [(pa,pb,pc)])
     refine hK _ _ ⟨ka.cellKeep oc,PB7.c0,PB7.c1,PB7.c2⟩ (fun hS=>?_)
     have PB7h:=A0b PB7
     have KA:=A0b ka
     clear hK K hS PB7 ka oc f0 f1 f2 ocd
     (try simp only [Act.put,List.setIfInBounds_toArray,List.set_cons_zero,List.set_cons_succ,List.getElem_toArray,List.getElem_cons_zero,List.getElem_cons_succ])
     refine A0i rfl (by rfl) (fun K hK=>?_)
     refine A3q (.tmp 78) (.tmp 80) 97 97 rfl 113 j0 _ 3 24 Tryz.underlying97 hj hy0 hy1 hy2 rfl (by decide) (.slice la lst.length lcap) lst.length (A0x lst) (by rfl) LS7.out _ 1 _ (by rfl) HSRC.out (HBY.out _ HLL.out) ?_
     intro a8 cap8 w8 hA
     have hA2:=hA.chg (S:=fun k=>(Value.slice la lst.length lcap).ownBlock=some k) fun _ h=>h
     have hlv8:A1r w8 (.slice a8 (lst.length+1) cap8) (lst ++ [(pa,pb,pc)]):=by
      have e:(lst ++ [(pa,pb,pc)]).length=lst.length+1:=by simp
      unfold A1r
      rw [A0Y,e]
      exact hA.own
     have ho8:∀ g,(Value.slice a8 (lst.length+1) cap8).ownBlock=some g→(Value.slice la lst.length lcap).ownBlock=some g∨(wX.alloc (.cells #[.int .i64 pa,.int .i64 pb,.int .i64 pc] 113)).drew.heap.size≤g:=fun g hg=>by
      rcases hA.at_ with h | h
      ·rw [h] at hg;exact .inl hg
      ·rw [h] at hg;cases hg;exact .inr (Nat.le_refl _)
     have hB8:w2.heap.size≤(wX.alloc (.cells #[.int .i64 pa,.int .i64 pb,.int .i64 pc] 113)).drew.heap.size:=Nat.le_trans KX.out.size KA.out.size
     have hln8:vs.length=ws.length:=by have:=HW.out.len;simpa using this
     have HFIN:=HW7.out.setOut hA2 hlv8 ho8 hB8
     rw [hln8] at HFIN
     have HFIN:=A0b HFIN
     have hlvin:Value.slice la lst.length lcap∈vs ++ [Value.slice la lst.length lcap]:=by simp
     have PB8:=PB7h.out.keep hA2 HPKN.out
     have hoc8:w8.cell? ⟨g0,ws.length,none⟩=some (.slice la lst.length lcap):=hA2.cellKeepS (KA.out.cellKeep OCX.out) (fun h=>HW7.out.ne hlvin h rfl)
     have hofz8:w8.frozen? ⟨g0,ws.length,none⟩=false:=by
      have hb:=hA2.block g0 (A0c HW7.out.row rfl) (fun h=>HW7.out.ne hlvin h rfl)
      have:=A0t HW7.out.row (g:=g0) rfl ws.length
      unfold World.frozen? at this ⊢
      rw [hb];exact this
     refine hK _ _ ⟨hoc8,PB8.c0,PB8.c1,PB8.c2⟩ (fun hS=>?_)
     have C8:Hid (Chg (fun _=>False) w2 (w8.setCell ⟨g0,ws.length,none⟩ (.slice a8 (lst.length+1) cap8))):=((KX.out.trans KA.out fun _ h _=>h).trans (S':=fun k=>(Value.slice la lst.length lcap).ownBlock=some k) hA2 fun y hy hlt=>by have:=HW7.out.li _ hlvin _ hy;omega).setCell (p:=⟨g0,ws.length,none⟩) (fun h=>by have:=HW7.out.lo g0 rfl;have h':g0<w2.heap.size:=h;omega) _
     have FINR:=A0b (FINN.out _ HPUT.out)
     clear hK K hS hA hA2 hlv8 ho8 hB8 PB8 HSRC LS7 hln8 FINN HPUT
     (try simp only [Act.put,List.setIfInBounds_toArray,List.set_cons_zero,List.set_cons_succ,List.getElem_toArray,List.getElem_cons_zero,List.getElem_cons_succ])
     refine A0k ?_
     simp only [List.drop_succ_cons,List.drop_zero]
     go_wp2
     go_roundw
     case rel=>
      exact ⟨i+1,ws ++ [lst ++ [(pa,pb,pc)]],vs ++ [.slice a8 (lst.length+1) cap8],by go_num,hi1,HFIN.out,C8.out,(by rw [List.length_append];exact HWL.out),(fun x hx=>(List.mem_append.1 hx).elim (fun hx=>Nat.le_succ_of_le (HIN.out x (List.mem_append.2 (.inl hx)))) (fun hx=>by rw [List.mem_singleton.1 hx,List.length_append];exact Nat.succ_le_succ HLL.out)),fun _=>⟨ws,_,rfl,by simp⟩,FINR.out⟩
     case measure=>simp [intOf];omega
    case pos=>
     subst hww
     have hnb:(WA != WA)=false:=by simp
     obtain ⟨ws0,lst,rfl,hlne⟩:=I5.out IPOS.out
     have HST:=A0b (HSTO.out ws0 lst rfl rfl)
     have hwl:(ws0 ++ [lst]).length=ws0.length+1:=by simp
     have hvl:=I1.out.len
     obtain ⟨vs0,lv,rfl⟩:∃ vs0 lv,vs=vs0 ++ [lv]:=by
      have hne:vs≠[]:=by intro h;subst h;simp at hvl
      exact ⟨vs.dropLast,vs.getLast hne,(List.dropLast_concat_getLast hne).symm⟩
     have hln:vs0.length=ws0.length:=by simpa using hvl
     have LSr:A1r wr lv lst:=by
      have h1:=I1.out.ls vs0.length (by simp) (by simp;omega)
      have e1:(vs0 ++ [lv])[vs0.length]'(by simp)=lv:=by simp
      have e2:(ws0 ++ [lst])[vs0.length]'(by simp;omega)=lst:=by rw [List.getElem_append_right (by omega)];simp [hln]
      rw [e1,e2] at h1
      exact h1
     obtain ⟨la,lcap,rfl,l1,l2,l3,-⟩:=A0g LSr
     obtain ⟨gl,rfl⟩:=l3 (List.length_pos_iff.2 hlne)
     unfold maxLen at l2
     obtain ⟨l0,q0,hl0⟩:∃ l0 q0,lst=l0 ++ [q0]:=⟨lst.dropLast,lst.getLast hlne,(List.dropLast_concat_getLast hlne).symm⟩
     obtain ⟨m0,hm0⟩:∃ m0,m0=l0.length:=⟨_,rfl⟩
     have hml:lst.length=m0+1:=by rw [hl0,hm0];simp
     rw [hwl] at e6 hc61
     subst e6
     obtain ⟨g0,rfl⟩:=HG6.out (by rw [hwl];omega)
     obtain ⟨c1,c2,c3⟩:=A2y lst m0 (by omega)
     have hq0:lst[m0]'(by omega)=q0:=by subst hl0;rw [List.getElem_append_right (by omega)];simp [hm0]
     rw [hq0] at c1 c2 c3
     have HMAX:Hid (lst.length≤i):=I4.out lst (by simp)
     have HWL:Hid (ws0.length+1≤i+1):=by have:=I3.out;rw [hwl] at this;unfold Hid;omega
     have CO:Hid (∀ wx,Chg (fun _=>False) wr wx→wx.cell? ⟨g0,ws0.length,none⟩=some (.slice (some ⟨gl,0,none⟩) (m0+1) lcap)∧wx.cell? ⟨gl,m0*3,none⟩=some (.int .i64 q0.1)∧wx.cell? ⟨gl,m0*3+1,none⟩=some (.int .i64 q0.2.1)∧wx.cell? ⟨gl,m0*3+2,none⟩=some (.int .i64 q0.2.2)):=fun wx hx=>
      ⟨hx.cellKeep (by rw [← hln,← hml];exact A0j I1.out.row rfl (by rw [List.getElem?_append_right (Nat.le_refl _)];simp)),hx.cellKeep (A0j LSr rfl c1),hx.cellKeep (A0j LSr rfl c2),hx.cellKeep (A0j LSr rfl c3)⟩
     have HGL:Hid (gl≠pk):=by
      have h1:=A0c LSr (g:=gl) rfl
      have h2:=HPKE.out
      unfold Hid;omega
     have PC:=A0b (fun wx=>A2J wx (pa,pb,pc) q0)
     have HPN:Hid (¬ A1V (pa,pb,pc) q0=0→A2P ws0 lst (pa,pb,pc)=ws0 ++ [lst ++ [(pa,pb,pc)]]):=fun h=>by
      unfold A2P;rw [if_neg];rintro ⟨-,h2⟩;rw [hl0] at h2;simp at h2;exact h h2
     have HPE:Hid (A1V (pa,pb,pc) q0=0→A2P ws0 lst (pa,pb,pc)=ws0 ++ [l0 ++ [(pa,pb,pc)]]):=fun h=>by
      unfold A2P;rw [if_pos ⟨hlne,by rw [hl0];simpa using h⟩,hl0];simp
     obtain ⟨cc,hcc⟩:∃ cc,A1V (pa,pb,pc) q0=cc:=⟨_,rfl⟩
     rw [hcc] at HPN HPE
     have HL0:=A0b hl0
     have HM0:=A0b hm0
     have HML:=A0b hml
     have HLSR:=A0b LSr
     have hmx:m0+1≤i:=by have:=I4.out lst (by simp);omega
     have hgt:(0:Int)<(m0:Int)+1:=by omega
     have em:IntKind.i64.wrap (m0:Int)=(m0:Int):=by simp [IntKind.wrap,IntKind.bits,IntKind.signed];omega
     have em0:IntKind.i64.wrap ((m0:Int)+1 - 1)=(m0:Int):=by rw [Int.add_sub_cancel];exact em
     have em1:wrap64 ((m0:Int)+1 - 1)=(m0:Int):=by unfold wrap64;omega
     have hm00:(0:Int)≤(m0:Int):=Int.natCast_nonneg _
     have hm01:(m0:Int)<(m0:Int)+1:=by omega
     have HMX:=A0b hmx
     have ew0:IntKind.i64.wrap (ws0.length:Int)=(ws0.length:Int):=by have:=HWL.out;simp [IntKind.wrap,IntKind.bits,IntKind.signed];omega
     have ew1:IntKind.i64.wrap ((ws0.length:Int)+1 - 1)=(ws0.length:Int):=by rw [Int.add_sub_cancel];exact ew0
     have ew2:wrap64 ((ws0.length:Int)+1 - 1)=(ws0.length:Int):=by have:=HWL.out;unfold wrap64;omega
     have hn0:(0:Int)≤(ws0.length:Int):=Int.natCast_nonneg _
     have hn1:(ws0.length:Int)<(ws0.length:Int)+1:=by omega
     obtain ⟨qa',qb',qc'⟩:=q0
     unfold A2t at PC
     dsimp only at CO PC
     rw [hcc] at PC
     clear HSTN HSTO hlne hvl hln LSr l1 l3 hl0 hm0 hml c1 c2 c3 hq0 hwl hcc hc61 HG6 I5 hmx
     go_wp2
     rw [HPKE.out]
     generalize wr.alloc (.cells #[.int .i64 pa,.int .i64 pb,.int .i64 pc] 113)=wA at HPK KP Q2 HLE ⊢
     have HWY:=A0b (I1.out.keep0 KP.out.drew)
     have PBY:=A0b HPK.out.drew
     have KY:=A0b (I2.out.trans KP.out.drew fun _ h _=>h)
     have z1:=PBY.out.c1
     have z2:wA.drew.cell? ⟨g,P*3+1,none⟩=some (.int .i64 qb):=Q2.out
     have z3:wA.drew.cell? ⟨w.heap.size,0,none⟩=some (.int .i64 len):=HLE.out
     refine A0e (fun w'=>w'.cell? ⟨pk,1,none⟩=some (.int .i64 pb)∧w'.cell? ⟨g,P*3+1,none⟩=some (.int .i64 qb)∧w'.cell? ⟨w.heap.size,0,none⟩=some (.int .i64 len)) 18
      [(0,true),(1,true),(2,true),(3,true),(4,true),(5,true),(6,true),(8,true),(9,true),(10,true),(11,true),(12,true),(13,true),(14,true),(15,true),(7,false),(16,false),(17,true)] (by kernel_rfl) (by kernel_rfl) (fun _ _ _ _ _ h=>h) ⟨z1,z2,z3⟩ ?_
     iterate 15 (refine A0d (v:=?_) rfl (by rfl) ?_ ?_;rotate_left;(· (intro w' hS;(try dsimp only at hS);go_simp;try with_reducible rfl));(try simp only [Act.put,List.setIfInBounds_toArray,List.set_cons_zero,List.set_cons_succ,List.getElem_toArray,List.getElem_cons_zero,List.getElem_cons_succ]))
     refine A0i rfl (by rfl) (fun K hK=>?_)
     go_simp
     refine (WO1.out _).mono ?_
     rintro e w3 ⟨rfl,rfl⟩
     refine hK _ _ ⟨z1,z2,z3⟩ (fun hS=>?_)
     clear hK K hS
     (try simp only [Act.put,List.setIfInBounds_toArray,List.set_cons_zero,List.set_cons_succ,List.getElem_toArray,List.getElem_cons_zero,List.getElem_cons_succ])
     refine A0i rfl (by rfl) (fun K hK=>?_)
     go_simp
     refine (WO2.out _).mono ?_
     rintro e w3 ⟨rfl,rfl⟩
     refine hK _ _ ⟨z1,z2,z3⟩ (fun hS=>?_)
     clear hK K hS WO1 WO2
     (try simp only [Act.put,List.setIfInBounds_toArray,List.set_cons_zero,List.set_cons_succ,List.getElem_toArray,List.getElem_cons_zero,List.getElem_cons_succ])
     (refine A0d (v:=?_) rfl (by rfl) ?_ ?_;rotate_left;(· (intro w' hS;(try dsimp only at hS);go_simp;try with_reducible rfl));(try simp only [Act.put,List.setIfInBounds_toArray,List.set_cons_zero,List.set_cons_succ,List.getElem_toArray,List.getElem_cons_zero,List.getElem_cons_succ]))
     refine A0k ?_
     simp only [List.drop_succ_cons,List.drop_zero]
     have COA:=A0b (fun wx (hx:Chg (fun _=>False) wA wx)=>CO.out wx (KP.out.trans hx fun _ h _=>h))
     have oc:=(COA.out wA.drew (Chg.refl _ wA).drew).1
     go_wp2
     have CD:=(COA.out wA.drew.drew (Chg.refl _ wA).drew.drew)
     have f0:=PBY.out.drew.c0
     have f1:=PBY.out.drew.c1
     have f2:=PBY.out.drew.c2
     obtain ⟨d0,d1,d2,d3⟩:=CD
     refine A0e (fun w'=>w'.cell? ⟨g0,ws0.length,none⟩=some (.slice (some ⟨gl,0,none⟩) (m0+1) lcap)∧w'.cell? ⟨gl,m0*3,none⟩=some (.int .i64 qa')∧w'.cell? ⟨gl,m0*3+1,none⟩=some (.int .i64 qb')∧w'.cell? ⟨gl,m0*3+2,none⟩=some (.int .i64 qc')∧w'.cell? ⟨pk,0,none⟩=some (.int .i64 pa)∧w'.cell? ⟨pk,1,none⟩=some (.int .i64 pb)∧w'.cell? ⟨pk,2,none⟩=some (.int .i64 pc)) 13
      [(0,true),(1,true),(2,true),(3,true),(4,true),(5,true),(6,true),(7,true),(8,true),(9,true),(10,true),(11,false),(12,true)] (by kernel_rfl) (by kernel_rfl) (fun _ _ _ _ _ h=>h) ⟨d0,d1,d2,d3,f0,f1,f2⟩ ?_
     iterate 11 (refine A0d (v:=?_) rfl (by rfl) ?_ ?_;rotate_left;(· (intro w' hS;(try dsimp only at hS);go_simp;try with_reducible rfl));(try simp only [Act.put,List.setIfInBounds_toArray,List.set_cons_zero,List.set_cons_succ,List.getElem_toArray,List.getElem_cons_zero,List.getElem_cons_succ]))
     refine A0i rfl (by rfl) (fun K hK=>?_)
     go_simp
     refine (PC.out _).mono ?_
     rintro e wX ⟨rfl,hc6⟩
     have k6:Chg (fun _=>False) wA wX:=((Chg.refl (fun _=>False) wA).drew.drew).trans hc6 fun _ h _=>h
     have PB6:=PBY.out.keep ((Chg.refl (fun _=>False) wA.drew).drew.trans hc6 fun _ h _=>h) (fun h=>h)
     refine hK _ _ ⟨(COA.out wX k6).1,(COA.out wX k6).2.1,(COA.out wX k6).2.2.1,(COA.out wX k6).2.2.2,PB6.c0,PB6.c1,PB6.c2⟩ (fun hS=>?_)
     have HW6:=A0b (I1.out.keep0 (KP.out.trans k6 fun _ h _=>h))
     have KX:=A0b (I2.out.trans (KP.out.trans k6 fun _ h _=>h) fun _ h _=>h)
     have PBX:=A0b PB6
     have KAX:=A0b k6
     have LS6:Hid (A1r wX (.slice (some ⟨gl,0,none⟩) lst.length lcap) lst):=A0a HLSR.out fun g hg=>(KP.out.trans k6 fun _ h _=>h).block g (A0c HLSR.out hg) (fun h=>h)
     clear hK K hS hc6 k6 PB6 f0 f1 f2 d0 d1 d2 d3 oc z1 z2 z3 PC HWY PBY KY
     (try simp only [Act.put,List.setIfInBounds_toArray,List.set_cons_zero,List.set_cons_succ,List.getElem_toArray,List.getElem_cons_zero,List.getElem_cons_succ])
     by_cases hcz:cc=0
     case pos=>
      have hcb:(cc == 0)=true:=by simpa using hcz
      have HPUT:=A0b (HST.out.trans (HPE.out hcz))
      have FINR:=A0b (FINN.out _ HPUT.out)
      clear hcz HPE HPN HST FINN HPUT
      (refine A0d (v:=?_) rfl (by rfl) ?_ ?_;rotate_left;(· (intro w' hS;(try dsimp only at hS);go_simp;try with_reducible rfl));(try simp only [Act.put,List.setIfInBounds_toArray,List.set_cons_zero,List.set_cons_succ,List.getElem_toArray,List.getElem_cons_zero,List.getElem_cons_succ]))
      refine A0k ?_
      simp only [List.drop_succ_cons,List.drop_zero]
      go_wp2
      obtain ⟨d0,d1,d2,d3⟩:=COA.out wX.drew KAX.out.drew
      have f0:=PBX.out.drew.c0
      have f1:=PBX.out.drew.c1
      have f2:=PBX.out.drew.c2
      refine A0e (fun w'=>w'.cell? ⟨g0,ws0.length,none⟩=some (.slice (some ⟨gl,0,none⟩) (m0+1) lcap)∧w'.cell? ⟨gl,m0*3,none⟩=some (.int .i64 qa')∧w'.cell? ⟨gl,m0*3+1,none⟩=some (.int .i64 qb')∧w'.cell? ⟨gl,m0*3+2,none⟩=some (.int .i64 qc')∧w'.cell? ⟨pk,0,none⟩=some (.int .i64 pa)∧w'.cell? ⟨pk,1,none⟩=some (.int .i64 pb)∧w'.cell? ⟨pk,2,none⟩=some (.int .i64 pc)) 6
       [(0,true),(1,true),(2,true),(3,true),(4,true),(5,true)] (by kernel_rfl) (by kernel_rfl) (fun _ _ _ _ _ h=>h) ⟨d0,d1,d2,d3,f0,f1,f2⟩ ?_
      iterate 6 (refine A0d (v:=?_) rfl (by rfl) ?_ ?_;rotate_left;(· (intro w' hS;(try dsimp only at hS);go_simp;try with_reducible rfl));(try simp only [Act.put,List.setIfInBounds_toArray,List.set_cons_zero,List.set_cons_succ,List.getElem_toArray,List.getElem_cons_zero,List.getElem_cons_succ]))
      refine A0k ?_
      simp only [List.drop_succ_cons,List.drop_zero]
      have fz:∀ o,wX.drew.frozen? ⟨gl,o,none⟩=false:=fun o=>A0t (LS6.out:wX.drew.ownsRow 0 113 3 (.slice (some ⟨gl,0,none⟩) lst.length lcap) lst.length (A0x lst)) rfl o
      obtain ⟨-,b1,b2,b3⟩:=COA.out wX KAX.out
      have fy:∀ o,wX.frozen? ⟨gl,o,none⟩=false:=fun o=>A0t LS6.out rfl o
      have hks:m0<lst.length:=by rw [HML.out];exact Nat.lt_succ_self _
      have G9:=A1r.set (w:=wX) (g:=gl) (n:=lst.length) (cap:=lcap) (l:=lst) LS6.out m0 hks (pa,pb,pc)
      have hset:lst.set m0 (pa,pb,pc)=l0 ++ [(pa,pb,pc)]:=by
       rw [HL0.out,HM0.out,List.set_append_right _ _ (Nat.le_refl _)];simp
      have hle:(l0 ++ [(pa,pb,pc)]).length=lst.length:=by rw [← hset,List.length_set]
      rw [hset] at G9
      have kc:Chg (fun k=>(Value.slice (some ⟨gl,0,none⟩) lst.length lcap).ownBlock=some k) wX (((wX.setCell ⟨gl,m0*3,none⟩ (.int .i64 pa)).setCell ⟨gl,m0*3+1,none⟩ (.int .i64 pb)).setCell ⟨gl,m0*3+2,none⟩ (.int .i64 pc)).drew:=(((((Chg.refl (One gl) wX).setAt (b:=gl) rfl _ _).setAt (b:=gl) rfl _ _).setAt (b:=gl) rfl _ _).drew).mono (S':=fun k=>(Value.slice (some ⟨gl,0,none⟩) lst.length lcap).ownBlock=some k) fun k _ h=>by cases h;rfl
      have HFIN:=A0b (HW6.out.setIn kc (l':=l0 ++ [(pa,pb,pc)]) (by unfold A1r;rw [hle];exact A0a G9 fun _ _=>rfl))
      have C9:=A0b (KX.out.trans (S':=fun k=>(Value.slice (some ⟨gl,0,none⟩) lst.length lcap).ownBlock=some k) kc fun y hy hlt=>absurd hlt (Nat.not_lt.2 (HW6.out.li (.slice (some ⟨gl,0,none⟩) lst.length lcap) (by simp) y hy)))
      have HLN:Hid ((l0 ++ [(pa,pb,pc)]).length≤i+1):=by rw [hle];exact Nat.le_succ_of_le HMAX.out
      clear G9 hset hle kc hks LS6 KAX f0 f1 f2
      go_wp2
      go_roundw
      case rel=>
       exact ⟨i+1,ws0 ++ [l0 ++ [(pa,pb,pc)]],vs0 ++ [.slice (some ⟨gl,0,none⟩) lst.length lcap],by go_num,hi1,HFIN.out,C9.out,(by rw [List.length_append];exact HWL.out),(fun x hx=>(List.mem_append.1 hx).elim (fun hx=>Nat.le_succ_of_le (I4.out x (List.mem_append.2 (.inl hx)))) (fun hx=>by rw [List.mem_singleton.1 hx];exact HLN.out)),fun _=>⟨ws0,_,rfl,by simp⟩,FINR.out⟩
      case measure=>simp [intOf];omega
     case neg=>
      have hcb:(cc == 0)=false:=by simpa using hcz
      have HPUT:=A0b (HST.out.trans (HPN.out hcz))
      clear hcz HPE HPN HST
      obtain ⟨la,hla⟩:∃ la:Option Addr,la=some ⟨gl,0,none⟩:=⟨_,rfl⟩
      have HW:Hid (WnB wX w2.heap.size (.slice (some ⟨g0,0,none⟩) (ws0.length+1) cp6) (vs0 ++ [.slice la lst.length lcap]) (ws0 ++ [lst])):=by subst hla;exact HW6.out
      have HIN:Hid (∀ x∈ws0 ++ [lst],x.length≤i):=I4.out
      have HLL:Hid (lst.length≤i):=HMAX.out
      have HPKN:Hid (¬ (Value.slice la lst.length lcap).ownBlock=some pk):=fun h=>by
       rw [hla] at h;cases h;exact HGL.out rfl
      clear hla LS6 HW6
      (refine A0d (v:=?_) rfl (by rfl) ?_ ?_;rotate_left;(· (intro w' hS;(try dsimp only at hS);go_simp;try with_reducible rfl));(try simp only [Act.put,List.setIfInBounds_toArray,List.set_cons_zero,List.set_cons_succ,List.getElem_toArray,List.getElem_cons_zero,List.getElem_cons_succ]))
      refine A0k ?_
      simp only [List.drop_succ_cons,List.drop_zero]
      have OCX:Hid (wX.cell? ⟨g0,ws0.length,none⟩=some (.slice la lst.length lcap)):=by
       have hln:vs0.length=ws0.length:=by have:=HW.out.len;simpa using this
       rw [← hln]
       exact A0j HW.out.row rfl (by rw [List.getElem?_append_right (Nat.le_refl _)];simp)
      have oc:=OCX.out
      have LS:Hid (A1r wX (.slice la lst.length lcap) lst):=by
       have hln:vs0.length=ws0.length:=by have:=HW.out.len;simpa using this
       have h1:=HW.out.ls vs0.length (by simp) (by simp;omega)
       have e1:(vs0 ++ [Value.slice la lst.length lcap])[vs0.length]'(by simp)=.slice la lst.length lcap:=by simp
       have e2:(ws0 ++ [lst])[vs0.length]'(by simp;omega)=lst:=by rw [List.getElem_append_right (by omega)];simp [hln]
       rw [e1,e2] at h1
       exact h1
      obtain ⟨la',lcap',eLA,la1,la2,-⟩:=A0g LS.out
      cases eLA
      unfold maxLen at la2
      have f0:=PBX.out.drew.c0
      have f1:=PBX.out.drew.c1
      have f2:=PBX.out.drew.c2
      have ocd:wX.drew.cell? ⟨g0,ws0.length,none⟩=some (.slice la lst.length lcap):=oc
      go_wp2
      refine A0e (fun w'=>w'.cell? ⟨g0,ws0.length,none⟩=some (.slice la lst.length lcap)∧w'.cell? ⟨pk,0,none⟩=some (.int .i64 pa)∧w'.cell? ⟨pk,1,none⟩=some (.int .i64 pb)∧w'.cell? ⟨pk,2,none⟩=some (.int .i64 pc)) 7
       [(0,true),(1,true),(2,true),(3,true),(4,true),(5,false),(6,false)] (by kernel_rfl) (by kernel_rfl) (fun _ _ _ _ _ h=>h) ⟨ocd,f0,f1,f2⟩ ?_
      iterate 5 (refine A0d (v:=?_) rfl (by rfl) ?_ ?_;rotate_left;(· (intro w' hS;(try dsimp only at hS);go_simp;try with_reducible rfl));(try simp only [Act.put,List.setIfInBounds_toArray,List.set_cons_zero,List.set_cons_succ,List.getElem_toArray,List.getElem_cons_zero,List.getElem_cons_succ]))
      refine A0i rfl (by rfl) (fun K hK=>?_)
      go_simp
      have ka:Chg (fun _=>False) wX (wX.alloc (.cells #[.int .i64 pa,.int .i64 pb,.int .i64 pc] 113)).drew:=((Chg.refl _ _).alloc _).drew
      have PB7:=PBX.out.keep ka (fun h=>h)
      have LS7:Hid (A1r (wX.alloc (.cells #[.int .i64 pa,.int .i64 pb,.int .i64 pc] 113)).drew (.slice la lst.length lcap) lst):=A0a LS.out fun g hg=>ka.block g (A0c LS.out hg) (fun h=>h)
      have HW7:=A0b (HW.out.keep0 ka)
      have HSRC:Hid (Src Tryz.prog 3 97 (.slice (some ⟨wX.heap.size,0,none⟩) 1 1) 1 #[.int .i64 pa,.int .i64 pb,.int .i64 pc].toList (wX.alloc (.cells #[.int .i64 pa,.int .i64 pb,.int .i64 pc] 113)).drew):=by
       have hb:(wX.alloc (.cells #[.int .i64 pa,.int .i64 pb,.int .i64 pc] 113)).drew.heap[wX.heap.size]?=some (.cells #[.int .i64 pa,.int .i64 pb,.int .i64 pc] 113 (0,0)):=heap_alloc_new wX _
       exact Src.ofBlock Tryz.underlying97 hb 1 1 rfl (A0G [(pa,pb,pc)])
      refine hK _ _ ⟨ka.cellKeep oc,PB7.c0,PB7.c1,PB7.c2⟩ (fun hS=>?_)
      have PB7h:=A0b PB7
      have KA:=A0b ka
      clear hK K hS PB7 ka oc f0 f1 f2 ocd
      (try simp only [Act.put,List.setIfInBounds_toArray,List.set_cons_zero,List.set_cons_succ,List.getElem_toArray,List.getElem_cons_zero,List.getElem_cons_succ])
      refine A0i rfl (by rfl) (fun K hK=>?_)
      refine A3q (.tmp 78) (.tmp 80) 97 97 rfl 113 j0 _ 3 24 Tryz.underlying97 hj hy0 hy1 hy2 rfl (by decide) (.slice la lst.length lcap) lst.length (A0x lst) (by rfl) LS7.out _ 1 _ (by rfl) HSRC.out (HBY.out _ HLL.out) ?_
      intro a8 cap8 w8 hA
      have hA2:=hA.chg (S:=fun k=>(Value.slice la lst.length lcap).ownBlock=some k) fun _ h=>h
      have hlv8:A1r w8 (.slice a8 (lst.length+1) cap8) (lst ++ [(pa,pb,pc)]):=by
       have e:(lst ++ [(pa,pb,pc)]).length=lst.length+1:=by simp
       unfold A1r
       rw [A0Y,e]
       exact hA.own
      have ho8:∀ g,(Value.slice a8 (lst.length+1) cap8).ownBlock=some g→(Value.slice la lst.length lcap).ownBlock=some g∨(wX.alloc (.cells #[.int .i64 pa,.int .i64 pb,.int .i64 pc] 113)).drew.heap.size≤g:=fun g hg=>by
       rcases hA.at_ with h | h
       ·rw [h] at hg;exact .inl hg
       ·rw [h] at hg;cases hg;exact .inr (Nat.le_refl _)
      have hB8:w2.heap.size≤(wX.alloc (.cells #[.int .i64 pa,.int .i64 pb,.int .i64 pc] 113)).drew.heap.size:=Nat.le_trans KX.out.size KA.out.size
      have hln8:vs0.length=ws0.length:=by have:=HW.out.len;simpa using this
      have HFIN:=HW7.out.setOut hA2 hlv8 ho8 hB8
      rw [hln8] at HFIN
      have HFIN:=A0b HFIN
      have hlvin:Value.slice la lst.length lcap∈vs0 ++ [Value.slice la lst.length lcap]:=by simp
      have PB8:=PB7h.out.keep hA2 HPKN.out
      have hoc8:w8.cell? ⟨g0,ws0.length,none⟩=some (.slice la lst.length lcap):=hA2.cellKeepS (KA.out.cellKeep OCX.out) (fun h=>HW7.out.ne hlvin h rfl)
      have hofz8:w8.frozen? ⟨g0,ws0.length,none⟩=false:=by
       have hb:=hA2.block g0 (A0c HW7.out.row rfl) (fun h=>HW7.out.ne hlvin h rfl)
       have:=A0t HW7.out.row (g:=g0) rfl ws0.length
       unfold World.frozen? at this ⊢
       rw [hb];exact this
      refine hK _ _ ⟨hoc8,PB8.c0,PB8.c1,PB8.c2⟩ (fun hS=>?_)
      have C8:Hid (Chg (fun _=>False) w2 (w8.setCell ⟨g0,ws0.length,none⟩ (.slice a8 (lst.length+1) cap8))):=((KX.out.trans KA.out fun _ h _=>h).trans (S':=fun k=>(Value.slice la lst.length lcap).ownBlock=some k) hA2 fun y hy hlt=>by have:=HW7.out.li _ hlvin _ hy;omega).setCell (p:=⟨g0,ws0.length,none⟩) (fun h=>by have:=HW7.out.lo g0 rfl;have h':g0<w2.heap.size:=h;omega) _
      have FINR:=A0b (FINN.out _ HPUT.out)
      clear hK K hS hA hA2 hlv8 ho8 hB8 PB8 HSRC LS7 hln8 FINN HPUT
      (try simp only [Act.put,List.setIfInBounds_toArray,List.set_cons_zero,List.set_cons_succ,List.getElem_toArray,List.getElem_cons_zero,List.getElem_cons_succ])
      refine A0k ?_
      simp only [List.drop_succ_cons,List.drop_zero]
      go_wp2
      go_roundw
      case rel=>
       exact ⟨i+1,ws0 ++ [lst ++ [(pa,pb,pc)]],vs0 ++ [.slice a8 (lst.length+1) cap8],by go_num,hi1,HFIN.out,C8.out,(by rw [List.length_append];exact HWL.out),(fun x hx=>(List.mem_append.1 hx).elim (fun hx=>Nat.le_succ_of_le (HIN.out x (List.mem_append.2 (.inl hx)))) (fun hx=>by rw [List.mem_singleton.1 hx,List.length_append];exact Nat.succ_le_succ HLL.out)),fun _=>⟨ws0,_,rfl,by simp⟩,FINR.out⟩
      case measure=>simp [intOf];omega
end
end Go.Proofs.YtodcnkbblippnaaGreatDoor
