/- Part 1 of a proof: walks of the program. -/
import Derived.Below
import Derived.Calls
import Derived.ChangeArms
import Derived.Conc.MuLone
import Derived.Deep.AppendSrc
import Derived.Deep.RegionHeld
import Derived.Defers
import Derived.FnData
import Derived.Laws.Append
import Derived.Laws.AppendOwn
import Derived.Laws.BitsLemmas
import Derived.Laws.Entries
import Derived.Laws.Externs
import Derived.Laws.IdiomStrings
import Derived.Laws.Rows
import Derived.Laws.Tables
import Derived.Laws.World
import Derived.Lib.Builder
import Derived.Lib.ItoaNum
import Derived.Lib.Strings
import Derived.LoopN
import Derived.OneCell
import Derived.Orders
import Derived.OwnWalk
import Derived.Still
import Derived.StillTail
import Derived.Tactics
import Derived.WideShapes
import Derived.Test.YtodcnkbblippnaaGreatDoorRows
import Derived.WalkKit
import Derived.WalkSpells
import Derived.WalkLawsBesides
import Derived.Deep.AppendLies
import Derived.RegionTactic
import Derived.Deep.RegionHeld3
import Derived.Deep.DrawnRows
import Derived.OrdersHeld
import Derived.Lib.AppendZeros
import Derived.Lib.Overlaps
import Derived.Lib.SliceRun
import Derived.Deep.LoopGhost
namespace Go.Proofs.YtodcnkbblippnaaGreatDoor
set_option maxRecDepth 100000
set_option maxHeartbeats 32000000
set_option linter.defProp false
open Go.Proofs.Tryz
section
open Go.RowKit
abbrev gx:=World
abbrev gy:=Value
abbrev gC:=ByteArray
abbrev gD:=List
def Af:=@if_neg
def Ai:=@if_pos
def Ao:=@Nat.le_refl
def AP:=@Nat.le_trans
def AX:=@List.mem_append
def B3:=@List.length_append
def Bl:=@Go.heap_alloc_new
def Bn:=@Nat.lt_of_lt_of_le
def By:=@Go.lt_of_block
def BC:=@List.mem_cons_of_mem
def BI:=@List.mem_cons_self
def BK:=@List.length_take
def BS:=@List.mem_cons
def BV:=@List.getElem_mem
def C5:=@List.take_length
def Cd:=@if_false
def Ch:=@Nat.zero_le
def Ci:=@List.append_assoc
def Cl:=@List.mem_map
def Co:=@Go.World.ownsRow_nil
def Cq:=@if_true
def Cu:=@decide_eq_true
def Cv:=@decide_eq_false
def Cz:=@List.length_drop
def CA:=@List.length_cons
def CY:=@Go.RowKit.Below.heap_alloc
def Dk:=@List.pairwise_cons
def Dl:=@List.drop_zero
def Dq:=@List.take_succ_eq_append_getElem
def Dz:=@List.getElem?_eq_getElem
def DG:=@List.getElem_of_mem
def DH:=@List.drop_succ_cons
def DL:=@Go.info_parts
def DO:=@Go.World.cell?_of_block
def E2:=@decide_eq_true_eq
def E4:=@List.take_append_drop
def Ed:=@List.mem_map_of_mem
def El:=@List.take_of_length_le
def Ep:=@congrArg
def EF:=@List.pairwise_append
def EG:=@List.map_append
def ER:=@Nat.le_succ
def ES:=@Int.toNat_natCast
def F9:=@Nat.lt_or_ge
def Fa:=@List.nil_append
def Fj:=@Go.Proofs.Tryz.underlying92
def Fm:=@Nat.le_of_lt
def Fp:=@List.take_zero
def Fq:=@List.length_map
def Fs:=@List.getElem_append_left
def Fu:=@List.filter_cons
def Fv:=@Int.ofNat_lt
def Fw:=@Go.RowKit.Below.heap_setCell
def Fz:=@Go.rounds_succ
def FJ:=@List.take_succ_cons
def FK:=@List.drop_eq_getElem_cons
def G1:=@List.mem_append_left
def G2:=@List.cons_append
def G3:=@Bool.and_eq_true
def Gd:=@List.getElem_append_right
def Gs:=@Nat.lt_irrefl
def Gt:=@List.append_nil
def Gu:=@Int.natCast_nonneg
def GN:=@Go.World.cell?_setCell_other
def GO:=@Go.World.block_lt_of_cell?
def GP:=@Go.Proofs.Tryz.underlying97
def GQ:=@Go.Proofs.Tryz.underlying9
def GV:=@List.mem_filter
def GW:=@List.map_cons
def GX:=@List.drop_length
def Ha:=@Nat.zero_add
def Hb:=@List.nodup_append
def Hk:=@Go.Proofs.Tryz.underlying26
def Hl:=@Go.Proofs.Tryz.underlying127
def Hn:=@List.take_append_of_le_length
def Ho:=@List.mem_of_mem_take
def Hp:=@List.length_eq_zero_iff
def Hq:=@List.filter_sublist
def HH:=@Go.Proofs.Tryz.underlying121
def HJ:=@List.mem_append_right
def HK:=@List.length_set
def HL:=@List.getD_eq_getElem?_getD
def HM:=@List.cons.inj
def HX:=@beq_eq_false_iff_ne
def HZ:=@Go.Proofs.Tryz.underlying3
def I4:=@Nat.mul_le_mul_right
def I5:=@Nat.add_mul
def I6:=@List.getElem?_eq_some_iff
def I7:=@List.getElem?_append_right
def Ie:=@Go.MuLone.unlock_deferred
def Ih:=@Go.MuLone.lock_free
def Ii:=@Go.leaves_cons
def Io:=@and_true
def Iq:=@Option.map_some
def Is:=@List.getElem?_drop
def It:=@List.drop_of_length_le
def Iv:=@Int.le_refl
def IA:=@Go.wp_loop_rounds
def IE:=@Go.run_underlying
def IM:=@Go.mem_ready
def J4:=@Go.Src.ofSlice
def J6:=@Nat.le_of_not_lt
def J7:=@List.set_append_right
def J8:=@List.mem_singleton
def J9:=@List.length_pos_iff
def Ja:=@List.length_nil
def Jb:=@List.getElem?_append_left
def Jc:=@List.filter_cons_of_pos
def Jd:=@Go.DataW.trod_int
def Je:=@Array.getElem?_push_size
def Jk:=@Go.results_none
def JK:=@Go.bodyPost_ret
def JN:=@Nat.min_eq_left
def JO:=@Nat.le_succ_of_le
def JP:=@List.take_left
def JQ:=@List.pairwise_iff_getElem
def JR:=@List.nodup_cons
def JS:=@List.flatten_cons
def JT:=@List.cons_lt_cons_iff
def JV:=@Go.IntKind.wrap_i64
def JW:=@Int.add_sub_cancel
def K6:=@Go.setRow_other
def Kb:=@Go.results_tmp
def Ki:=@of_decide_eq_true
def Kk:=@ne_eq
def Kr:=@Go.getD_replicate_false
def KB:=@Nat.pow_succ
def KC:=@Nat.not_lt_zero
def KE:=@Nat.add_lt_add_left
def KF:=@List.take_take
def KG:=@List.pairwise_map
def KH:=@List.mem_range
def KI:=@List.mem_of_mem_drop
def KJ:=@List.mem_flatten
def KK:=@List.length_filter_le
def KL:=@List.getLastD_eq_getLast?
def KM:=@List.getElem_cons_zero
def KN:=@List.filter_cons_of_neg
def KO:=@List.filter_append
def KP:=@Go.Lib.toList_data
def KU:=@Go.wp_region_still_tail
def KV:=@Go.wpStill_nil
def KW:=@Go.wpOp_mono
def L4:=@Go.setRow_heap
def L9:=@Go.ready_mono
def LB:=@decide_eq_decide
def LM:=@Go.World.drew_eq
def LS:=@Nat.mul_comm
def LU:=@Nat.le_antisymm
def LV:=@Nat.add_le_add_left
def LX:=@Nat.add_assoc
def LY:=@List.size_toArray
def LZ:=@List.mem_of_getElem?
def M0:=@List.mem_filterMap
def M1:=@List.lt_irrefl
def M4:=@List.getElem?_eq_none
def M6:=@List.flatMap_cons
def M7:=@List.eq_nil_or_concat
def M8:=@List.drop_append_of_le_length
def M9:=@List.drop_append
def Ma:=@List.any_eq_true
def Mc:=@Int.lt_or_le
def Md:=@Int.le_trans
def Me:=@Int.eq_ofNat_of_zero_le
def Mf:=@Array.length_toList
def Mn:=@Go.tail_waits
def MW:=@Go.getD_set_ne
def N1:=@eq_false
def Nn:=@Go.World.size_alloc
def No:=@Go.World.cell?_alloc_some
def Np:=@Go.Proofs.Tryz.underlying5
def Nq:=@Go.Proofs.Tryz.underlying37
def Ns:=@Go.Src.ofString
def Nv:=@Nat.zero_lt_one
def Nw:=@Nat.succ_mul
def Nx:=@Nat.sub_self
def Ny:=@Nat.lt_of_lt_of_eq
def NA:=@List.pairwise_singleton
def NB:=@List.map_congr_left
def NC:=@List.getElem_cons_succ
def ND:=@List.getElem?_take
def NF:=@List.foldl_append
def NG:=@List.flatMap_def
def NH:=@List.eq_nil_of_length_eq_zero
def NI:=@List.drop_eq_nil_of_le
def NJ:=@List.dropLast_concat_getLast
def NK:=@List.all_eq_true
def NM:=@Int.zero_add
def NN:=@Int.lt_irrefl
def NO:=@Int.emod_nonneg
def NP:=@Bool.true_and
def NQ:=@Bool.eq_iff_iff
def NR:=@Go.RowKit.Below.refl
def NT:=@Array.getElem?_eq_none
def Oi:=@Go.run_convert_bytes_back
def OH:=@Go.ownsRow_setCell_other
def OQ:=@not_false_eq_true
def PM:=@dif_pos
def PN:=@dif_neg
def PO:=@decide_true
def Qa:=@Prod.mk.inj
def Qb:=@Option.some.inj
def Qc:=@Option.ne_none_iff_exists'
def Qd:=@Ne.symm
def Qe:=@Nat.succ_le_succ
def Qf:=@Nat.mul_one
def Qg:=@Nat.mul_assoc
def Qh:=@Nat.lt_trichotomy
def Qi:=@Nat.lt_of_le_of_lt
def Qj:=@Nat.le_of_lt_succ
def Qk:=@Nat.add_zero
def Ql:=@List.takeWhile_cons
def Qm:=@List.sum_cons
def Qn:=@List.set_cons_succ
def Qo:=@List.length_mergeSort
def Qp:=@List.getElem_take
def Qq:=@List.getElem?_map
def Qr:=@List.foldl_cons
def Qs:=@Go.Lib.nDigits_small
def Qt:=@Go.Lib.cell_of_heap
def Qw:=@Int.toNat_of_nonneg
def Qx:=@Int.tmod_lt_of_pos
def Qy:=@Int.ofNat_le
def Qz:=@Int.not_lt
def QA:=@Int.neg_tmod
def QB:=@Iff.rfl
def QC:=@Decidable.em
def QD:=@Decidable.byContradiction
def QE:=@Bool.false_eq_true
def QH:=@Array.toList_append
def QJ:=@Array.getElem?_eq_some_iff
def QM:=@Go.wp_region_any
def QN:=@Go.wpAny_of_seq
def RE:=@Go.seqB_ready
def RM:=@Go.run_firstCells_some
def Tr:=@ne_of_beq_false
def Vb:=@Go.bodyPost_end
def Vd:=@beq_self_eq_true
def VC:=@Go.World.var?_cell
def VD:=@Go.Region.noSelect_spec
def VE:=@Go.Region.free_spec
def VG:=@Option.or_none
def VH:=@Go.Oper.upon_value
def VK:=@Nat.xor_lt_two_pow
def VL:=@Nat.one_mul
def VM:=@Nat.not_lt
def VN:=@Nat.mul_le_mul
def VO:=@Nat.min_def
def VP:=@Nat.lt_succ_self
def VQ:=@Nat.le_add_right
def VR:=@List.sublist_flatten_of_mem
def VS:=@List.set_cons_zero
def VT:=@List.replicate_succ
def VU:=@List.pairwise_mergeSort
def VV:=@List.not_mem_nil
def VW:=@List.mem_erase_of_ne
def VX:=@List.map_map
def VY:=@List.length_singleton
def VZ:=@List.length_dropLast
def W0:=@List.flatten_append
def W2:=@List.flatMap_append
def W5:=@List.filter_filter
def W6:=@List.filter_eq_nil_iff
def W8:=@List.drop_left'
def W9:=@List.drop_left
def Wa:=@List.dropLast_subset
def Wb:=@List.concat_eq_append
def Wc:=@List.append_cancel_left
def We:=@List.any_append
def Wf:=@List.Nodup.sublist
def Wg:=@Go.Lib.nDigits_big
def Wh:=@Go.Lib.decDigits_length
def Wi:=@Int.ne_of_lt
def Wj:=@Int.mul_sub
def Wk:=@Int.mul_le_mul_of_nonneg_left
def Wl:=@Int.emod_lt_of_pos
def Wo:=@Bool.false_and
def Wp:=@Array.setIfInBounds_comm
def Wq:=@Array.getElem?_setIfInBounds_ne
def Ys:=@Go.run_callFunc_extern
def A2g:=@decide_eq_false_iff_not
def A4h:=@Go.World.cell?_setCell_far
def A4i:=@Go.WideShapes.bytes_inj
def A4j:=@Option.map_eq_some_iff
def A4l:=@Nat.lt_succ_of_lt
def A4m:=@Nat.lt_of_succ_lt_succ
def A4n:=@Nat.le_of_succ_le
def A4o:=@Nat.eq_zero_or_pos
def A4p:=@Nat.div_le_div_right
def A4q:=@Nat.add_sub_cancel_left
def A4r:=@Nat.add_sub_cancel
def A4s:=@List.set_eq_take_append_cons_drop
def A4t:=@List.setIfInBounds_toArray
def A4u:=@List.mergeSort_perm
def A4v:=@List.mergeSort_nil
def A4w:=@List.mem_of_find?_eq_some
def A4x:=@List.mem_mergeSort
def A4y:=@List.mem_iff_getElem
def A4z:=@List.map_mergeSort
def A4A:=@List.length_range
def A4B:=@List.length_pos_of_mem
def A4C:=@List.length_erase_of_mem
def A4D:=@List.length_eq_one_iff
def A4E:=@List.getLast?_eq_some_getLast
def A4F:=@List.getElem_set_ne
def A4G:=@List.getElem?_cons_succ
def A4H:=@List.find?_append
def A4I:=@List.exists_mem_of_ne_nil
def A4J:=@List.Sublist.refl
def A4K:=@List.Pairwise.sublist
def A4L:=@List.Pairwise.imp_of_mem
def A4N:=@Int.tmod_eq_emod_of_nonneg
def A4O:=@Int.mul_tdiv_add_tmod
def A4P:=@Int.lt_or_eq_of_le
def A4Q:=@Int.ediv_emod_unique
def A4R:=@Classical.byContradiction
def A4S:=@ByteArray.data_extract
def A4T:=@Array.getElem?_eq_getElem
def A4U:=@Array.ext_getElem?
def A4V:=@Array.all_eq_true_iff_forall_mem
abbrev A5(b:Nat):Value:=.pointer (some ⟨b,0,none⟩)
abbrev A9(b o:Nat):Addr:=⟨b,o,none⟩
abbrev A8(w:gx)(b o:Nat)(v:gy):Prop:=w.cell? ⟨b,o,none⟩=some v
abbrev A0(n:Int):Value:=.int .i64 n
abbrev AA(b n c:Nat):Value:=.slice (some ⟨b,0,none⟩) n c
abbrev Aa:Nat->Prop:=λ_=>False
abbrev Ag:=Calls Tryz.prog
abbrev Aj(v:gy)(Q:gx->Prop)(e:Ending)(w:gx):Prop:=e=.returned v/\Q w
abbrev _root_.Go.World.aC(w:gx)(x:Array gy)(t:TypeId):World:=w.alloc (.cells x t)
abbrev _root_.Go.World.sC(w:gx)(b o:Nat)(v:gy):World:=w.setCell ⟨b,o,none⟩ v
abbrev _root_.Go.Value.oB(v:gy)(b:Nat):Prop:=v.ownBlock=some b
def _root_.Go.RowKit.Hid.o{p:Prop}(h:Hid p):p:=h
def _root_.Go.RowKit.Hid.m{P:Program}{f:FuncId}{a:Array gy}{w:gx}{R Q:Ending->gx->Prop}(h:Hid (Calls P f a w R))(k:∀e w',R e w'->Q e w'):Calls P f a w Q:=Calls.mono h k
def _root_.Go.Calls.k{P:Program}{f:FuncId}{a:Array gy}{w:gx}{v:Ending}{R:gx->Prop}{Q:Ending->gx->Prop}(h:Calls P f a w λe w'=>e=v/\R w')(H:∀w',R w'->Q v w'):Calls P f a w Q:=h.mono λe w' ⟨d,z⟩=>by subst d;exact H w' z
def _root_.Go.RowKit.Hid.k{P:Program}{f:FuncId}{a:Array gy}{w:gx}{v:Ending}{R:gx->Prop}{Q:Ending->gx->Prop}(h:Hid (Calls P f a w λe w'=>e=v/\R w'))(H:∀w',R w'->Q v w'):Calls P f a w Q:=Calls.k h H
def Eo{x:Int}(h : -9223372036854775808<=x/\x<=9223372036854775807):IntKind.i64.wrap x=x:=by simp[IntKind.wrap,IntKind.bits,IntKind.signed];omega
def BJ(k:Nat):(0:Int)<=(k:Int):=Gu _
def D7{w:gx}{b o:Nat}{x:Array gy}{t:TypeId}{f:Nat×Nat}{v:gy}(h:w.heap[b]?=some (.cells x t f))(k:x[o]?=some v:=by rfl):A8 w b o v:=by
 show w.cell? ⟨b,o,none⟩=some v;simp only[World.cell?,h];exact k
def Ba:gD Nat->gD Nat->gD (Nat×Bool)
 | [],_=>[]
 | i::r,x=>(i,!x.elem i):: Ba r x
def BO:(∀(a:Act) (v:gy) (d:Tmp),a.put (some d) v=⟨a.tmps.setIfInBounds d v,a.defers⟩)/\(∀(a:Act) (v:gy),a.put none v=a)/\(∀ {α:Type} {l:gD α} {i:Nat} {a:α},l.toArray.setIfInBounds i a=(l.set i a).toArray)/\(∀ {α:Type} {x a:α} {xs:gD α},(x::xs).set 0 a=a::xs)/\
 (∀ {α:Type} {x a:α} {xs:gD α} {n:Nat},(x::xs).set (n+1) a=x::xs.set n a)/\(∀ {α:Type} {l:gD α} {i:Nat} (h:i<l.toArray.size),l.toArray[i]=l[i]'(by simpa using h))/\(∀ {α:Type} {a:α} {l:gD α} (h:0<(a::l).length),(a::l)[0]=a)/\
 (∀ {α:Type} {a:α} {l:gD α} {i:Nat} (h:i+1<(a::l).length),(a::l)[i+1]=l[i]'(A4m h)):=
 ⟨λ_ _ _=>rfl,λ_ _=>rfl,A4t _ _ _,rfl,rfl,λ_=>rfl,λ_=>rfl,λ_=>rfl⟩
structure A4 (S:Nat->Prop) (w w':gx):Prop where
 os:w'.os=w.os
 DU:w'.tape=w.tape
 DW:w'.output=w.output
 Ak:w.heap.size<=w'.heap.size
 Al:∀k,k<w.heap.size->¬S k->w'.heap[k]?=w.heap[k]?
def A4.C(S:Nat->Prop)(w:gx):A4 S w w:=⟨rfl,rfl,rfl,Ao _,λ_ _ _=>rfl⟩
def A4.AH{S S':Nat->Prop}{a b c:gx}(h:A4 S a b)(k:A4 S' b c)(E:∀x,S' x->x<a.heap.size->S x):A4 S a c:=
 ⟨k.os.trans h.os,k.DU.trans h.DU,k.DW.trans h.DW,AP h.Ak k.Ak,λi d z=>
  (k.Al i (Bn d h.Ak) (λI=>z (E i I d))).trans (h.Al i d z)⟩
def A4.ai{S S':Nat->Prop}{a b:gx}(h:A4 S a b)(z:∀x,x<a.heap.size->S x->S' x):A4 S' a b:=
 ⟨h.os,h.DU,h.DW,h.Ak,λk d I=>h.Al k d (λE=>I (z k d E))⟩
def A4.aT{S:Nat->Prop}{a b:gx}(h:A4 Aa a b):A4 S a b:=h.ai λ_ _ h=>h.elim
def A4.bl{S:Nat->Prop}{a b c:gx}(h:A4 S a b)(k:A4 Aa b c):A4 S a c:=h.AH k λ_ h _=>h.elim
def A4.aa{S:Nat->Prop}{a w:gx}(h:A4 S a w):A4 S a w.drew:=⟨h.os,h.DU,h.DW,h.Ak,h.Al⟩
def A4.a7{S:Nat->Prop}{a w:gx}(h:A4 S a w)(n:Nat):A4 S a (w.drewN n):=⟨h.os,h.DU,h.DW,h.Ak,h.Al⟩
def A4.aj{S:Nat->Prop}{a w:gx}(h:A4 S a w)(o:Obj):A4 S a (w.alloc o):=
 ⟨h.os,h.DU,h.DW,by have:=h.Ak;simp;omega,λk d z=>(CY _ _ _ (Bn d h.Ak)).trans (h.Al k d z)⟩
def A4.tr{S:Nat->Prop}{a b c:gx}(h:A4 S a b)(k:A4 S b c):A4 S a c:=h.AH k λ_ h _=>h
def A4.aC{S:Nat->Prop}{a w:gx}(h:A4 S a w)(x:Array gy)(t:TypeId):A4 S a (w.alloc (.cells x t)):=h.aj _
def A4.bh{S:Nat->Prop}{a w:gx}(h:A4 S a w){p:Addr}(E:p.block<a.heap.size->S p.block)(u:gy):A4 S a (w.setCell p u):=
 ⟨h.os,h.DU,h.DW,by simpa using h.Ak,λk d z=>(Fw _ _ _ _ (λe=>by subst e;exact z (E d))).trans (h.Al k d z)⟩
def A4.C7{S:Nat->Prop}{a w w':gx}{row:Option Nat}(h:A4 S a w)(d:w.grownBy w' row)(I:∀k,row=some k->k<a.heap.size->S k):A4 S a w':=
 ⟨d.os.trans h.os,d.tape.trans h.DU,d.output.trans h.DW,AP h.Ak d.size,λk z E=>
  (d.block k (Bn z h.Ak) (λe=>E (I k e.symm z))).trans (h.Al k z E)⟩
def A4.ee{S:Nat->Prop}{a b:gx}{B:Nat}(h:A4 S a b)(z:B<=a.heap.size)(E:∀k,k<B->¬S k):Below B a b:=
 ⟨h.os,h.DU,h.DW,h.Ak,λk d=>h.Al k (Bn d z) (E k d)⟩
def A4.al{S:Nat->Prop}{a b:gx}(h:A4 S a b){k:Nat}{o:Obj}(d:a.heap[k]?=some o)(z:¬S k):b.heap[k]?=some o:=
 (h.Al k (By d) z).trans d
def One(b:Nat):Nat->Prop:=λk=>k=b
def A4.ao{S:Nat->Prop}{a w:gx}(h:A4 S a w){b:Nat}(d:S b)(o:Nat)(u:gy):A4 S a (w.setCell (A9 b o) u):=h.bh (p:=(A9 b o)) (λ_=>d) u
def A1{p:Prop}(h:p):Hid p:=h
def Gr(S:Nat->Prop)(w w':gx):Prop:=∀k,S k->w'.heap[k]?=w.heap[k]?
def Gr.ai{S S':Nat->Prop}{w w':gx}(h:Gr S w w')(z:∀k,S' k->S k):Gr S' w w':=λk d=>h k (z k d)
def A4.aw{S T:Nat->Prop}{w w':gx}(h:A4 S w w')(E:∀k,T k->k<w.heap.size)(z:∀k,T k->¬S k):Gr T w w':=λk d=>h.Al k (E k d) (z k d)
def Au{w w':gx}{d e size n:Nat}{v:gy}{xs:gD gy}(h:w.ownsRow d e size v n xs)(O:∀g,v.ownBlock=some g->w'.heap[g]?=w.heap[g]?):w'.ownsRow d e size v n xs:=by
 refine⟨h.1,?_⟩;rcases h.2 with E|⟨g,cap,z,rfl,L,I,r⟩
 ·exact .inl E
 ·exact .inr ⟨g,cap,z,rfl,L,by rw[O g rfl];exact I,r⟩
def Aw{w:gx}{d e size n:Nat}{v:gy}{xs:gD gy}(h:w.ownsRow d e size v n xs){g:Nat}(z:v.ownBlock=some g):g<w.heap.size:=(h.lt g z).2
def Bb{w:gx}{z e size n:Nat}{v:gy}{xs:gD gy}(h:w.ownsRow z e size v n xs){g:Nat}(E:v.ownBlock=some g):∃d,w.heap[g]?=some (.cells d e (0,0)):=by
 rcases h.2 with⟨rfl,_⟩|⟨g',cap,d,rfl,_,I,_⟩
 ·simp[Value.ownBlock]at E
 ·simp[Value.ownBlock]at E;subst E;exact⟨d,I⟩
def Bv{w:gx}{d e size n:Nat}{v:gy}{xs:gD gy}(h:w.ownsRow d e size v n xs){g:Nat}(z:v.ownBlock=some g){j:Nat}{u:gy}(hu:xs[j]?=some u):A8 w g j u:=by
 have:=h.cells z j u hu;unfold Addr.add at this;split at this
 ·rename_i E;rw[E];exact this
 ·simpa using this
def EK{w:gx}{d e size n:Nat}{v:gy}{xs:gD gy}(h:w.ownsRow d e size v n xs){g:Nat}(z:v.ownBlock=some g)(j:Nat):w.frozen? (A9 g j)=false:=by
 have⟨cur,hh⟩:=Bb h z;simp[World.frozen?,hh]
def B8{w:gx}{d e size n:Nat}{v:gy}{xs:gD gy}(h:w.ownsRow d e size v n xs):
 ∃a cap,v=.slice a n cap/\n<=cap/\cap<=maxLen/\(0<n->∃g,a=some (A9 g 0))/\(a=none->n=0/\cap=0)/\(∀x,a=some x->∃g,x=(A9 g 0)):=by
 rcases h.2 with⟨rfl,I⟩|⟨g,cap,cur,rfl,_,hg,z,L,hs,_⟩
 ·exact⟨none,0,by rw[I],by omega,by decide,by omega,λ_=>⟨I,rfl⟩,λx E=>by cases E⟩
 ·exact⟨_,cap,rfl,z,L,λ_=>⟨g,rfl⟩,by simp,λx E=>⟨g,by cases E;rfl⟩⟩
def OI{w:gx}{d e size n cap:Nat}{a:Option Addr}{xs:gD gy}(h:w.ownsRow d e size (.slice a n cap) n xs){m:Nat}(hm:m<=n):w.ownsRow d e size (.slice a m cap) m (xs.take (m*size)):=by
 have L:m*size<=n*size:=I4 _ hm;refine⟨by rw[BK,h.1];omega,?_⟩;rcases h.2 with⟨z,O⟩|⟨g,cap',I,z,X,Y,hcap,E,hs,W⟩
 ·subst O;cases z;obtain rfl:m=0:=by omega
  exact .inl ⟨rfl,rfl⟩
 ·cases z;exact .inr ⟨g,cap,I,rfl,X,Y,by omega,E,hs,by rw[<-W,KF,JN L]⟩
def Q2(a b:gC):(a.toList==b.toList)=true↔a=b:=by
 rw[beq_iff_eq,KP,KP];exact⟨λh=>A4i h,λh=>by rw[h]⟩
def V8(a b:gC):(a.toList==b.toList)=false↔a≠b:=by
 have:=Q2 a b;constructor
 ·intro h e;rw[this.2 e]at h;cases h
 ·intro h;cases hx:(a.toList==b.toList) with
  | false=>rfl
  | true=>exact absurd (this.1 hx) h
abbrev AO:=gC×Nat
def C8:gD AO->gD gy
 | []=>[]
 | (n,f):: r=>.string n::(A5 f):: C8 r
def A15(es:gD AO):(C8 es).length=es.length*2:=by
 induction es with
 | nil=>rfl
 | cons e r ih=>obtain⟨n,f⟩:=e;simp only[C8,CA,ih];omega
def LA(a b:gD AO):C8 (a++b)=C8 a++C8 b:=by
 induction a with
 | nil=>rfl
 | cons e r ih=>obtain⟨n,f⟩:=e;simp[C8,ih]
def A14(es:gD AO)(k:Nat):(C8 es).take (k*2)=C8 (es.take k):=by
 induction es generalizing k with
 | nil=>simp[C8]
 | cons e r ih=>
  obtain⟨n,f⟩:=e
  match k with
  | 0=>simp[C8]
  | k+1=>rw[show (k+1)*2=k*2+1+1 from by omega];simp[C8,ih]
def A16(es:gD AO)(k:Nat):(C8 es).drop (k*2)=C8 (es.drop k):=by
 induction es generalizing k with
 | nil=>simp[C8]
 | cons e r ih=>
  obtain⟨n,f⟩:=e
  match k with
  | 0=>simp[C8]
  | k+1=>rw[show (k+1)*2=k*2+1+1 from by omega];simp[C8,ih]
def PC(es:gD AO)(k:Nat)(h:k<es.length):(C8 es)[k*2]?=some (.string (es[k]'h).1):=by
 induction es generalizing k with
 | nil=>simp at h
 | cons e r ih=>
  obtain⟨n,f⟩:=e
  match k with
  | 0=>simp[C8]
  | k+1=>
   have:=ih k (by simpa using h);rw[show (k+1)*2=k*2+1+1 from by omega];simpa[C8] using this
def Pz(es:gD AO)(k:Nat)(h:k<es.length):(C8 es)[k*2+1]?=some (A5 ((es[k]'h).2)):=by
 induction es generalizing k with
 | nil=>simp at h
 | cons e r ih=>
  obtain⟨n,f⟩:=e
  match k with
  | 0=>simp[C8]
  | k+1=>
   have:=ih k (by simpa using h);rw[show (k+1)*2+1=k*2+1+1+1 from by omega];simpa[C8] using this
def PA(es:gD AO):∀u∈C8 es,u.oneCell'=true:=by
 induction es with
 | nil=>simp[C8]
 | cons e r ih=>
  obtain⟨n,f⟩:=e;intro u hu;simp only[C8,BS]at hu;rcases hu with rfl|rfl|hu
  ·rfl
  ·rfl
  ·exact ih u hu
def Dd(w:gx)(v:gy)(es:gD AO):Prop:=w.ownsRow 0 125 2 v es.length (C8 es)
def Dd.BW{w:gx}{v:gy}{es:gD AO}(h:Dd w v es):
 ∃a cap,v=.slice a es.length cap/\es.length<=cap/\cap<=maxLen/\∀k (d:k<es.length),∃g,a=some (A9 g 0)/\A8 w g (k*2) (.string (es[k]'d).1)/\A8 w g (k*2+1) (A5 ((es[k]'d).2)):=by
 rcases B8 h with⟨a,cap,rfl,E,z,I,_,_⟩;refine⟨a,cap,rfl,E,z,λk d=>?_⟩;obtain⟨g,rfl⟩:=I (by omega);exact⟨g,rfl,Bv h rfl (PC es k d),Bv h rfl (Pz es k d)⟩
def B9:gD AO->gC->Int
 | [],_=>-1
 | e::r,nd=>if e.1=nd then 0 else if B9 r nd<0 then -1 else B9 r nd+1
def A1Z(es:gD AO)(z:gC)(k:Nat)(E:k<es.length)(h:(es[k]'E).1=z)(d:∀m (L:m<k),(es[m]'(by omega)).1≠z):B9 es z=k:=by
 induction es generalizing k with
 | nil=>simp at E
 | cons e r ih=>
  match k with
  | 0=>simp only[KM]at h;simp[B9,h]
  | k+1=>
   have I:=d 0 (by omega);simp only[KM]at I;have:=ih k (by simpa using E) (by simpa using h) (λm L=>by simpa using d (m+1) (by omega));simp only[B9,I,Cd,this];rw[Af (by omega)];omega
def A1X(es:gD AO)(h:gC)(d:∀m (z:m<es.length),(es[m]'z).1≠h):B9 es h = -1:=by
 induction es with
 | nil=>rfl
 | cons e r ih=>
  have E:=d 0 (by simp);simp only[KM]at E;have:=ih (λm z=>by have:=d (m+1) (by simp;omega);simpa using this);simp[B9,E,this]
def UA(es:gD AO)(d:gC): -1<=B9 es d/\B9 es d<es.length:=by
 induction es with
 | nil=>simp[B9]
 | cons e r ih=>
  simp only[B9,CA];split
  ·omega
  ·split<;>omega
def Py(es:gD AO)(d:gC):(B9 es d = -1/\∀e∈es,e.1≠d)\/∃k,∃z:k<es.length,B9 es d=(k:Int)/\(es[k]'z).1=d:=by
 induction es with
 | nil=>exact .inl ⟨rfl,by simp⟩
 | cons e r ih=>
  by_cases h:e.1=d
  ·exact .inr ⟨0,by simp,by simp[B9,h],by simpa using h⟩
  ·rcases ih with⟨I,E⟩|⟨k,z,I,E⟩
   ·exact .inl ⟨by simp[B9,h,I],λx L=>by rcases BS.1 L with rfl|L;exact h;exact E x L⟩
   ·exact .inr ⟨k+1,by simpa using z,by simp only[B9,h,Cd,I];rw[Af (by omega)];omega,by simpa using E⟩
structure DN where
 Av:Int
 Bc:Int
 CW:Int
 E0:Int
 BG:Int
 Bk:Int
 fulls:Int
 Bh:Bool
def Hg(vd vs vc:gy)(n:DN):Array Value:=
 #[vd,vs,vc,A0 n.Av,A0 n.Bc,A0 n.CW,A0 n.E0,A0 n.BG,A0 n.Bk,A0 n.fulls,.bool n.Bh]
def AM(w:gx)(b:Nat)(vd vs vc:gy)(n:DN):Prop:=w.heap[b]?=some (.cells (Hg vd vs vc n) 95 (0,0))
section
variable{w:gx}{b:Nat}{vd vs vc:gy}{n:DN}
def AM.c0(h:AM w b vd vs vc n):A8 w b 0 vd:=by unfold AM at h;simp[A8,World.cell?,h,Hg]
def AM.c1(h:AM w b vd vs vc n):A8 w b 1 vs:=by unfold AM at h;simp[A8,World.cell?,h,Hg]
def AM.c2(h:AM w b vd vs vc n):A8 w b 2 vc:=by unfold AM at h;simp[A8,World.cell?,h,Hg]
def AM.c3(h:AM w b vd vs vc n):A8 w b 3 (A0 n.Av):=by unfold AM at h;simp[A8,World.cell?,h,Hg]
def AM.c4(h:AM w b vd vs vc n):A8 w b 4 (A0 n.Bc):=by unfold AM at h;simp[A8,World.cell?,h,Hg]
def AM.c5(h:AM w b vd vs vc n):A8 w b 5 (A0 n.CW):=by unfold AM at h;simp[A8,World.cell?,h,Hg]
def AM.c6(h:AM w b vd vs vc n):A8 w b 6 (A0 n.E0):=by unfold AM at h;simp[A8,World.cell?,h,Hg]
def AM.c7(h:AM w b vd vs vc n):A8 w b 7 (A0 n.BG):=by unfold AM at h;simp[A8,World.cell?,h,Hg]
def AM.c8(h:AM w b vd vs vc n):A8 w b 8 (A0 n.Bk):=by unfold AM at h;simp[A8,World.cell?,h,Hg]
def AM.c9(h:AM w b vd vs vc n):A8 w b 9 (A0 n.fulls):=by unfold AM at h;simp[A8,World.cell?,h,Hg]
def AM.bt(h:AM w b vd vs vc n):A8 w b 10 (.bool n.Bh):=by unfold AM at h;simp[A8,World.cell?,h,Hg]
def AM.fz(h:AM w b vd vs vc n)(o:Nat):w.frozen? (A9 b o)=false:=by unfold AM at h;simp[World.frozen?,h]
def AM.lt(h:AM w b vd vs vc n):b<w.heap.size:=By h
def BQ{w:gx}{b:Nat}{c:Array gy}{e:Nat}{o:Nat}{v:gy}(h:w.heap[b]?=some (.cells c e (0,0))):(w.setCell (A9 b o) v).heap[b]?=some (.cells (c.setIfInBounds o v) e (0,0)):=by
 simp[World.setCell,Array.getElem?_modify,h]
def AM.aw{w':gx}(h:AM w b vd vs vc n)(d:w'.heap[b]?=w.heap[b]?):AM w' b vd vs vc n:=d.trans h
def AM.aj(h:AM w b vd vs vc n)(o:Obj):AM (w.alloc o) b vd vs vc n:=h.aw (CY _ _ _ h.lt)
def AM.C7{w':gx}{row:Option Nat}(h:AM w b vd vs vc n)(z:w.grownBy w' row)(d:row≠some b):AM w' b vd vs vc n:=h.aw (z.block b h.lt (λe=>d e.symm))
def AM.Am{S:Nat->Prop}{w':gx}(h:AM w b vd vs vc n)(z:A4 S w w')(d:¬S b):AM w' b vd vs vc n:=h.aw (z.Al b h.lt d)
def AM.s0(h:AM w b vd vs vc n)(v:gy):AM (w.setCell (A9 b 0) v) b v vs vc n:=BQ h
def AM.s1(h:AM w b vd vs vc n)(v:gy):AM (w.setCell (A9 b 1) v) b vd v vc n:=BQ h
def AM.s2(h:AM w b vd vs vc n)(v:gy):AM (w.setCell (A9 b 2) v) b vd vs v n:=BQ h
def AM.s4(h:AM w b vd vs vc n)(x:Int):AM (w.setCell (A9 b 4) (A0 x)) b vd vs vc {n with Bc:=x}:=BQ h
def AM.s5(h:AM w b vd vs vc n)(x:Int):AM (w.setCell (A9 b 5) (A0 x)) b vd vs vc {n with CW:=x}:=BQ h
def AM.s6(h:AM w b vd vs vc n)(x:Int):AM (w.setCell (A9 b 6) (A0 x)) b vd vs vc {n with E0:=x}:=BQ h
def AM.s7(h:AM w b vd vs vc n)(x:Int):AM (w.setCell (A9 b 7) (A0 x)) b vd vs vc {n with BG:=x}:=BQ h
def AM.s8(h:AM w b vd vs vc n)(x:Int):AM (w.setCell (A9 b 8) (A0 x)) b vd vs vc {n with Bk:=x}:=BQ h
def AM.s9(h:AM w b vd vs vc n)(x:Int):AM (w.setCell (A9 b 9) (A0 x)) b vd vs vc {n with fulls:=x}:=BQ h
def AM.cm(h:AM w b vd vs vc n)(x:Bool):AM (w.setCell (A9 b 10) (.bool x)) b vd vs vc {n with Bh:=x}:=BQ h
end
def Db(w:gx)(f:Nat)(vb:gy)(Ad:Int):Prop:=w.heap[f]?=some (.cells #[vb,A0 Ad] 129 (0,0))
section
variable{w:gx}{f:Nat}{vb:gy}{Ad:Int}
def Db.c0(h:Db w f vb Ad):A8 w f 0 vb:=by unfold Db at h;simp[A8,World.cell?,h]
def Db.c1(h:Db w f vb Ad):A8 w f 1 (A0 Ad):=by unfold Db at h;simp[A8,World.cell?,h]
def Db.fz(h:Db w f vb Ad)(o:Nat):w.frozen? (A9 f o)=false:=by unfold Db at h;simp[World.frozen?,h]
def Db.s0(h:Db w f vb Ad)(v:gy):Db (w.setCell (A9 f 0) v) f v Ad:=BQ h
def Db.s1(h:Db w f vb Ad)(x:Int):Db (w.setCell (A9 f 1) (A0 x)) f vb x:=BQ h
end
def Ek(bs:gD UInt8):gD Value:=bs.map λb=>.int .u8 b.toNat
def Gf(w:gx)(v:gy)(bs:gD UInt8):Prop:=w.ownsRow 0 5 1 v bs.length (Ek bs)
def A3m(a b:gD UInt8):Ek (a++b)=Ek a++Ek b:=EG
def A4.cY{S:Nat->Prop}{w w':gx}(h:Below w.heap.size w w'):A4 S w w':=⟨h.os,h.tape,h.output,h.size,λk d _=>h.block k d⟩
def A4.ah{w w':gx}(h:A4 Aa w w'){p:Addr}{v:gy}(d:w.cell? p=some v):w'.cell? p=some v:=by
 have z:p.block<w.heap.size:=by
  rcases F9 p.block w.heap.size with h|h
  ·exact h
  ·unfold World.cell? at d;rw[NT h]at d;simp at d
 unfold World.cell? at d ⊢;rw[h.Al _ z (λh=>h)];exact d
structure App (w w':gx) (e size:Nat) (v v':gy) (n:Nat) (xs:gD gy):Prop where
 AB:w'.ownsRow 0 e size v' n xs
 C7:w.grownBy w' v.ownBlock
 BY:v'.ownBlock=v.ownBlock\/v'.ownBlock=some w.heap.size
 BW:∃a cap,v'=.slice a n cap
def Yu{P:Program}(w:gx)(t tx ty e:TypeId)(i:TypeInfo)(z:gy)(size bytes:Nat)(ht:P.underlying t=some (.slice e))(hi:P.info? e=some i)(hz:i.zero=some z)(X:i.size=size)(aK:i.bytes=bytes)(aM:z.cells.size=size)(aJ:0<bytes)(v:gy)(n:Nat)(xs:gD gy)(d:w.ownsRow 0 e size v n xs)(x:gy)(m:Nat)(news:gD gy)(O:Src P size tx x m news w)(I:(n+m)*bytes<=140737488355328):
 ∃v' w',(Builtin.append_ #[t,tx] ty #[v,x]).run P w=.ok v' w'/\App w w' e size v v' (n+m) (xs++news):=by
 subst X;subst aK;have hnm:=AP (Nat.le_mul_of_pos_right _ aJ) I;have h:(xs++news).length=(n+m)*i.size:=by rw[B3,d.1,O.newsLen,I5]
 obtain⟨a,cap,rfl,hnc,aH,_,aE,Y⟩:=B8 d;by_cases E:n+m<=cap
 ·rcases d.2 with⟨h1,h2⟩|⟨g,cap',L,h1,_,hg,_,_,aL,aA⟩
  ·cases h1;(obtain rfl:m=0:=by omega);have hn:=NH (by simpa using O.newsLen);subst hn;have hx:=NH (by simpa using d.1);subst hx;refine⟨.slice none 0 0,w,?_,⟨Co w 0 e i.size,⟨rfl,rfl,rfl,Ao _,λ_ _ _=>rfl⟩,.inl rfl,⟨none,0,rfl⟩⟩⟩;rcases O.kind with⟨e',W⟩|W<;>simp[Builtin.append_,run_underlying ht,run_underlying W,sizeOf,typeInfo,hi,O.len,O.cells]
  ·cases h1;(have aF:n*i.size+news.length<=L.size:=by rw[O.newsLen,aL,<-I5];exact I4 _ E);have aB:=run_storeCells_at P g (n*i.size) e news 0 L w hg (by simpa using aF) O.one;simp only[Qk]at aB;have hr:(Builtin.append_ #[t,tx] ty #[AA g n cap,x]).run P w=.ok (AA g (n+m) cap) (w.setRow g (L.toList.take (n*i.size)++news++L.toList.drop (n*i.size+news.length)).toArray):=by
    rcases O.kind with⟨e',W⟩|W<;>simp[Builtin.append_,run_underlying ht,run_underlying W,sizeOf,typeInfo,hi,O.len,E,O.cells,Addr.add_lit,aB]
   refine⟨_,_,hr,⟨⟨h,.inr ⟨g,cap,_,rfl,Ch _,L4 w g L _ e _ hg,E,aH,?_,?_⟩⟩,⟨rfl,rfl,rfl,by simp,λk _ W=>K6 w g k _ (λe=>W (by simp[Value.ownBlock,e]))⟩,.inl rfl,⟨_,_,rfl⟩⟩⟩
   ·simp only[LY,B3,BK,Cz,Mf];omega
   ·rw[aA,<-h];exact JP
 ·have aD:(Builtin.firstCells i.size n (.slice a n cap)).run P w.drew=.ok xs.toArray w.drew:=by
   cases a with
   | none=>
    obtain⟨rfl,_⟩:=aE rfl;have hx:=NH (by simpa using d.1);subst hx;exact run_firstCells_none w.drew i.size 0 0 cap
   | some ad=>
    obtain⟨g,rfl⟩:=Y ad rfl;exact RM w.drew i.size n _ n cap xs d.1 (by simpa using d.cells (g:=g) rfl)
  have hr:=run_append_grow_src (P:=P) w t tx ty e i z ht hi hz a n cap xs aD x m news O (by omega) (by omega) (growslice_fits (by omega) I);have aG:=grownCap_ge w (n+m) cap e;have aI:=grownCap_le_maxLen w (n+m) cap e (by unfold maxLen;omega);refine⟨_,_,hr,⟨⟨h,.inr ⟨w.heap.size,_,_,rfl,Ch _,Bl w.drew _,aG,aI,?_,?_⟩⟩,⟨rfl,rfl,rfl,by simp,λk W _=>CY w.drew _ k W⟩,.inr rfl,⟨_,_,rfl⟩⟩⟩
  ·simp only[Array.size_append,LY,size_zeroCells,aM,h,<-I5]
   congr 1
   omega
  ·simp only[QH];rw[<-h];exact JP
section
variable{P:Program}{w:gx}
def HP{o:Oper}{a:Act}{K:Act->gx->Prop}{Q:Exit->Act->gx->Prop}(s x:Operand)(t X:TypeId)(ho:o.op=.call {callee:=.builtin .append,args:=#[s,x],argTypes:=#[t,X]})(e:TypeId)(i:TypeInfo)(z:gy)(size bytes:Nat)(Y:P.underlying t=some (.slice e))(hi:P.info? e=some i)(hz:i.zero=some z)(E:i.size=size)(O:i.bytes=bytes)(W:z.cells.size=size)(L:0<bytes)(v:gy)(n:Nat)(xs:gD gy)(hv:a.eval s=v)(I:w.ownsRow 0 e size v n xs)(sv:gy)(m:Nat)(news:gD gy)(hx:a.eval x=sv)(hs:Src P size X sv m news w)(d:(n+m)*bytes<=140737488355328)(h:∀b cap w',App w w' e size v (.slice b (n+m) cap) (n+m) (xs++news)->K (a.put o.dst (.slice b (n+m) cap)) w'):o.wp P a w K Q:=by
 have⟨v',w',hr,hA⟩:=Yu (P:=P) w t X o.type e i z size bytes Y hi hz E O W L v n xs I sv m news hs d;obtain⟨b,cap,rfl⟩:=hA.BW;unfold Oper.wp execOp;simp only[ho,resolve,invoke,builtin,Sem.run_bind,Sem.run_pure,Result.andThen_ok,List.map_toArray,GW,List.map_nil,hv,hx,hr];exact h b cap w' hA
def CU{ops:Array Oper}{rest:gD Oper}{o:Oper}{a:Act}{Q:Exit->Act->gx->Prop}(L:o.guard=none)(s x:Operand)(t Y:TypeId)(ho:o.op=.call {callee:=.builtin .append,args:=#[s,x],argTypes:=#[t,Y]})(e:TypeId)(i:TypeInfo)(z:gy)(size bytes:Nat)(ht:P.underlying t=some (.slice e))(hi:P.info? e=some i)(hz:i.zero=some z)(E:i.size=size)(W:i.bytes=bytes)(X:z.cells.size=size)(O:0<bytes)(v:gy)(n:Nat)(xs:gD gy)(hv:a.eval s=v)(I:w.ownsRow 0 e size v n xs)(sv:gy)(m:Nat)(news:gD gy)(hx:a.eval x=sv)(hs:Src P size Y sv m news w)(d:(n+m)*bytes<=140737488355328)(h:∀b cap w',App w w' e size v (.slice b (n+m) cap) (n+m) (xs++news)->wpList P ops Q rest (a.put o.dst (.slice b (n+m) cap)) w'):wpList P ops Q (o::rest) a w:=
 wpList_plain L λ_ hK=>HP s x t Y ho e i z size bytes ht hi hz E W X O v n xs hv I sv m news hx hs d λb cap w' hA=>hK _ _ (h b cap w' hA)
def K4{y:Nat->Option Bool}{o:Oper}{a:Act}{K:Act->gx->Prop}{Q:Exit->Act->gx->Prop}{E:Prop}(O:o.guard=none)(s x:Operand)(t tx:TypeId)(ho:o.op=.call {callee:=.builtin .append,args:=#[s,x],argTypes:=#[t,tx]})(e:TypeId)(i:TypeInfo)(z:gy)(size bytes:Nat)(ht:P.underlying t=some (.slice e))(hi:P.info? e=some i)(hz:i.zero=some z)(I:i.size=size)(X:i.bytes=bytes)(Y:z.cells.size=size)(W:0<bytes)(v:gy)(n:Nat)(xs:gD gy)(hv:a.eval s=v)(L:w.ownsRow 0 e size v n xs)(sv:gy)(m:Nat)(news:gD gy)(hx:a.eval x=sv)(hs:Src P size tx sv m news w)(d:(n+m)*bytes<=140737488355328)(h:∀b cap w',App w w' e size v (.slice b (n+m) cap) (n+m) (xs++news)->K (a.put o.dst (.slice b (n+m) cap)) w'):
 if Region.wanted o y=true then Oper.wp P o a w K Q else E:=by
 have hw:Region.wanted o y=true:=by simp[Region.wanted,O]
 rw[Ai hw];exact HP s x t tx ho e i z size bytes ht hi hz I X Y W v n xs hv L sv m news hx hs d h
def Src.cc{size:Nat}{d I:TypeId}(h:P.underlying d=some (.slice I)){B:Nat}{cs:Array gy}{t:TypeId}{O:Nat×Nat}(L:w.heap[B]?=some (.cells cs t O))(m c:Nat)(z:cs.size=m*size)(E:∀u∈cs.toList,u.oneCell'=true):Src P size d (.slice (some ⟨B,0,none⟩) m c) m cs.toList w:=
 J4 w h _ m c _ (by simpa using z) (World.news_of_block L) E
def Src.bc{size:Nat}{d L:TypeId}(h:P.underlying d=some (.slice L))(w:gx)(cs:Array gy)(t B:Nat)(I:w.heap.size=B)(m c:Nat)(z:cs.size=m*size)(E:∀u∈cs.toList,u.oneCell'=true):Src P size d (.slice (some ⟨B,0,none⟩) m c) m cs.toList (w.alloc (.cells cs t)):=by
 subst I;exact Src.cc h (Bl _ _) m c z E
def Src.bP{size:Nat}{I O e:TypeId}(E:P.underlying I=some (.slice O)){v:gy}{m:Nat}{news:gD gy}(h:w.ownsRow 0 e size v m news)(L:∀u∈news,u.oneCell'=true):Src P size I v m news w:=by
 obtain⟨a,cap,rfl,_,_,_,z,d⟩:=B8 h;cases a with
 | none=>
  obtain⟨rfl,rfl⟩:=z rfl;have W:=NH (by simpa using h.1);subst W;exact Src.ofNil w E 0
 | some ad=>
  obtain⟨g,rfl⟩:=d ad rfl;exact J4 w E _ m cap news h.1 (h.cells rfl) L
def Src.fR{size:Nat}{L X e:TypeId}(W:P.underlying L=some (.slice X)){g n cap:Nat}{xs:gD gy}(h:w.ownsRow 0 e size (.slice (some ⟨g,0,none⟩) n cap) n xs)(I:∀u∈xs,u.oneCell'=true)(k m c:Nat)(E:k+m<=n):
 Src P size L (.slice (some ((⟨g,0,none⟩:Addr).add (k*size))) m c) m ((xs.drop (k*size)).take (m*size)) w:=by
 have hle:k*size+m*size<=n*size:=by rw[<-I5];exact I4 _ E
 refine J4 w W _ m c _ ?_ ?_ ?_
 ·rw[BK,Cz,h.1];omega
 ·intro j u z;rw[ND]at z;split at z
  ·rw[Is]at z;have:=Bv h (g:=g) rfl z;have d:((⟨g,0,none⟩:Addr).add (k*size)).add j=⟨g,k*size+j,none⟩:=by
    unfold Addr.add;by_cases O:k*size=0<;>by_cases I:j=0<;>simp[O,I]
   rw[d];exact this
  ·cases z
 ·intro u hu;exact I u (KI (Ho hu))
end
end
abbrev Pt:=Int×Int
def Cc:gD Pt->Int->Int->gD Pt
 | [],t,v=>[(t,v)]
 | (a,b):: r,t,v=>if a<t then (a,b):: Cc r t v else if a=t then (t,v):: r else (t,v):: (a,b):: r
def DP(l:gD Pt):Prop:=l.Pairwise λx y=>x.1<y.1
def A1w{l:gD Pt}{t v:Int}{x:Pt}(h:x∈Cc l t v):x=(t,v)\/x∈l:=by
 induction l with
 | nil=>simp[Cc]at h;exact .inl h
 | cons e r ih=>
  obtain⟨a,b⟩:=e;simp only[Cc]at h;split at h
  ·rcases BS.1 h with h|h
   ·exact .inr (by simp[h])
   ·rcases ih h with h|h
    ·exact .inl h
    ·exact .inr (BC _ h)
  ·split at h
   ·rcases BS.1 h with h|h
    ·exact .inl h
    ·exact .inr (BC _ h)
   ·rcases BS.1 h with h|h
    ·exact .inl h
    ·exact .inr h
def Lx{l:gD Pt}(h:DP l)(t v:Int):DP (Cc l t v):=by
 induction l with
 | nil=>simp[Cc,DP]
 | cons e r ih=>
  obtain⟨a,b⟩:=e;have z:=Dk.1 h;simp only[Cc];split
  ·rename_i E;refine Dk.2 ⟨λx d=>?_,ih z.2⟩;rcases A1w d with rfl|d
   ·exact E
   ·exact z.1 x d
  ·rename_i E;split
   ·rename_i I;subst I;exact Dk.2 ⟨λx d=>z.1 x d,z.2⟩
   ·rename_i I;refine Dk.2 ⟨λx d=>?_,h⟩;rcases BS.1 d with rfl|d
    ·show t<a;omega
    ·have:=z.1 x d;show t<x.1;simp only at this;omega
def BF(l:gD Pt)(t:Int):Nat:=(l.takeWhile λx=>decide (x.1<t)).length
def Jm(l:gD Pt)(t:Int):BF l t<=l.length:=by
 unfold BF;exact(List.takeWhile_sublist _).length_le
def Kf{l:gD Pt}{t:Int}{i:Nat}(h:i<BF l t)(z:i<l.length):(l[i]'z).1<t:=by
 unfold BF at h
 induction l generalizing i with
 | nil=>simp at z
 | cons e r ih=>
  by_cases d:e.1<t
  ·simp only[Ql,d,PO,Cq,CA]at h;cases i with
   | zero=>exact d
   | succ i=>simp only[NC];exact ih (by omega) _
  ·simp[d]at h
def Ld{l:gD Pt}(I:DP l){t:Int}{i:Nat}(h:BF l t<=i)(z:i<l.length):t<=(l[i]'z).1:=by
 unfold BF at h
 induction l generalizing i with
 | nil=>simp at z
 | cons e r ih=>
  have d:=Dk.1 I;by_cases E:e.1<t
  ·simp only[Ql,E,PO,Cq,CA]at h;cases i with
   | zero=>omega
   | succ i=>simp only[NC];exact ih d.2 (by omega) _
  ·cases i with
   | zero=>simp only[KM];omega
   | succ i=>
    have:=d.1 (r[i]'(by simpa using z)) (BV _);simp only[NC];omega
def MH{l:gD Pt}(L:DP l){t:Int}{k:Nat}(hk:k<=l.length)(I:∀i (z:i<l.length),i<k->(l[i]'z).1<t)(E:∀i (z:i<l.length),k<=i->t<=(l[i]'z).1):BF l t=k:=by
 rcases Qh (BF l t) k with h|h|h
 ·have d:BF l t<l.length:=by omega
  have:=I _ d h;have:=Ld L (Ao (BF l t)) d;omega
 ·exact h
 ·have hp:=Jm l t;have d:k<l.length:=by omega
  have:=Kf h d;have:=E k d (Ao k);omega
def Ph(l:gD Pt)(t v:Int):Cc l t v=l.take (BF l t)++(t,v):: (if (l[BF l t]?).any (λx=>x.1==t) then l.drop (BF l t+1) else l.drop (BF l t)):=by
 unfold BF
 induction l with
 | nil=>simp[Cc]
 | cons e r ih=>
  obtain⟨a,b⟩:=e;simp only[Cc];by_cases h:a<t
  ·simp only[h,Cq,Ql,PO,CA,FJ,DH,A4G,G2,ih]
  ·by_cases d:a=t
   ·subst d;simp
   ·simp[h,d]
def Ui{l:gD Pt}(Y:DP l)(p:Int->Bool)(t v:Int):(Cc l t v).filter (λx=>p x.1)=if p t then Cc (l.filter λx=>p x.1) t v else l.filter (λx=>p x.1):=by
 induction l with
 | nil=>by_cases h:p t<;>simp[Cc,h]
 | cons e r O=>
  obtain⟨a,b⟩:=e;have E:=Dk.1 Y;have O:=O E.2;simp only[Cc];by_cases I:a<t
  ·simp only[I,Cq,Fu,O];by_cases h:p t<;>by_cases z:p a<;>simp[h,z,Cc,I]
  ·by_cases L:a=t
   ·subst L;simp only[I,Cd,Cq,Fu];by_cases h:p a<;>simp[h,Cc]
   ·simp only[I,L,Cd,Fu];by_cases h:p t
    ·by_cases z:p a
     ·simp[h,z,Cc,I,L]
     ·simp only[h,z,Cq];have hall:∀x∈r.filter (λx=>p x.1),t<x.1:=λx hx=>by
       have:=E.1 x (GV.1 hx).1;simp only at this;omega
      cases hr:r.filter (λx=>p x.1) with
      | nil=>simp[Cc]
      | cons y ys=>
       obtain⟨c,d⟩:=y;have:=hall (c,d) (by rw[hr];simp);simp only at this;(have X:¬c<t:=by omega);(have W:¬c=t:=by omega);simp[Cc,X,W]
    ·by_cases z:p a<;>simp[h,z]
def DP.cj{l:gD Pt}(h:DP l)(k:Nat):DP (l.drop k):=A4K (List.drop_sublist k l) h
def A1W{l:gD Pt}(X:DP l)(a b:Int):l.filter (λx=>decide (a<=x.1)&&decide (x.1<b))=(l.take (BF l b)).drop (BF l a):=by
 unfold BF
 induction l with
 | nil=>simp
 | cons e r h=>
  have d:=Dk.1 X;have h:=h d.2;by_cases z:e.1<b
  ·by_cases I:e.1<a
   ·(have:¬a<=e.1:=by omega);simp[I,z,this,h]
   ·(have W:a<=e.1:=by omega);have O:r.takeWhile (λx=>decide (x.1<a))=[]:=by
     cases r with
     | nil=>rfl
     | cons y ys=>have:=d.1 y (by simp);rw[Ql];have:¬y.1<a:=by omega
                  simp[this]
    simp only[O,Ja,Dl]at h;simp[I,z,W,h]
  ·(have L:∀x∈r,¬x.1<b:=λx E=>by have:=d.1 x E;omega);have:r.filter (λx=>decide (a<=x.1)&&decide (x.1<b))=[]:=by
    rw[W6];intro x E;have:=L x E;simp[this]
   simp[z,this]
section
open Go.RowKit
attribute [local go_sem ↓] Go.wp_at_zero Go.wp_at_succ
def ED(t ld A7:Int):Bool:=decide (t+ld>A7)
def Ay(x:Int):Prop:=-9223372036854775808<=x/\x<=9223372036854775807
def Vy(t ld A7:Int)(w:gx)(d:Ay t)(z:1<=ld/\ld<=4611686018427387904)(E:Ay A7)(hg:A7<=9223372036854775807):
 Ag 123 #[A0 t,A0 ld,A0 A7] w (Aj (.bool (ED t ld A7)) λw'=>w=w'):=by
 obtain⟨t1,t2⟩:=d;obtain⟨l1,l2⟩:=z;obtain⟨c1,c2⟩:=E;by_cases h:9223372036854775807-ld<t
 ·have q:Hid (ED t ld A7=true):=by unfold Hid ED;simp;omega
  go_enter func123,ntmps123
  go_wp2;go_ret;rw[q.o];exact⟨rfl,rfl⟩
 ·have h':t<=9223372036854775807-ld:=by omega
  have hw:t+ld<=9223372036854775807:=by omega
  by_cases h2:A7<t+ld
  ·(have q:Hid (ED t ld A7=true):=by unfold Hid ED;simp;omega)
   go_enter func123,ntmps123
   go_wp2;go_ret;rw[q.o];exact⟨rfl,rfl⟩
  ·(have q:Hid (ED t ld A7=false):=by unfold Hid ED;simp;omega)
   go_enter func123,ntmps123
   go_wp2;go_ret;rw[q.o];exact⟨rfl,rfl⟩
def DJ(A7 d:Int):Int:=if A7>9223372036854775807-d then 9223372036854775807 else A7+d
def Ra(A7 d:Int)(w:gx)(E:Ay A7)(z:0<=d/\d<=9223372036854775807):
 Ag 44 #[A0 A7,A0 d] w (Aj (A0 (DJ A7 d)) λw'=>w=w'):=by
 obtain⟨c1,c2⟩:=E;obtain⟨t1,t2⟩:=z;by_cases h:9223372036854775807-d<A7
 ·have q:Hid (DJ A7 d=9223372036854775807):=by unfold Hid DJ;rw[Ai h]
  go_enter func44,ntmps44
  go_wp2;go_ret;rw[q.o];exact⟨rfl,rfl⟩
 ·have q:Hid (DJ A7 d=A7+d):=by unfold Hid DJ;rw[Af h]
  have h3 : -9223372036854775808<=A7+d:=by omega
  go_enter func44,ntmps44
  go_wp2;go_ret;rw[q.o];exact⟨rfl,rfl⟩
def FF(s:Int):Bool:=decide (0<=s)&&decide (s<8)
def Mz(s:Int)(w:gx):Ag 91 #[A0 s] w (Aj (.bool (FF s)) λw'=>w=w'):=by
 by_cases h:0<=s
 ·by_cases d:s<8
  ·(have q:Hid (FF s=true):=by unfold Hid FF;simp[h,d])
   go_enter func91,ntmps91
   go_wp2;go_ret;rw[q.o];exact⟨rfl,rfl⟩
  ·(have q:Hid (FF s=false):=by unfold Hid FF;simp[d])
   go_enter func91,ntmps91
   go_wp2;go_ret;rw[q.o];exact⟨rfl,rfl⟩
 ·have q:Hid (FF s=false):=by unfold Hid FF;simp[h]
  go_enter func91,ntmps91
  go_wp2;go_ret;rw[q.o];exact⟨rfl,rfl⟩
end
section
open Go
def Pt1{α:Type}{l:gD α}{i:Nat}{a:α}:l.toArray.setIfInBounds i a=(l.set i a).toArray:=A4t _ _ _
def Pt2{α:Type}{x a:α}{xs:gD α}:(x::xs).set 0 a=a::xs:=rfl
def Pt3{α:Type}{x a:α}{xs:gD α}{n:Nat}:(x::xs).set (n+1) a=x::xs.set n a:=rfl
def Pt4{α:Type}{l:gD α}{i:Nat}(h:i<l.toArray.size):l.toArray[i]=l[i]'(by simpa using h):=rfl
def Pt5{α:Type}{a:α}{l:gD α}(h:0<(a::l).length):(a::l)[0]=a:=rfl
def Pt6{α:Type}{a:α}{l:gD α}{i:Nat}(h:i+1<(a::l).length):(a::l)[i+1]=l[i]'(A4m h):=rfl
def D0b{α:Type}{a:α}{l:gD α}{n:Nat}:(a::l).drop (n+1)=l.drop n:=rfl
def D0a{α:Type}{l:gD α}:l.drop 0=l:=rfl
section
variable{P:Program}{ops:Array Oper}{md:Region.Mode}{Q:Exit->Act->gx->Prop}{S:gx->Prop}
def KX(P:Program)(md:Region.Mode)(ops:Array Oper)(Q:Exit->Act->gx->Prop)(S:gx->Prop)(n:Nat)(L:Array Bool->Act->gx->Prop):Nat->Array Bool->Act->gx->Prop
 | 0,lf,a,w=>L lf a w
 | f+1,lf,a,w=>Region.ready md ops lf≠[]/\∀i∈Region.ready md ops lf,i<n/\wpOp P ops Q i (λa' w'=>S w'/\KX P md ops Q S n L f (lf.setIfInBounds i true) a' w') a w
def QO{n g:Nat}{L:Array Bool->Act->gx->Prop}(z:∀d a w,L d a w->wpAny P md ops Q g d a w):
 ∀(f:Nat) (d:Array Bool) (a:Act) (w:gx),KX P md ops Q S n L f d a w->wpAny P md ops Q (f+g) d a w
 | 0,d,a,w,h=>by rw[Ha];exact z _ _ _ h
 | f+1,d,a,w,h=>by
  rw[show f+1+g=(f+g)+1 from by omega];exact⟨λI=>absurd I h.1,λi O=>KW (λa' w' E=>QO z f _ a' w' E.2) (h.2 i O).2⟩
def WE{n i:Nat}{oi:Oper}{v:gy}{L:Array Bool->Act->gx->Prop}(hi:ops[i]?=some oi)(Y:∀(j:Nat) (o:Oper) cs b,ops[j]?=some o->o.op≠.select cs b)(hQ:∀c a w,Q (.panic c) (a.put oi.dst v) w->Q (.panic c) a w)(hs:Region.sinkB md ops n=true)(hc:Region.chainB md ops n=true)(hn:n<ops.size)(aE:i<n)(aA:∀E a w,L E a w->∀j∈Region.ready md ops E,n<=j):
 ∀(f:Nat) (E:Array Bool) (a:Act) (w:gx),HeadInv md ops n E->
  (∀j oj,ops[j]?=some oj->j≠i->E.getD j true=false->(∀e∈oj.after,Region.binds md e=true->e.on≠i)->oi.apart ops oj=true)->
  i∈Region.ready md ops E->YieldsIf P ops S oi v a->S w->
  KX P md ops Q S n L f (E.setIfInBounds i true) (a.put oi.dst v) w->KX P md ops Q S n L (f+1) E a w:=by
 intro f
 induction f with
 | zero=>
  intro E a w W _ hr hy hS H;have z:=(IM.1 hr).1;refine⟨λh=>(by rw[h]at hr;cases hr),λj hj=>?_⟩;have X:j<n:=by
   rcases F9 j n with h|h
   ·exact h
   ·exact absurd hj (Mn hs hc hn W _ i rfl aE z j h)
  refine⟨X,?_⟩;by_cases d:j=i
  ·subst d;exact hy.wpOp hi hS ⟨hS,H⟩
  ·have:=aA _ _ _ H j (L9 hj d);omega
 | succ f ih=>
  intro E a w W I hr hy hS H;have z:=(IM.1 hr).1;refine⟨λh=>(by rw[h]at hr;cases hr),λj hj=>?_⟩;have X:j<n:=by
   rcases F9 j n with h|h
   ·exact h
   ·exact absurd hj (Mn hs hc hn W _ i rfl aE z j h)
  refine⟨X,?_⟩;by_cases d:j=i
  ·subst d;exact hy.wpOp hi hS ⟨hS,H⟩
  ·have h1:=(H.2 j (L9 hj d)).2;have⟨hjun,oj,hoj,hall⟩:=IM.1 hj;have aD:∀e∈oj.after,Region.binds md e=true->e.on≠i:=λe he hb aH=>by
    have h1:=hall e he hb;rw[aH,getD_both z]at h1;cases h1
   have h2:=wpOp_putIf hoj (I j oj hoj d hjun aD) (λcs b=>Y i oi cs b hi) (λcs b=>Y j oj cs b hoj) hQ hy h1;have O:∀k ok,ops[k]?=some ok->k≠i->(E.setIfInBounds j true).getD k true=false->
    (∀e∈ok.after,Region.binds md e=true->e.on≠i)->oi.apart ops ok=true:=λk ok hk aG z aF=>by
    refine I k ok hk aG ?_ aF;by_cases aB:j=k
    ·subst aB;exact hjun
    ·rw[MW true aB]at z;exact z
   refine KW (λa' w' h3=>⟨h3.2.1,ih (E.setIfInBounds j true) a' w' (W.set hj X) O (L9 hr (Qd d)) h3.1 h3.2.1 ?_⟩) h2;rw[Wp _ _ d];exact h3.2.2
def Fy(P:Program)(ops:Array Oper)(Q:Exit->Act->gx->Prop)(S:gx->Prop)(T:Act->gx->Prop):gD (Nat×Bool)->Act->gx->Prop
 | [],a,w=>T a w
 | (i,true):: r,a,w=>∃o v,ops[i]?=some o/\YieldsIf P ops S o v a/\Fy P ops Q S T r (a.put o.dst v) w
 | (i,false):: r,a,w=>wpOp P ops Q i (λa' w'=>S w'/\Fy P ops Q S T r a' w') a w
def L7(md:Region.Mode)(ops:Array Oper)(n:Nat):gD (Nat×Bool)->Array Bool->Bool
 | [],lf=>Region.seqB md ops (ops.size-n) n lf
 | (i,t):: r,lf=>decide (i<n)&&(if t then (Region.ready md ops lf).contains i&&Region.free md ops lf i else decide (Region.ready md ops lf=[i]))&&L7 md ops n r (lf.setIfInBounds i true)
def Ms(ops:Array Oper)(n:Nat)(d:gD (Nat×Bool)):Bool:=
 Region.noSelect ops&&decide (n<ops.size)&&decide (d.length=n)&&Region.sinkB .any ops n&&Region.chainB .any ops n&&L7 .any ops n d (Array.replicate ops.size false)
def NW{n:Nat}{T:Act->gx->Prop}(d:Region.noSelect ops=true)(hs:Region.sinkB md ops n=true)(hc:Region.chainB md ops n=true)(hn:n<ops.size)(Y:∀c a t v w,Q (.panic c) (Act.put a (some t) v) w->Q (.panic c) a w):
 ∀(O:gD (Nat×Bool)) (I:Array Bool) (a:Act) (w:gx),HeadInv md ops n I->L7 md ops n O I=true->S w->Fy P ops Q S T O a w->
 KX P md ops Q S n (λW a' w'=>Region.seqB md ops (ops.size-n) n W=true/\T a' w') O.length I a w
 | [],I,a,w,_,hB,_,h=>⟨hB,h⟩
 | (i,true):: r,I,a,w,inv,hB,hS,h=>by
  simp only[L7,G3,E2,Cq]at hB;obtain⟨⟨z,X,hf⟩,L⟩:=hB;obtain⟨o,v,h0,hy,hK⟩:=h;have E:i∈Region.ready md ops I:=by simpa using X
  exact WE h0 (VD d) (λc a w=>by cases o.dst with|none=>exact id|some t=>exact Y c a t v w) hs hc hn z (λW a' w' hL=>RE hL.1) r.length I a w inv (VE h0 hf) E hy hS
   (NW d hs hc hn Y r _ _ w (inv.set E z) L hS hK)
 | (i,false):: r,I,a,w,inv,hB,hS,h=>by
  simp only[L7,G3,E2,QE,Cd]at hB;obtain⟨⟨z,X⟩,L⟩:=hB;refine⟨by rw[X];simp,λj hj=>?_⟩;have E:i∈Region.ready md ops I:=by rw[X];simp
  rw[X]at hj;have:j=i:=by simpa using hj
  subst this;exact⟨z,KW (λa' w' h'=>⟨h'.1,NW d hs hc hn Y r _ a' w' (inv.set E z) L h'.1 h'.2⟩) h⟩
def FN{id:Nat}{a:Act}{w:gx}{l:gD Oper}(S:gx->Prop)(n:Nat)(d:gD (Nat×Bool))(hm:P.follows .mixedOrders=true)(O:Ms l.toArray n d=true)(X:∀c a t v w,Q (.panic c) (Act.put a (some t) v) w->Q (.panic c) a w)(hS:S w.drew)(h:Fy P l.toArray Q S (λa w=>wpList P l.toArray Q (l.drop n) a w) d a w.drew):(Code.region id l.toArray true).wp P Q a w:=by
 simp only[Ms,G3,E2]at O;obtain⟨⟨⟨⟨⟨hsel,hn⟩,hsl⟩,hs⟩,hc⟩,hgo⟩:=O;have E:(l.drop n).length=l.toArray.size-n:=by simp
 have z:HeadInv .any l.toArray n (Array.replicate l.toArray.size false):=
  ⟨by simp,λj oj _ L=>(by rw[Kr]at L;cases L),λt _ W=>getD_in (by simpa using W) (Kr _ _)⟩
 have H:=NW (md:=.any) (T:=λa w=>wpList P l.toArray Q (l.drop n) a w) hsel hs hc hn X d _ a w.drew z hgo hS h;refine QM hm ?_
 have:=QO (Q:=Q) (g:=l.toArray.size-n) (λY a' w' I=>by
  have:=QN (md:=.any) (Q':=Q) (l.drop n) n Y a' w' (λj=>by simp[List.getElem?_drop]) (by rw[E];exact I.1) I.2
  rwa [E]at this) _ _ _ _ H
 rw[hsl,show n+(l.toArray.size-n)=l.toArray.size from by omega]at this;exact this
def E1{i:Nat}{o:Oper}{v:gy}{r:gD (Nat×Bool)}{a:Act}{w:gx}{T:Act->gx->Prop}(z:ops[i]?=some o)(d:Region.wanted o (yielded ops a.tmps)=true)(E:∀w,S w->(execOp a.eval o).run P w=.ok (.value v) w)(h:Fy P ops Q S T r (a.put o.dst v) w):Fy P ops Q S T ((i,true):: r) a w:=
 ⟨o,v,z,.inl ⟨d,E⟩,h⟩
def WA{i:Nat}{o:Oper}{r:gD (Nat×Bool)}{a:Act}{w:gx}{T:Act->gx->Prop}(z:ops[i]?=some o)(d:Region.wanted o (yielded ops a.tmps)=false)(h:Fy P ops Q S T r (a.put o.dst undef) w):Fy P ops Q S T ((i,true):: r) a w:=
 ⟨o,_,z,.inr ⟨d,rfl⟩,h⟩
def Fx{a:Act}{w:gx}{T:Act->gx->Prop}(h:T a w):Fy P ops Q S T [] a w:=h
def Dv{i:Nat}{o:Oper}{r:gD (Nat×Bool)}{a:Act}{w:gx}{T:Act->gx->Prop}(I:ops[i]?=some o)(z:Region.wanted o (yielded ops a.tmps)=true)(h:∀K:Act->gx->Prop,(∀a w,S w->(S w->Fy P ops Q S T r a w)->K a w)->o.wp P a w K Q):Fy P ops Q S T ((i,false):: r) a w:=by
 show wpOp P ops Q i _ a w;unfold wpOp;simp only[I,z,Cq];exact .inl (h _ λa w d E=>⟨d,E d⟩)
def B4{i:Nat}{o:Oper}{v:gy}{r:gD (Nat×Bool)}{a d:Act}{w:gx}{T:Act->gx->Prop}(h:Fy P ops Q S T r d w)(E:ops[i]?=some o:=by rfl)(z:Region.wanted o (yielded ops a.tmps)=true:=by rfl)(I:∀w,S w->(execOp a.eval o).run P w=.ok (.value v) w:=by intro w' O;(try dsimp only at O);go_simp;try with_reducible rfl)(L:a.put o.dst v=d:=by simp only[BO];rfl):Fy P ops Q S T ((i,true):: r) a w:=E1 E z I (L ▸ h)
def Bf{i:Nat}{o:Oper}{r:gD (Nat×Bool)}{a:Act}{w:gx}{T:Act->gx->Prop}(h:∀K:Act->gx->Prop,(∀a w,S w->(S w->Fy P ops Q S T r a w)->K a w)->o.wp P a w K Q)(z:ops[i]?=some o:=by rfl)(d:Region.wanted o (yielded ops a.tmps)=true:=by rfl):Fy P ops Q S T ((i,false):: r) a w:=Dv z d h
def Bo{a:Act}{w:gx}{l d:gD Oper}{n:Nat}(h:wpList P l.toArray Q d a w)(z:l.drop n=d:=by simp only[D0b,D0a];rfl):Fy P l.toArray Q S (λa w=>wpList P l.toArray Q (l.drop n) a w) [] a w:=by subst z;exact h
def Br{id:Nat}{a:Act}{w:gx}{l:gD Oper}(S:gx->Prop)(n:Nat)(d:gD (Nat×Bool))(E:S w.drew)(h:Fy P l.toArray Q S (λa w=>wpList P l.toArray Q (l.drop n) a w) d a w.drew)(z:P.follows .mixedOrders=true:=by kernel_rfl)(I:Ms l.toArray n d=true:=by kernel_rfl)(L:∀c a t v w,Q (.panic c) (Act.put a (some t) v) w->Q (.panic c) a w:=by exact λ_ _ _ _ _ h=>h):(Code.region id l.toArray true).wp P Q a w:=FN S n d z I L E h
end
def Nu(Q:Exit->Act->gx->Prop):Exit->Act->gx->Prop
 | .panic _,_,_=>False
 | e,a,w=>Q e a w
def CL(Q:Exit->Act->gx->Prop)(a:Act)(w:gx):Nu Q .normal a w=Q .normal a w:=rfl
def A4k{Q:Exit->Act->gx->Prop}{e:Exit}{a:Act}{w:gx}(h:Nu Q e a w):Q e a w:=by
 cases e with
 | panic _=>exact h.elim
 | _=>exact h
def NV{P:Program}{Q:Exit->Act->gx->Prop}{id:Nat}{a:Act}{w:gx}{l:gD Oper}(S:gx->Prop)(n:Nat)(d:gD (Nat×Bool))(z:P.follows .mixedOrders=true)(I:Ms l.toArray n d=true)(E:S w.drew)(h:Fy P l.toArray (Nu Q) S (λa w=>wpList P l.toArray (Nu Q) (l.drop n) a w) d a w.drew):(Code.region id l.toArray true).wp P Q a w:=
 Code.wp_mono (λ_ _ _ h=>A4k h) (FN S n d z I (λ_ _ _ _ _ h=>h) E h)
end
section
open Go.RowKit
def Lt(w:gx)(x:Int):Ag 63 #[A0 x] w (Aj (.bool (decide (0<=x/\x<8))) λw'=>w=w'):=by
 obtain⟨q,d⟩:∃q,decide (0<=x/\x<8)=q:=⟨_,rfl⟩;rw[d];have h:=A1 d;by_cases h1:0<=x<;>by_cases h2:x<8
 all_goals try (exfalso;omega)
 all_goals
  go_enter func63,ntmps63
  go_wp2;go_ret;refine⟨?_,rfl⟩;rw[<-h.o];simp
  try omega
def Ls(w:gx)(x:Int):Ag 58 #[A0 x] w (Aj (.bool (decide (1<=x/\x<=4611686018427387904))) λw'=>w=w'):=by
 obtain⟨q,d⟩:∃q,decide (1<=x/\x<=4611686018427387904)=q:=⟨_,rfl⟩;rw[d];have h:=A1 d;by_cases h1:1<=x<;>by_cases h2:x<=4611686018427387904
 all_goals try (exfalso;omega)
 all_goals
  go_enter func58,ntmps58
  go_wp2;go_ret;refine⟨?_,rfl⟩;rw[<-h.o];simp
  try omega
def AN(A7 ld:Int):Int:=if A7 < -9223372036854775808+ld then -9223372036854775808 else A7-ld+1
def A0a(A7 ld t:Int)(d:Ay t):decide (AN A7 ld<=t)=ED t ld A7:=by
 obtain⟨t1,t2⟩:=d;unfold AN ED;split<;>simp<;>omega
def ML(w:gx)(d:Nat)(A7 ld:Int)(c3:A8 w d 3 (A0 ld))(c4:A8 w d 5 (A0 A7))(L:1<=ld/\ld<=4611686018427387904)(O:Ay A7):
 Ag 71 #[A5 d] w (Aj (A0 (AN A7 ld)) λw'=>A4 Aa w w'):=by
 obtain⟨l1,l2⟩:=L;obtain⟨k1,k2⟩:=O;have ew:IntKind.i64.wrap (-9223372036854775808+ld) = -9223372036854775808+ld:=Eo (by omega)
 go_enter func71,ntmps71
 go_wp2;refine FN (λw'=>A8 w' d 3 (A0 ld)/\A8 w' d 5 (A0 A7)) 9
  (Ba [0,1,2,3,4,5,6,7,8] []) (by kernel_rfl) (by kernel_rfl) (λ_ _ _ _ _ h=>h) ⟨c3,c4⟩ ?_
 iterate 9 (refine E1 (v:=?_) rfl (by rfl) ?_ ?_;rotate_left;(· (intro w' I;(try dsimp only at I);go_simp;try with_reducible rfl));(try simp only[BO]))
 refine Fx ?_;simp only[DH,Dl];have d3:A8 w.drew d 3 (A0 ld):=c3;have d4:A8 w.drew d 5 (A0 A7):=c4;have E:Hid (A4 Aa w w.drew):=(A4.C _ w).aa;generalize w.drew=w1 at d3 d4 E ⊢;by_cases h:A7 < -9223372036854775808+ld
 ·have z:Hid (AN A7 ld = -9223372036854775808):=by unfold Hid AN;rw[Ai h]
  go_wp2;go_ret;rw[z.o];exact⟨rfl,E.o⟩
 ·have z:Hid (AN A7 ld=A7-ld+1):=by unfold Hid AN;rw[Af h]
  have ew2:IntKind.i64.wrap (A7-ld)=A7-ld:=Eo (by omega);have ew3:IntKind.i64.wrap (A7-ld+1)=A7-ld+1:=Eo (by omega);go_wp2;refine FN (λw'=>A8 w' d 3 (A0 ld)/\A8 w' d 5 (A0 A7)) 10
   (Ba [0,1,2,3,4,5,6,7,8,9] []) (by kernel_rfl) (by kernel_rfl) (λ_ _ _ _ _ h=>h) ⟨d3,d4⟩ ?_
  iterate 10 (refine E1 (v:=?_) rfl (by rfl) ?_ ?_;rotate_left;(· (intro w' I;(try dsimp only at I);go_simp;try with_reducible rfl));(try simp only[BO]))
  refine Fx ?_;simp only[DH,Dl];go_wp2;go_ret;rw[z.o];exact⟨rfl,E.o.aa⟩
section
variable{P:Program}
def Mt(w:gx)(dT sT ty elem:TypeId)(i:TypeInfo)(size:Nat)(g o z L:Nat)(a:Addr)(h E k:Nat)(d:Array gy)(t:TypeId)(cs:gD gy)(hu:P.underlying dT=some (.slice elem))(hi:P.info? elem=some i)(I:i.size=size)(hg:w.heap[g]?=some (.cells d t (0,0)))(hn:Nat.min h z=k)(Y:cs.length=k*size)(X:∀j v,cs[j]?=some v->w.cell? (a.add j)=some v)(W:o+cs.length<=d.size)(h1:∀v∈cs,v.oneCell'=true):
 (Builtin.copy_ #[dT,sT] ty #[.slice (some (A9 g o)) z L,.slice (some a) h E]).run P w =
  .ok (goInt k) (w.setRow g (d.toList.take o++cs++d.toList.drop (o+cs.length)).toArray):=by
 subst I;have hf:=RM (P:=P) w i.size k a h E cs Y X;have O:=run_storeCells_at P g o t cs 0 d w hg (by simpa using W) h1;simp only[Qk]at O;simp[Builtin.copy_,run_underlying hu,Builtin.lenOf,sizeOf,typeInfo,hi,hn,hf,O]
def Yt(w:gx)(t tn ty e:TypeId)(i:TypeInfo)(z:gy)(kn:IntKind)(ht:P.underlying t=some (.slice e))(Y:P.underlying tn=some (.int kn))(hi:P.info? e=some i)(hz:i.zero=some z)(hs0:0<i.size)(h:Option Addr)(len cap:Nat)(d:gD gy)(W:(Builtin.firstCells i.size len (.slice h len cap)).run P w.drew=.ok d.toArray w.drew)(n:Nat)(h0:0<n)(hgrow:cap<len+n)(h63:((len+n:Nat):Int)<=9223372036854775807)(h48:n*i.bytes<=281474976710656)(hcap:Builtin.nextslicecap (len+n) cap*i.bytes<=281474976710656):
 (Builtin.append_ #[t,tn] ty #[.slice h len cap,.int .i64 n]).run P w =
  .ok (.slice (some ⟨w.heap.size,0,none⟩) (len+n) (grownCap w (len+n) cap e)) (w.drew.alloc (.cells (d.toArray++Builtin.zeroCells z.cells n++Builtin.zeroCells z.cells (grownCap w (len+n) cap e-(len+n))) e)):=by
 have hw:IntKind.i64.wrap (n:Int)=n:=by rw[JV];omega
 have X:¬((n:Int)<0):=by omega
 have O:¬(281474976710656<(n:Int)*(i.bytes:Int)):=by rw[<-Int.natCast_mul];omega
 have aA:¬(n*i.size=0):=Nat.mul_ne_zero (by omega) (by omega);have E:¬(len+n<=cap):=by omega
 have I:¬(281474976710656<Builtin.nextslicecap (len+n) cap*i.bytes):=by omega
 have L:¬(9223372036854775807<(len:Int)+(n:Int)):=by omega
 simp[Builtin.append_,run_underlying ht,run_underlying Y,sizeOf,typeInfo,zeroValue,hi,hz,asInt,asIntOf,hw,X,aA,O,E,I,L,Question.forced,W,newRow,grownCap]
def SX{w:gx}{z e size n g cap:Nat}{xs:gD gy}(h:w.ownsRow z e size (.slice (some ⟨g,0,none⟩) n cap) n xs):∃d:Array gy,w.heap[g]?=some (.cells d e (0,0))/\d.size=cap*size/\d.toList.take (n*size)=xs/\n<=cap/\cap<=maxLen:=by
 rcases h.2 with⟨I,_⟩|⟨g',cap',d,I,_,X,L,E,O,W⟩
 ·cases I
 ·cases I;exact⟨d,X,O,W,L,E⟩
end
def B7:gD Pt->gD gy
 | []=>[]
 | (t,v):: r=>A0 t::A0 v::B7 r
def GA(l:gD Pt):(B7 l).length=l.length*2:=by
 induction l with
 | nil=>rfl
 | cons e r ih=>obtain⟨n,f⟩:=e;simp only[B7,CA,ih];omega
def Lc(a b:gD Pt):B7 (a++b)=B7 a++B7 b:=by
 induction a with
 | nil=>rfl
 | cons e r ih=>obtain⟨n,f⟩:=e;simp[B7,ih]
def OE(l:gD Pt)(k:Nat):(B7 l).take (k*2)=B7 (l.take k):=by
 induction l generalizing k with
 | nil=>simp[B7]
 | cons e r ih=>
  obtain⟨n,f⟩:=e
  match k with
  | 0=>simp[B7]
  | k+1=>rw[show (k+1)*2=k*2+1+1 from by omega];simp[B7,ih]
def MG(l:gD Pt)(k:Nat):(B7 l).drop (k*2)=B7 (l.drop k):=by
 induction l generalizing k with
 | nil=>simp[B7]
 | cons e r ih=>
  obtain⟨n,f⟩:=e
  match k with
  | 0=>simp[B7]
  | k+1=>rw[show (k+1)*2=k*2+1+1 from by omega];simp[B7,ih]
def MF(l:gD Pt)(k:Nat)(h:k<l.length):(B7 l)[k*2]?=some (A0 (l[k]'h).1):=by
 induction l generalizing k with
 | nil=>simp at h
 | cons e r ih=>
  obtain⟨n,f⟩:=e
  match k with
  | 0=>simp[B7]
  | k+1=>
   have:=ih k (by simpa using h);rw[show (k+1)*2=k*2+1+1 from by omega];simpa[B7] using this
def ME(l:gD Pt)(k:Nat)(h:k<l.length):(B7 l)[k*2+1]?=some (A0 (l[k]'h).2):=by
 induction l generalizing k with
 | nil=>simp at h
 | cons e r ih=>
  obtain⟨n,f⟩:=e
  match k with
  | 0=>simp[B7]
  | k+1=>
   have:=ih k (by simpa using h);rw[show (k+1)*2+1=k*2+1+1+1 from by omega];simpa[B7] using this
def La(l:gD Pt)(k:Nat)(p:Pt)(h:k<l.length):((B7 l).set (k*2) (A0 p.1)).set (k*2+1) (A0 p.2)=B7 (l.set k p):=by
 induction l generalizing k with
 | nil=>simp at h
 | cons e r ih=>
  obtain⟨n,f⟩:=e
  match k with
  | 0=>simp[B7]
  | k+1=>
   have:=ih k (by simpa using h);rw[show (k+1)*2=k*2+1+1 from by omega];simp only[B7,Qn];rw[this]
def Zs(l:gD Pt)(k:Nat)(v:Int)(h:k<l.length):(B7 l).set (k*2+1) (A0 v)=B7 (l.set k ((l[k]'h).1,v)):=by
 induction l generalizing k with
 | nil=>simp at h
 | cons e r ih=>
  obtain⟨n,f⟩:=e
  match k with
  | 0=>simp[B7]
  | k+1=>
   have:=ih k (by simpa using h);rw[show (k+1)*2=k*2+1+1 from by omega];simp only[B7,Qn,NC];rw[this]
def Lb(l:gD Pt):∀u∈B7 l,u.oneCell'=true:=by
 induction l with
 | nil=>simp[B7]
 | cons e r ih=>
  obtain⟨n,f⟩:=e;intro u hu;simp only[B7,BS]at hu;rcases hu with rfl|rfl|hu
  ·rfl
  ·rfl
  ·exact ih u hu
def Ck(w:gx)(v:gy)(l:gD Pt):Prop:=w.ownsRow 0 70 2 v l.length (B7 l)
def Ck.bu{w:gx}{g n cap:Nat}{l:gD Pt}(h:Ck w (AA g n cap) l)(k:Nat)(d:k<l.length):A8 w g (k*2) (A0 (l[k]'d).1)/\A8 w g (k*2+1) (A0 (l[k]'d).2):=by
 have z:n=l.length:=by
  have⟨_,_,e,_⟩:=B8 h;cases e;rfl
 subst z;exact⟨Bv h rfl (MF l k d),Bv h rfl (ME l k d)⟩
abbrev Pu:=Int×Int×Int
def B5:gD Pu->gD gy
 | []=>[]
 | (s,t,v):: r=>A0 s::A0 t::A0 v::B5 r
def Zm(l:gD Pu):(B5 l).length=l.length*3:=by
 induction l with
 | nil=>rfl
 | cons e r ih=>obtain⟨n,f,g⟩:=e;simp only[B5,CA,ih];omega
def Ig(a b:gD Pu):B5 (a++b)=B5 a++B5 b:=by
 induction a with
 | nil=>rfl
 | cons e r ih=>obtain⟨n,f,g⟩:=e;simp[B5,ih]
def Zl(l:gD Pu)(k:Nat):(B5 l).take (k*3)=B5 (l.take k):=by
 induction l generalizing k with
 | nil=>simp[B5]
 | cons e r ih=>
  obtain⟨n,f,g⟩:=e
  match k with
  | 0=>simp[B5]
  | k+1=>rw[show (k+1)*3=k*3+1+1+1 from by omega];simp[B5,ih]
def Hv(l:gD Pu)(k:Nat)(h:k<l.length):(B5 l)[k*3]?=some (A0 (l[k]'h).1)/\(B5 l)[k*3+1]?=some (A0 (l[k]'h).2.1)/\(B5 l)[k*3+2]?=some (A0 (l[k]'h).2.2):=by
 induction l generalizing k with
 | nil=>simp at h
 | cons e r ih=>
  obtain⟨n,f,g⟩:=e
  match k with
  | 0=>simp[B5]
  | k+1=>
   have⟨h1,h2,h3⟩:=ih k (by simpa using h);rw[show (k+1)*3=k*3+1+1+1 from by omega];refine⟨by simpa[B5] using h1,by simpa[B5] using h2,by simpa[B5] using h3⟩
def Hu(l:gD Pu):∀u∈B5 l,u.oneCell'=true:=by
 induction l with
 | nil=>simp[B5]
 | cons e r ih=>
  obtain⟨n,f,g⟩:=e;intro u hu;simp only[B5,BS]at hu;rcases hu with rfl|rfl|rfl|hu
  ·rfl
  ·rfl
  ·rfl
  ·exact ih u hu
def GS(w:gx)(v:gy)(l:gD Pu):Prop:=w.ownsRow 0 141 3 v l.length (B5 l)
def GS.BW{w:gx}{v:gy}{l:gD Pu}(h:GS w v l):
 ∃a cap,v=.slice a l.length cap/\l.length<=cap/\cap<=maxLen/\∀k (d:k<l.length),∃g,a=some (A9 g 0)/\g<w.heap.size/\A8 w g (k*3) (A0 (l[k]'d).1)/\A8 w g (k*3+1) (A0 (l[k]'d).2.1)/\A8 w g (k*3+2) (A0 (l[k]'d).2.2):=by
 rcases B8 h with⟨a,cap,rfl,E,z,I,_,_⟩;refine⟨a,cap,rfl,E,z,λk d=>?_⟩;obtain⟨g,rfl⟩:=I (by omega);have⟨q1,q2,q3⟩:=Hv l k d;exact⟨g,rfl,Aw h rfl,Bv h rfl q1,Bv h rfl q2,Bv h rfl q3⟩
structure DS where
 A6:gD AO
 AF:gD AO
 As:gD (gD AO)
 n:DN
abbrev FC:=gD UInt8×Int
def Dp(f:Nat)(es:gD AO):Prop:=∃e∈es,e.2=f
def DS.Aq(D:DS)(f:Nat):Prop:=Dp f D.A6\/Dp f D.AF\/∃c∈D.As,Dp f c
structure C9 (w:gx) (b:Nat) (D:DS) (F:Nat->FC) (vd vs vc:gy) (aA:gD gy) (VB:Nat->gy):Prop where
 Ae:AM w b vd vs vc D.n
 A6:Dd w vd D.A6
 AF:Dd w vs D.AF
 Am:w.ownsRow 0 120 1 vc D.As.length aA
 Di:∀i (h:i<D.As.length),∃v,aA[i]?=some v/\Dd w v (D.As[i]'h)
 BN:∀f,D.Aq f->Db w f (VB f) (F f).2/\Gf w (VB f) (F f).1
 GG:∀f f' g,D.Aq f->D.Aq f'->(VB f).ownBlock=some g->(VB f').ownBlock=some g->f=f'
def Cf(b:Nat)(D:DS)(vd vs vc:gy)(aA:gD gy)(VB:Nat->gy)(k:Nat):Prop:=
 k=b\/vd.ownBlock=some k\/vs.ownBlock=some k\/vc.ownBlock=some k\/(∃v∈aA,v.ownBlock=some k)\/D.Aq k\/∃f,D.Aq f/\(VB f).ownBlock=some k
section
variable{b:Nat}{D:DS}{vd vs vc:gy}{aA:gD gy}{VB:Nat->gy}
def Cf.Ae:Cf b D vd vs vc aA VB b:=.inl rfl
def Cf.A6{k:Nat}(h:vd.ownBlock=some k):Cf b D vd vs vc aA VB k:=.inr (.inl h)
def Cf.AF{k:Nat}(h:vs.ownBlock=some k):Cf b D vd vs vc aA VB k:=.inr (.inr (.inl h))
def Cf.Am{k:Nat}(h:vc.ownBlock=some k):Cf b D vd vs vc aA VB k:=.inr (.inr (.inr (.inl h)))
def Cf.Di{k:Nat}{v:gy}(d:v∈aA)(h:v.ownBlock=some k):Cf b D vd vs vc aA VB k:=.inr (.inr (.inr (.inr (.inl ⟨v,d,h⟩))))
def Cf.BN{f:Nat}(h:D.Aq f):Cf b D vd vs vc aA VB f:=.inr (.inr (.inr (.inr (.inr (.inl h)))))
def Cf.bE{f k:Nat}(d:D.Aq f)(h:(VB f).ownBlock=some k):Cf b D vd vs vc aA VB k:=.inr (.inr (.inr (.inr (.inr (.inr ⟨f,d,h⟩)))))
def Cf.bN{d:(k:Nat)->Cf b D vd vs vc aA VB k->Prop}(Ae:d b .Ae)(dir:∀ {k} (e:vd.ownBlock=some k),d k (.A6 e))(Ad:∀ {k} (e:vs.ownBlock=some k),d k (.AF e))(Am:∀ {k} (e:vc.ownBlock=some k),d k (.Am e))(Di:∀ {k v} (E:v∈aA) (e:v.ownBlock=some k),d k (.Di E e))(BN:∀ {f} (h:D.Aq f),d f (.BN h))(byt:∀ {f k} (z:D.Aq f) (e:(VB f).ownBlock=some k),d k (.bE z e)){k:Nat}(t:Cf b D vd vs vc aA VB k):d k t:=by
 rcases t with rfl|e|e|e|⟨v,E,e⟩|h|⟨f,z,e⟩
 ·exact Ae
 ·exact dir e
 ·exact Ad e
 ·exact Am e
 ·exact Di E e
 ·exact BN h
 ·exact byt z e
end
def Dj(w:gx)(b:Nat)(D:DS)(F:Nat->FC)(Ft:Nat->Prop):Prop:=
 ∃vd vs vc aA VB,C9 w b D F vd vs vc aA VB/\∀k,Cf b D vd vs vc aA VB k->Ft k
section
variable{w w':gx}{b:Nat}{D:DS}{F:Nat->FC}{vd vs vc:gy}{aA:gD gy}{VB:Nat->gy}
def C9.dG(h:C9 w b D F vd vs vc aA VB):aA.length=D.As.length:=by have:=h.Am.1;omega
def C9.lt(h:C9 w b D F vd vs vc aA VB){k:Nat}(z:Cf b D vd vs vc aA VB k):k<w.heap.size:=by
 cases z using Cf.bN with
 | Ae=>exact By h.Ae
 | dir e=>exact Aw h.A6 e
 | Ad e=>exact Aw h.AF e
 | Am e=>exact Aw h.Am e
 | Di hv e=>
  have⟨i,hi⟩:=List.getElem?_of_mem hv;have d:i<D.As.length:=by rw[<-h.dG];exact(I6.1 hi).1
  have⟨v',h1,h2⟩:=h.Di i d;rw[hi]at h1;cases h1;exact Aw h2 e
 | BN hf=>exact By (h.BN _ hf).1
 | byt hf e=>exact Aw (h.BN _ hf).2 e
def C9.aM(h:C9 w b D F vd vs vc aA VB)(z:Gr (Cf b D vd vs vc aA VB) w w'):C9 w' b D F vd vs vc aA VB:=by
 refine⟨?_,?_,?_,?_,?_,?_,h.GG⟩
 ·have:=h.Ae;unfold AM at this ⊢;rw[z b .Ae];exact this
 ·exact Au h.A6 λg d=>z g (.A6 d)
 ·exact Au h.AF λg d=>z g (.AF d)
 ·exact Au h.Am λg d=>z g (.Am d)
 ·intro i I;have⟨v,h1,h2⟩:=h.Di i I;exact⟨v,h1,Au h2 λg d=>z g (.Di (LZ h1) d)⟩
 ·intro f E;have⟨h1,h2⟩:=h.BN f E;refine⟨?_,Au h2 λg d=>z g (.bE E d)⟩;unfold Db at h1 ⊢;rw[z f (.BN E)];exact h1
def Dj.aM{Ft:Nat->Prop}(h:Dj w b D F Ft)(E:Gr Ft w w'):Dj w' b D F Ft:=by
 obtain⟨vd,vs,vc,aA,VB,z,d⟩:=h;exact⟨vd,vs,vc,aA,VB,z.aM (E.ai d),d⟩
def BR{w:gx}{g k:Nat}{c L:Array gy}{e E:Nat}(h:w.heap[g]?=some (.cells c e (0,0)))(z:w.heap[k]?=some (.cells L E (0,0)))(d:e≠E):g≠k:=by
 intro I;subst I;rw[h]at z;cases z;exact d rfl
def C9.an(h:C9 w b D F vd vs vc aA VB){n:DN}(L:AM w' b vd vs vc n)(O:A4 (One b) w w'):C9 w' b {D with n:=n} F vd vs vc aA VB:=by
 have d:∀(k:Nat) (c:Array gy) (e:Nat),w.heap[k]?=some (Obj.cells c e (0,0))->e≠95->w'.heap[k]?=w.heap[k]?:=λk c e d I=>
  O.Al k (By d) (BR d h.Ae I)
 refine⟨L,?_,?_,?_,?_,?_,h.GG⟩
 ·exact Au h.A6 λg z=>by have⟨c,hh⟩:=Bb h.A6 z;exact d g _ _ hh (by decide)
 ·exact Au h.AF λg z=>by have⟨c,hh⟩:=Bb h.AF z;exact d g _ _ hh (by decide)
 ·exact Au h.Am λg z=>by have⟨c,hh⟩:=Bb h.Am z;exact d g _ _ hh (by decide)
 ·intro i W;have⟨v,h1,h2⟩:=h.Di i W;exact⟨v,h1,Au h2 λg z=>by have⟨c,hh⟩:=Bb h2 z;exact d g _ _ hh (by decide)⟩
 ·intro f E;have⟨h1,h2⟩:=h.BN f E;refine⟨?_,Au h2 λg z=>by have⟨c,hh⟩:=Bb h2 z;exact d g _ _ hh (by decide)⟩;unfold Db at h1 ⊢;rw[d f _ _ h1 (by decide)];exact h1
end
def lookup:gD AO->gC->Option Nat
 | [],_=>none
 | e::r,nd=>if e.1=nd then some e.2 else lookup r nd
def Jv(es:gD AO)(d:gC):(B9 es d = -1/\lookup es d=none)\/∃k,∃z:k<es.length,B9 es d=(k:Int)/\lookup es d=some (es[k]'z).2/\(es[k]'z).1=d:=by
 induction es with
 | nil=>exact .inl ⟨rfl,rfl⟩
 | cons e r ih=>
  by_cases h:e.1=d
  ·exact .inr ⟨0,by simp,by simp[B9,h],by simp[lookup,h],by simpa using h⟩
  ·rcases ih with⟨I,E⟩|⟨k,z,I,E,L⟩
   ·exact .inl ⟨by simp[B9,h,I],by simp[lookup,h,E]⟩
   ·exact .inr ⟨k+1,by simpa using z,by simp only[B9,h,Cd,I];rw[Af (by omega)];omega,by simp[lookup,h,E],by simpa using L⟩
def C9.cq{w:gx}{b:Nat}{D:DS}{F:Nat->FC}{vd vs vc:gy}{aA:gD gy}{VB:Nat->gy}(h:C9 w b D F vd vs vc aA VB)(k:Nat)(d:k<D.A6.length):
 Db w (D.A6[k]'d).2 (VB (D.A6[k]'d).2) (F (D.A6[k]'d).2).2/\Gf w (VB (D.A6[k]'d).2) (F (D.A6[k]'d).2).1:=h.BN _ (.inl ⟨_,BV d,rfl⟩)
def Gf.BW{w:gx}{v:gy}{bs:gD UInt8}(h:Gf w v bs):∃a cap,v=.slice a bs.length cap/\bs.length<=cap/\cap<=maxLen:=by
 have⟨a,cap,h1,h2,h3,_⟩:=B8 h;exact⟨a,cap,h1,h2,h3⟩
def DB(w:gx)(Ft:Nat->Prop)(w':gx)(b:Nat)(D':DS)(F':Nat->FC):Prop:=
 A4 Ft w w'/\∃d,Dj w' b D' F' d/\(∀k,d k->k<w'.heap.size)/\∀k,d k->Ft k\/w.heap.size<=k
def DB.bC{w w':gx}{Ft:Nat->Prop}{b:Nat}{D':DS}{F':Nat->FC}{vd vs vc:gy}{aA:gD gy}{VB:Nat->gy}(E:A4 Ft w w')(h:C9 w' b D' F' vd vs vc aA VB)(z:∀k,Cf b D' vd vs vc aA VB k->Ft k\/w.heap.size<=k):DB w Ft w' b D' F':=
 ⟨E,_,⟨vd,vs,vc,aA,VB,h,λ_ d=>d⟩,λ_ d=>h.lt d,z⟩
def C9.cA{w w':gx}{b:Nat}{D:DS}{F F':Nat->FC}{vd vs vc vl aD:gy}{aA:gD gy}{VB VB':Nat->gy}{n:DN}{es:gD AO}{S:Nat->Prop}(h:C9 w b D F vd vs vc aA VB)(hb:AM w' b vl vs aD n)(aG:w'.ownsRow 0 120 1 aD (D.As.length+1) (aA++[vl]))(aE:Dd w' vl es)(hc:A4 S w w')(hS:∀k,S k->k=b\/vc.ownBlock=some k)(hF:∀f,D.Aq f->F' f=F f/\VB' f=VB f)(W:∀f,Dp f es->D.Aq f\/(Db w' f (VB' f) (F' f).2/\Gf w' (VB' f) (F' f).1/\(VB' f).ownBlock=none)):
 C9 w' b {D with A6:=es,As:=D.As++[es],n:=n} F' vl vs aD (aA++[vl]) VB':=by
 have L:∀(k:Nat) (c:Array gy) (e:Nat),w.heap[k]?=some (Obj.cells c e (0,0))->e≠95->e≠120->w'.heap[k]?=w.heap[k]?:=λk c e L he aH=>
  hc.Al k (By L) (λhs=>by
   rcases hS k hs with hs|hs
   ·exact BR L h.Ae he hs
   ·have⟨c',hh⟩:=Bb h.Am hs
    exact BR L hh aH rfl)
 have I:∀f,({D with A6:=es,As:=D.As++[es],n:=n}:DS).Aq f->D.Aq f\/Dp f es:=by
  rintro f (d|d|⟨c,z,d⟩)
  ·exact .inr d
  ·exact .inl (.inr (.inl d))
  ·rcases AX.1 z with z|z
   ·exact .inl (.inr (.inr ⟨c,z,d⟩))
   ·simp at z;subst z;exact .inr d
 have O:∀f,D.Aq f->Db w' f (VB' f) (F' f).2/\Gf w' (VB' f) (F' f).1:=by
  intro f d;have⟨h1,Y⟩:=h.BN f d;rw[(hF f d).1,(hF f d).2];refine⟨?_,Au Y λg E=>by have⟨c,hh⟩:=Bb Y E;exact L g _ _ hh (by decide) (by decide)⟩;unfold Db at h1 ⊢;rw[L f _ _ h1 (by decide) (by decide)];exact h1
 refine⟨hb,aE,?_,?_,?_,?_,?_⟩
 ·exact Au h.AF λg E=>by have⟨c,hh⟩:=Bb h.AF E;exact L g _ _ hh (by decide) (by decide)
 ·simpa using aG
 ·intro i hi;by_cases X:i<D.As.length
  ·have⟨v,h1,Y⟩:=h.Di i X;refine⟨v,by rw[Jb (by rw[h.dG];exact X)];exact h1,?_⟩;simp only[Fs X];(exact Au Y λg E=>by have⟨c,hh⟩:=Bb Y E;exact L g _ _ hh (by decide) (by decide))
  ·(obtain rfl:i=D.As.length:=by simp at hi;omega);refine⟨vl,by rw[<-h.dG];simp,?_⟩;simpa using aE
 ·intro f d;rcases I f d with d|d
  ·exact O f d
  ·rcases W f d with d|⟨h1,Y,_⟩
   ·exact O f d
   ·exact⟨h1,Y⟩
 ·intro f f' g d aF E aB;have key:∀f,({D with A6:=es,As:=D.As++[es],n:=n}:DS).Aq f->(VB' f).ownBlock=some g->D.Aq f:=by
   intro f d E;rcases I f d with d|d
   ·exact d
   ·rcases W f d with d|⟨_,_,h3⟩
    ·exact d
    ·rw[h3]at E;cases E
  have k1:=key f d E;have k2:=key f' aF aB;rw[(hF f k1).2]at E;rw[(hF f' k2).2]at aB;exact h.GG f f' g k1 k2 E aB
end
section
open Go.RowKit
attribute [local go_sem ↓] Go.wp_at_zero Go.wp_at_succ
def DM(w:gx)(v:gy)(es:gD AO)(X:gC)(h:Dd w v es):
 Ag 77 #[v,.string X] w (Aj (A0 (B9 es X)) λw'=>w=w'):=by
 obtain⟨a,cap,rfl,hc1,aB,z⟩:=h.BW;unfold maxLen at aB
 go_enter func77,ntmps77
 go_wp2;go_loop [5,8] (λj i=>∃k:Nat,k<=es.length/\i=A0 k/\Hid (∀m (W:m<k) (Y:m<es.length),(es[m]'Y).1≠X)) (λ_ i=>es.length-(intOf i).toNat)
 ·exact⟨0,Ch _,rfl,λm W=>absurd W (by omega)⟩
 ·obtain⟨k,hk,rfl,L⟩:=hrel;by_cases O:k<es.length
  ·obtain⟨g,rfl,hn,hp⟩:=z k O;by_cases I:(es[k]'O).1=X
   ·have ht:=(Q2 _ _).2 I;have hf:=Hid.o L;have d:=A1Z es X k O I (λm W=>hf m W (by omega));have E:=A1 <| d;clear d;go_wp2;go_ret;exact⟨by rw[E.o];rfl,rfl⟩
   ·have ht:=(V8 _ _).2 I;have aA:=A1 <| I;go_wp2;go_round
    ·exact⟨k+1,by omega,by go_num,λm W Y=>by rcases F9 m k with h|h;exact L m h Y;(obtain rfl:m=k:=(by omega));exact aA.o⟩
    ·simp[intOf];omega
  ·have d:=A1X es X (λm W=>Hid.o L m (by omega) W);have E:=A1 <| d;clear d z;go_wp2;go_ret;exact⟨by rw[E.o];rfl,rfl⟩
def bg(n:DN):Bool×Int×DN:=
 let c:=wrap64 (n.Bc+1)
 if n.Bh then (false,5,{n with Bc:=c,Bk:=wrap64 (n.Bk+1)})
 else if c=n.CW then (true,5,{n with Bc:=c,Bk:=wrap64 (n.Bk+1),Bh:=true})
 else if c=n.E0 then (false,5,{n with Bc:=c,Bk:=wrap64 (n.Bk+1)})
 else (true,0,{n with Bc:=c})
def Hj(w:gx)(b:Nat)(vd W vc:gy)(n:DN)(h:AM w b vd W vc n):
 Ag 121 #[A5 b] w (Aj (.tuple #[.bool (bg n).1,A0 (bg n).2.1]) λw'=>AM w' b vd W vc (bg n).2.2/\A4 (One b) w w'):=by
 have h4:=h.c4;have h5:=h.c5;have h6:=h.c6;have h8:=h.c8;have h10:=h.bt;have hf:=h.fz;have e1:=(h.s4 (wrap64 (n.Bc+1)));have Y:=e1.s8 (wrap64 (n.Bk+1));have e3:=Y.cm true;have aA:=(A4.C (One b) w).ao rfl 4 (A0 (wrap64 (n.Bc+1)));have L:=aA.ao rfl 8 (A0 (wrap64 (n.Bk+1)));have aF:=L.ao rfl 10 (.bool true);have aG:=A1 e1;have X:=A1 Y;have aD:=A1 e3;have aB:=A1 aA;have O:=A1 L;have aE:=A1 aF;by_cases I:n.Bh=true
 ·have q:Hid (bg n=(false,5,{n with Bc:=wrap64 (n.Bc+1),Bk:=wrap64 (n.Bk+1)})):=by unfold Hid;simp[bg,I]
  go_enter func121,ntmps121
  go_wp2;go_ret2;rw[q.o];exact⟨rfl,X.o,O.o⟩
 ·have d:n.Bh=false:=by simpa using I
  by_cases hc:(wrap64 (n.Bc+1)==n.CW)=true
  ·(have q:Hid (bg n=(true,5,{n with Bc:=wrap64 (n.Bc+1),Bk:=wrap64 (n.Bk+1),Bh:=true})):=by unfold Hid;simp[bg,d,eq_of_beq hc])
   go_enter func121,ntmps121
   go_wp2;go_region_held3 (λw'=>w'.cell? ⟨b,4,none⟩=some (A0 (wrap64 (n.Bc+1)))/\w'.cell? ⟨b,5,none⟩=some (A0 n.CW)) (refine⟨?_,?_⟩<;>go_simp) (fail);go_wp2;go_ret2;rw[q.o];exact⟨rfl,aD.o,aE.o.aa⟩
  ·(have z:(wrap64 (n.Bc+1)==n.CW)=false:=by simpa using hc);by_cases hl:(wrap64 (n.Bc+1)==n.E0)=true
   ·have q:Hid (bg n=(false,5,{n with Bc:=wrap64 (n.Bc+1),Bk:=wrap64 (n.Bk+1)})):=by
     have:=Tr z;unfold Hid bg;dsimp only;rw[Af (by rw[d];decide),Af this,Ai (eq_of_beq hl)]
    go_enter func121,ntmps121
    go_wp2;go_region_held3 (λw'=>w'.cell? ⟨b,4,none⟩=some (A0 (wrap64 (n.Bc+1)))/\w'.cell? ⟨b,5,none⟩=some (A0 n.CW)) (refine⟨?_,?_⟩<;>go_simp) (fail);go_wp2;go_region_held3 (λw'=>w'.cell? ⟨b,4,none⟩=some (A0 (wrap64 (n.Bc+1)))/\w'.cell? ⟨b,6,none⟩=some (A0 n.E0)) (refine⟨?_,?_⟩<;>go_simp) (fail);go_wp2;go_ret2;rw[q.o];exact⟨rfl,X.o,O.o.aa.aa⟩
   ·(have E:(wrap64 (n.Bc+1)==n.E0)=false:=by simpa using hl);have q:Hid (bg n=(true,0,{n with Bc:=wrap64 (n.Bc+1)})):=by
     have:=Tr z;have h2:=Tr E;unfold Hid bg;dsimp only;rw[Af (by rw[d];decide),Af this,Af h2]
    go_enter func121,ntmps121
    go_wp2;go_region_held3 (λw'=>w'.cell? ⟨b,4,none⟩=some (A0 (wrap64 (n.Bc+1)))/\w'.cell? ⟨b,5,none⟩=some (A0 n.CW)) (refine⟨?_,?_⟩<;>go_simp) (fail);go_wp2;go_region_held3 (λw'=>w'.cell? ⟨b,4,none⟩=some (A0 (wrap64 (n.Bc+1)))/\w'.cell? ⟨b,6,none⟩=some (A0 n.E0)) (refine⟨?_,?_⟩<;>go_simp) (fail);go_wp2;go_ret2;rw[q.o];exact⟨rfl,aG.o,aB.o.aa.aa⟩
def Tryz.db:(Tryz.prog.info? 125).map (λi=>(i.zero,i.size,i.bytes))=some (some (.agg #[.string ByteArray.empty,.pointer none]),2,24):=by kernel_rfl
def Tryz.en:(Tryz.prog.info? 120).map (λi=>(i.zero,i.size,i.bytes))=some (some (.agg #[.slice none 0 0]),1,24):=by kernel_rfl
def Tryz.infoByte:(Tryz.prog.info? 5).map (λi=>(i.zero,i.size,i.bytes))=some (some (.int .u8 0),1,1):=by kernel_rfl
def Tryz.fa:(Tryz.prog.info? 9).map (λi=>(i.zero,i.size,i.bytes))=some (some (.string ByteArray.empty),1,16):=by kernel_rfl
def HD(room:Int):DN:=⟨room,0,0,0,0,0,0,false⟩
def A0h(room:Int)(w:gx):
 Ag 21 #[A0 room] w (Aj (A5 w.heap.size) λw'=>AM w' w.heap.size (.slice none 0 0) (.slice none 0 0) (.slice none 0 0) (HD room)/\w'.heap.size=w.heap.size+1/\A4 Aa w w'):=by
 go_enter func21,ntmps21
 go_wp2;go_ret;exact⟨rfl,Bl w _,by simp,(A4.C _ w).aj _⟩
def A2q(w:gx)(b:Nat)(E z d:gy)(n:DN)(c:Int)(h:AM w b E z d n):
 Ag 35 #[A5 b,A0 c] w (Aj (.tuple #[]) λw'=>AM w' b E z d {n with CW:=if c>0 then wrap64 (n.Bc+c) else 0}/\A4 (One b) w w'):=by
 have h4:=h.c4;have h5:=h.c5;have hf:=h.fz;have O:=A1 (h.s5 0);have W:=A1 ((h.s5 0).s5 (wrap64 (n.Bc+c)));have I:=A1 ((A4.C (One b) w).ao rfl 5 (A0 0));have L:=A1 (((A4.C (One b) w).ao rfl 5 (A0 0)).ao rfl 5 (A0 (wrap64 (n.Bc+c))))
 go_enter func35,ntmps35
 go_wp2
 ·go_end0;exact⟨rfl,W.o,L.o⟩
 ·go_end0;exact⟨rfl,O.o,I.o⟩
def EO(n:DN)(c p:Int):DN:={n with E0:=if c>0 then wrap64 (n.Bc+c) else 0,BG:=if p<0 then wrap64 (-(wrap64 (p+1))) else p}
def A11(w:gx)(b:Nat)(L I E:gy)(n:DN)(c p:Int)(h:AM w b L I E n):
 Ag 78 #[A5 b,A0 c,A0 p] w (Aj (.tuple #[]) λw'=>AM w' b L I E (EO n c p)/\A4 (One b) w w'):=by
 have h4:=h.c4;have h6:=h.c6;have h7:=h.c7;have hf:=h.fz;have Q:=A1 <| h
 go_enter func78,ntmps78
 go_wp2
 ·have z:0<c:=by assumption
  have d:p<0:=by assumption
  go_end0;have q:EO n c p = {n with E0:=wrap64 (n.Bc+c),BG:=wrap64 (-(wrap64 (p+1)))}:=by simp[EO,z,d]
  rw[q];exact⟨rfl,(((Q.o.s6 0).s6 _).s7 _).s7 _,((((A4.C (One b) w).ao rfl 6 _).ao rfl 6 _).ao rfl 7 _).ao rfl 7 _⟩
 ·have z:0<c:=by assumption
  have d:0<=p:=by assumption
  go_end0;have q:EO n c p = {n with E0:=wrap64 (n.Bc+c),BG:=p}:=by simp[EO,z];omega
  rw[q];exact⟨rfl,((Q.o.s6 0).s6 _).s7 _,(((A4.C (One b) w).ao rfl 6 _).ao rfl 6 _).ao rfl 7 _⟩
 ·have z:c<=0:=by assumption
  have d:p<0:=by assumption
  go_end0;have q:EO n c p = {n with E0:=0,BG:=wrap64 (-(wrap64 (p+1)))}:=by simp[EO,d];omega
  rw[q];exact⟨rfl,((Q.o.s6 0).s7 _).s7 _,(((A4.C (One b) w).ao rfl 6 _).ao rfl 7 _).ao rfl 7 _⟩
 ·have z:c<=0:=by assumption
  have d:0<=p:=by assumption
  go_end0;have q:EO n c p = {n with E0:=0,BG:=p}:=by simp[EO];omega
  rw[q];exact⟨rfl,(Q.o.s6 0).s7 _,((A4.C (One b) w).ao rfl 6 _).ao rfl 7 _⟩
def A2i(w:gx)(b:Nat)(E z d:gy)(n:DN)(h:AM w b E z d n):
 Ag 36 #[A5 b] w (Aj (.bool n.Bh) λw'=>w=w'):=by
 have h4:=h.bt
 go_enter func36,ntmps36
 go_wp2;go_ret;exact⟨rfl,rfl⟩
def YX(w:gx)(b:Nat)(E z d:gy)(n:DN)(h:AM w b E z d n):
 Ag 50 #[A5 b] w (Aj (A0 n.Bk) λw'=>w=w'):=by
 have h4:=h.c8
 go_enter func50,ntmps50
 go_wp2;go_ret;exact⟨rfl,rfl⟩
def A1P(w:gx)(b:Nat)(E z d:gy)(n:DN)(h:AM w b E z d n):
 Ag 88 #[A5 b] w (Aj (A0 n.fulls) λw'=>w=w'):=by
 have h4:=h.c9
 go_enter func88,ntmps88
 go_wp2;go_ret;exact⟨rfl,rfl⟩
def CJ(D:DS)(F:Nat->FC)(d:gC):Int×Int:=match lookup D.A6 d with
 | some f=>(((F f).1.length:Nat),0)
 | none=>(0,8)
def Y4(w:gx)(b:Nat)(D:DS)(F:Nat->FC)(vd Y vc:gy)(E:gD gy)(aA:Nat->gy)(h:C9 w b D F vd Y vc E aA)(d:gC):
 Ag 81 #[A5 b,.string d] w (Aj (.tuple #[A0 (CJ D F d).1,A0 (CJ D F d).2]) λw'=>w=w'):=by
 have hc:=h.Ae.c0;obtain⟨a,cap,rfl,hc1,O,z⟩:=h.A6.BW;have W:=h.A6;unfold maxLen at O;rcases Jv D.A6 d with⟨X,I⟩|⟨k,L,X,I,h3⟩
 ·have q:Hid (CJ D F d=(0,8)):=by unfold Hid CJ;rw[I]
  have hfi:B9 D.A6 d<0:=by omega
  go_enter func81,ntmps81
  go_wp2_with (go_at_call 77;refine(DM _ _ _ _ W).k ?_;rintro w' rfl);go_ret2;rw[q.o];exact⟨rfl,rfl⟩
 ·have q:Hid (CJ D F d=((((F (D.A6[k]'L).2).1.length:Nat):Int),0)):=by unfold Hid CJ;rw[I]
  have⟨hfb,hbs⟩:=h.cq k L;have⟨a',cap',hv,_,_⟩:=hbs.BW;rw[hv]at hfb;have hb0:=hfb.c0;obtain⟨g,rfl,hn,hp⟩:=z k L;have aB:=A1 <| X
  go_enter func81,ntmps81
  go_wp2_with (go_at_call 77;refine(DM _ _ _ _ W).k ?_;rintro w' rfl;rw[aB.o]);go_ret2;rw[q.o];exact⟨rfl,rfl⟩
def Ml(w:gx)(b:Nat)(vd vs I:gy)(n:DN)(m:Nat)(d:gD gy)(a:Option Addr)(len cap:Nat)(h:AM w b vd vs I n)(hc:w.ownsRow 0 120 1 I m d)(hm:m<1099511627776):
 Ag 122 #[A5 b,.slice a len cap] w (Aj (.tuple #[]) λw'=>
  ∃E,AM w' b (.slice a len cap) vs E n/\w'.ownsRow 0 120 1 E (m+1) (d++[.slice a len cap])/\A4 (λk=>k=b\/I.ownBlock=some k) w w'/\(∀g,E.ownBlock=some g->I.ownBlock=some g\/w.heap.size<=g)):=by
 have⟨i0,hi,hz0,hz1,hz2⟩:=DL Tryz.en;have h2:=h.c2;have h0:=h.c0;have hf:=h.fz;have L:I.ownBlock≠some b:=by
  intro e;have⟨c,hh⟩:=Bb hc e;exact BR hh h (by decide) rfl
 have hs:=A1 (h.s0 (.slice a len cap));have X:=A1 ((OH hc (a:=(A9 b 0)) L (.slice a len cap)).alloc (.cells #[.slice a len cap] 120));have W:=A1 (Src.bc (size:=1) underlying93 (w.sC b 0 (.slice a len cap)) #[.slice a len cap] 120 w.heap.size (by simp) 1 1 rfl (by simp[Value.oneCell']));have aA:=A1 (((A4.C (λk=>k=b\/I.oB k) w).ao (.inl rfl) 0 (.slice a len cap)).aj (.cells #[.slice a len cap] 120));have Y:=A1 <| L
 go_enter func122,ntmps122
 go_wp2_with (at_builtin;go_loud (refine CU rfl (.tmp 12) (.tmp 15) 93 93 rfl 120 i0 _ 1 24 underlying93 hi hz0 hz1 hz2 rfl (by decide) I m d (by rfl) X.o _ 1 _ (by rfl) W.o (by omega) ?_);intro a2 cap2 w1 O;have z:=(hs.o.aj _).C7 O.C7 Y.o;have h21:=z.c2;have hf1:=z.fz);go_end0;refine⟨rfl,_,z.s2 _,?_,?_,?_⟩
 ·refine OH O.AB (a:=(A9 b 2)) ?_ _;intro e;have⟨c,hh⟩:=Bb O.AB e;exact BR hh z (by decide) rfl
 ·exact(aA.o.C7 O.C7 (λk hk _=>.inr hk)).ao (.inl rfl) 2 _
 ·intro g hg;rcases O.BY with h|h
  ·exact .inl (h.symm.trans hg)
  ·right;rw[hg]at h;cases h;simp
def upd(F:Nat->FC)(f0:Nat)(c:FC):Nat->FC:=λf=>if f=f0 then c else F f
def CV(D:DS)(d:gC)(f0:Nat):Int×DS:=
 if d=ByteArray.empty\/B9 D.A6 d≥0 then (8,D) else
  ((bg D.n).2.1,if (bg D.n).1 then {D with A6:=D.A6++[(d,f0)],As:=D.As++[D.A6++[(d,f0)]],n:=(bg D.n).2.2} else {D with n:=(bg D.n).2.2})
def isEmpty_iff(s:gC):s.toList.isEmpty=true↔s=ByteArray.empty:=by
 rw[List.isEmpty_iff,KP];exact⟨λh=>A4i (by rw[h];rfl),λh=>by rw[h];rfl⟩
def C9.eO{w:gx}{b:Nat}{D:DS}{F:Nat->FC}{O E z:gy}{d:gD gy}{L:Nat->gy}(h:C9 w b D F O E z d L){f0:Nat}(hf:w.heap.size<=f0)(c:FC):
 C9 w b D (upd F f0 c) O E z d L:=
 ⟨h.Ae,h.A6,h.AF,h.Am,h.Di,λf I=>by
  have:f≠f0:=by have:=h.lt (.BN I);omega
  simp only[upd,this,Cd];exact h.BN f I,h.GG⟩
def Cf.n{b:Nat}{D:DS}{n:DN}{L E z:gy}{d:gD gy}{I:Nat->gy}{k:Nat}(h:Cf b {D with n:=n} L E z d I k):Cf b D L E z d I k:=by
 cases h using Cf.bN with
 | Ae=>exact .Ae
 | dir e=>exact .A6 e
 | Ad e=>exact .AF e
 | Am e=>exact .Am e
 | Di h e=>exact .Di h e
 | BN h=>exact .BN h
 | byt h e=>exact .bE h e
def C9.bV{w w':gx}{b:Nat}{D:DS}{F:Nat->FC}{L I O:gy}{d:gD gy}{W:Nat->gy}{Ft:Nat->Prop}(h:C9 w b D F L I O d W)(z:∀k,Cf b D L I O d W k->Ft k){n:DN}(Y:AM w' b L I O n)(X:A4 (One b) w w'):DB w Ft w' b {D with n:=n} F:=
 DB.bC (X.ai λk _ E=>by cases E;exact z b .Ae) (h.an Y X) λk E=>.inl (z k E.n)
def App.Am{w w':gx}{e size n:Nat}{v z:gy}{xs:gD gy}(h:App w w' e size v z n xs){S:Nat->Prop}(E:∀k,v.ownBlock=some k->S k):A4 S w w':=
 (A4.C S w).C7 h.C7 λk d _=>E k d
def Db.aw{w w':gx}{f:Nat}{d:gy}{Ad:Int}(h:Db w f d Ad)(z:w'.heap[f]?=w.heap[f]?):Db w' f d Ad:=z.trans h
def A2t{w w1 L w3 w5:gx}{b:Nat}{D:DS}{F:Nat->FC}{vd vs vc aA aD:gy}{X:gD gy}{aH:Nat->gy}{Ft:Nat->Prop}{n1:DN}{a3:Option Addr}{W:Nat}{nd:gC}(hr:C9 w b D F vd vs vc X aH)(E:∀k,Cf b D vd vs vc X aH k->Ft k)(aJ:AM w1 b vd vs vc n1)(aE:A4 (One b) w w1)(hA:App w1 L 125 2 (.slice none 0 0) aA D.A6.length (C8 D.A6))(hB:App ((L.alloc (.cells #[.slice none 0 0,.int .i64 0] 129)).alloc (.cells #[.string nd,.pointer (some ⟨L.heap.size,0,none⟩)] 125)) w3 125 2 aA (.slice a3 (D.A6.length+1) W) (D.A6.length+1) (C8 D.A6++[.string nd,.pointer (some ⟨L.heap.size,0,none⟩)]))(aI:AM w5 b (.slice a3 (D.A6.length+1) W) vs aD n1)(aK:w5.ownsRow 0 120 1 aD (D.As.length+1) (X++[.slice a3 (D.A6.length+1) W]))(Y:A4 (λk=>k=b\/vc.ownBlock=some k) w3 w5)(hv:∀g,aD.ownBlock=some g->vc.ownBlock=some g\/w3.heap.size<=g):
 w.heap.size<=L.heap.size/\DB w Ft w5 b {D with A6:=D.A6++[(nd,L.heap.size)],As:=D.As++[D.A6++[(nd,L.heap.size)]],n:=n1} (upd F L.heap.size ([],0)):=by
 have aB:∀k,aA.ownBlock=some k->k=w1.heap.size:=by
  intro k O;rcases hA.BY with h|h
  ·rw[h]at O;cases O
  ·rw[h]at O;cases O;rfl
 have s1:=aE.Ak;have s2:=hA.C7.size;have s3:=hB.C7.size;simp only[Nn]at s3;have c13:=
  (((hA.Am (S:=λ_=>False) (by intro k O;simp[Value.ownBlock]at O)).aj (.cells #[.slice none 0 0,.int .i64 0] 129)).aj (.cells #[.string nd,.pointer (some ⟨L.heap.size,0,none⟩)] 125)).C7 hB.C7
    (λk O hlt=>by have:=aB k O;omega)
 have r1:=hr.an aJ aE;have r3:=r1.aM λk O=>c13.Al k (r1.lt O) (λh=>h);have f0:Db ((L.alloc (.cells #[.slice none 0 0,.int .i64 0] 129)).alloc (.cells #[.string nd,.pointer (some ⟨L.heap.size,0,none⟩)] 125)) L.heap.size (.slice none 0 0) 0:=by
  unfold Db;rw[CY _ _ _ (by simp)];exact Bl _ _
 have f3:=f0.aw (hB.C7.block _ (by simp;omega) (λe=>by have:=Aw hA.AB e.symm;omega))
 have f5:=f3.aw (Y.Al _ (by omega) (by
  rintro (e|e)
  ·exact BR f3 r3.Ae (by decide) e
  ·have⟨c,hh⟩:=Bb r3.Am e
   exact BR f3 hh (by decide) rfl))
 have e3:Dd w3 (.slice a3 (D.A6.length+1) W) (D.A6++[(nd,L.heap.size)]):=by
  have:=hB.AB;unfold Dd;rw[LA];simpa[C8] using this
 have e5:=Au e3 λg hg=>Y.Al g (Aw e3 hg) (by
  have⟨c,hh⟩:=Bb e3 hg;rintro (e|e)
  ·exact BR hh r3.Ae (by decide) e
  ·have⟨c',hh'⟩:=Bb r3.Am e
   exact BR hh hh' (by decide) rfl)
 have aF:∀f,D.Aq f->f≠L.heap.size:=λf I=>by have:=hr.lt (.BN I);omega
 have r5:=r3.cA (F':=upd F L.heap.size ([],0)) (VB':=λf=>if f=L.heap.size then .slice none 0 0 else aH f) (es:=D.A6++[(nd,L.heap.size)]) aI aK e5 Y (λk O=>O)
  (λf I=>by have:=aF f I;simp[upd,this])
  (λf I=>by
   obtain⟨e,d,rfl⟩:=I;rcases AX.1 d with d|d
   ·exact .inl (.inl ⟨e,d,rfl⟩)
   ·simp at d;subst d;right;simp only[upd,Cq]
    exact⟨f5,Co _ _ _ _,rfl⟩)
 refine⟨by omega,DB.bC ?_ r5 ?_⟩
 ·have a:=(aE.ai (S':=Ft) λk _ O=>by cases O;exact E b .Ae).AH c13 (λx hx=>hx.elim);refine a.AH Y ?_;rintro x (e|e) _
  ·subst e;exact E x .Ae
  ·exact E x (.Am e)
 ·intro k O;cases O using Cf.bN with
  | Ae=>exact .inl (E b .Ae)
  | dir e=>
   rcases hB.BY with h|h
   ·rw[h]at e;have:=aB _ e;right;omega
   ·rw[h]at e;cases e;right;simp;omega
  | Ad e=>exact .inl (E k (.AF e))
  | Am e=>
   rcases hv k e with h|h
   ·exact .inl (E k (.Am h))
   ·right;omega
  | Di hm e=>
   rcases AX.1 hm with hm|hm
   ·exact .inl (E k (.Di hm e))
   ·simp at hm;subst hm;rcases hB.BY with h|h
    ·rw[h]at e;have:=aB _ e;right;omega
    ·rw[h]at e;cases e;right;simp;omega
  | BN I=>
   rcases I with⟨e,d,rfl⟩|I|⟨c,z,I⟩
   ·rcases AX.1 d with d|d
    ·exact .inl (E _ (.BN (.inl ⟨e,d,rfl⟩)))
    ·simp at d;subst d;right;simp;omega
   ·exact .inl (E _ (.BN (.inr (.inl I))))
   ·rcases AX.1 z with z|z
    ·exact .inl (E _ (.BN (.inr (.inr ⟨c,z,I⟩))))
    ·simp at z;subst z;obtain⟨e,d,rfl⟩:=I;rcases AX.1 d with d|d
     ·exact .inl (E _ (.BN (.inl ⟨e,d,rfl⟩)))
     ·simp at d;subst d;right;simp;omega
  | byt I e=>
   rename_i f;by_cases hx:f=L.heap.size
   ·simp[hx,Value.ownBlock]at e
   ·simp only[hx,Cd]at e;have aG:D.Aq f:=by
     rcases I with⟨en,d,rfl⟩|I|⟨c,z,I⟩
     ·rcases AX.1 d with d|d
      ·exact .inl ⟨en,d,rfl⟩
      ·simp at d;subst d;exact absurd rfl hx
     ·exact .inr (.inl I)
     ·rcases AX.1 z with z|z
      ·exact .inr (.inr ⟨c,z,I⟩)
      ·simp at z;subst z;obtain⟨en,d,rfl⟩:=I;rcases AX.1 d with d|d
       ·exact .inl ⟨en,d,rfl⟩
       ·simp at d;subst d;exact absurd rfl hx
    exact .inl (E _ (.bE aG e))
def A2s{I w2 O:gx}{b:Nat}{D:DS}{F:Nat->FC}{Y W L E:gy}{d:gD gy}{aB:Nat->gy}{n1:DN}{v3:gy}{n2:Nat}{xs:gD gy}{o1 o2:Obj}(aA:AM I b Y W L n1)(r1:C9 I b {D with n:=n1} F Y W L d aB)(hA:App I w2 125 2 (.slice none 0 0) E D.A6.length (C8 D.A6))(hB:App ((w2.alloc o1).alloc o2) O 125 2 E v3 n2 xs):
 AM O b Y W L n1/\O.ownsRow 0 120 1 L D.As.length d:=by
 have X:∀k,E.ownBlock=some k->k=I.heap.size:=by
  intro k z;rcases hA.BY with h|h
  ·rw[h]at z;cases z
  ·rw[h]at z;cases z;rfl
 have c13:=
  (((hA.Am (S:=λ_=>False) (by intro k z;simp[Value.ownBlock]at z)).aj o1).aj o2).C7 hB.C7 (λk z hlt=>by have:=X k z;omega)
 refine⟨aA.Am c13 (λh=>h),Au r1.Am λg hg=>c13.Al g (Aw r1.Am hg) (λh=>h)⟩
def A2u(w:gx)(b:Nat)(D:DS)(F:Nat->FC)(Ft:Nat->Prop)(h:Dj w b D F Ft)(d:gC)(hs:D.A6.length<1099511627776/\D.As.length<1099511627776):
 Ag 83 #[A5 b,.string d] w λe w'=>∃f0,w.heap.size<=f0/\e=.returned (A0 (CV D d f0).1)/\DB w Ft w' b (CV D d f0).2 (upd F f0 ([],0)):=by
 obtain⟨vd,vs,vc,X,aN,hr,aA⟩:=h;obtain⟨hs1,aJ⟩:=hs;have hq:∀f0,w.heap.size<=f0->(CV D d f0).2=D->DB w Ft w b (CV D d f0).2 (upd F f0 ([],0)):=λf0 hf e=>by
  rw[e];exact DB.bC (A4.C _ _) (hr.eO hf _) λk hk=>.inl (aA k hk)
 have aL:=A1 hq;have aH:=A1 hr;have c0:=hr.Ae.c0;have hd:=A1 hr.A6;have aE:=A1 hr.Ae;have⟨ad,cap,hvd,_⟩:=hr.A6.BW;clear hr hvd;by_cases hn:d.toList.isEmpty=true
 ·have q:Hid (CV D d w.heap.size=(8,D)):=by unfold Hid CV;rw[Ai (.inl ((isEmpty_iff _).1 hn))]
  go_enter func83,ntmps83
  go_wp2;go_ret;exact⟨_,Ao _,by rw[q.o];rfl,aL.o _ (Ao _) (by rw[q.o])⟩
 ·have hn':d.toList.isEmpty=false:=by simpa using hn
  have aF:Hid (d≠ByteArray.empty):=λe=>hn ((isEmpty_iff _).2 e);clear hn;by_cases hx:(0:Int)<=B9 D.A6 d
  ·(have q:Hid (CV D d w.heap.size=(8,D)):=by unfold Hid CV;rw[Ai (.inr hx)])
   go_enter func83,ntmps83
   go_wp2_with (go_at_call 77;refine(DM _ _ _ _ hd.o).k ?_;rintro w' rfl);go_ret;exact⟨_,Ao _,by rw[q.o];rfl,aL.o _ (Ao _) (by rw[q.o])⟩
  ·have q:Hid (∀f0,CV D d f0=((bg D.n).2.1,if (bg D.n).1 then {D with A6:=D.A6++[(d,f0)],As:=D.As++[D.A6++[(d,f0)]],n:=(bg D.n).2.2} else {D with n:=(bg D.n).2.2})):=by
    intro f0;unfold CV;rw[Af (by rintro (h|h);exact aF h;exact hx h)]
   (have hx':B9 D.A6 d<0:=by omega);by_cases aB:(bg D.n).1=true
   ·have⟨i0,hi,hz0,hz1,hz2⟩:=DL Tryz.db
    have fin:Hid (∀(I E w3 w5:gx) (Y L:gy) (a3:Option Addr) (z:Nat),AM I b vd vs vc (bg D.n).2.2->A4 (One b) w I->App I E 125 2 (.slice none 0 0) Y D.A6.length (C8 D.A6)->
     App ((E.alloc (.cells #[.slice none 0 0,A0 0] 129)).alloc (.cells #[.string d,A5 E.heap.size] 125)) w3 125 2 Y (.slice a3 (D.A6.length+1) z) (D.A6.length+1) (C8 D.A6++[.string d,A5 E.heap.size])->
     AM w5 b (.slice a3 (D.A6.length+1) z) vs L (bg D.n).2.2->w5.ownsRow 0 120 1 L (D.As.length+1) (X++[.slice a3 (D.A6.length+1) z])->A4 (λk=>k=b\/vc.ownBlock=some k) w3 w5->(∀g,L.ownBlock=some g->vc.ownBlock=some g\/w3.heap.size<=g)->
     w.heap.size<=E.heap.size/\DB w Ft w5 b {D with A6:=D.A6++[(d,E.heap.size)],As:=D.As++[D.A6++[(d,E.heap.size)]],n:=(bg D.n).2.2} (upd F E.heap.size ([],0))):=
     λI E w3 w5 Y L a3 z h1 h2 h3 h4 h5 h6 h7 h8=>A2t aH.o aA h1 h2 h3 h4 h5 h6 h7 h8
    have aK:Hid (∀I,AM I b vd vs vc (bg D.n).2.2->A4 (One b) w I->C9 I b {D with n:=(bg D.n).2.2} F vd vs vc X aN):=λI h1 h2=>aH.o.an h1 h2
    go_enter func83,ntmps83
    go_wp2_with (first
     | (go_at_call 77;refine(DM _ _ _ _ hd.o).k ?_;rintro w' rfl)
     | (go_at_call 121;refine(Hj _ _ _ _ _ _ aE.o).k ?_;rintro I⟨O,W⟩;have c01:=O.c0;have aM:=A1 (aK.o I O W))
     | (at_builtin;refine CU rfl (.const (.slice none 0 0)) (.tmp 28) 92 92 rfl 125 i0 _ 2 24 Fj hi hz0 hz1 hz2 rfl (by decide) (.slice none 0 0) 0 [] (by rfl) (Co _ 0 125 2) vd D.A6.length (C8 D.A6) (by rfl) (Src.bP Fj aM.o.A6 (PA _)) (by omega) ?_;intro a2 cap2 E hA;simp only[Ha,Fa]at hA;have aI:=A1 ((hA.AB.alloc (.cells #[.slice none 0 0,A0 0] 129)).alloc (.cells #[.string d,A5 E.heap.size] 125));have aG:=A1 (Src.bc (size:=2) Fj (E.alloc (.cells #[.slice none 0 0,A0 0] 129)) #[.string d,A5 E.heap.size] 125 (E.heap.size+1) (by simp) 1 1 rfl (by simp[Value.oneCell'])))
     | (at_builtin;refine CU rfl (.tmp 31) (.tmp 36) 92 92 rfl 125 i0 _ 2 24 Fj hi hz0 hz1 hz2 rfl (by decide) _ D.A6.length (C8 D.A6) (by rfl) aI.o _ 1 _ (by rfl) aG.o (by omega) ?_;intro a3 z w3 hB;have hm:=A1 (A2s O aM.o hA hB))
     | (go_at_call 122;refine(Ml _ b vd vs vc _ _ _ _ _ _ hm.o.1 hm.o.2 aJ).k ?_;rintro w5⟨L,k1,k2,k3,k4⟩))
    go_ret;have⟨g1,g2⟩:=fin.o I E w3 w5 _ L a3 z O W hA hB k1 k2 k3 k4;refine⟨E.heap.size,g1,by rw[q.o];rfl,?_⟩;rw[q.o,aB];exact g2
   ·(have aD:(bg D.n).1=false:=by simpa using aB)
    go_enter func83,ntmps83
    go_wp2_with (first|(go_at_call 77;refine(DM _ _ _ _ hd.o).k ?_;rintro w' rfl)|(go_at_call 121;refine(Hj _ _ _ _ _ _ aE.o).k ?_;rintro I⟨O,W⟩));go_ret;refine⟨w.heap.size,Ao _,by rw[q.o];rfl,?_⟩;rw[q.o,aD];exact(aH.o.eO (Ao _) _).bV aA O W
end
end Go.Proofs.YtodcnkbblippnaaGreatDoor
